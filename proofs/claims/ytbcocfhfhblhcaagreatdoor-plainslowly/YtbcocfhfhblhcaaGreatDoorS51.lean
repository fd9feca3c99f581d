import Derived.Test.YtbcocfhfhblhcaaGreatDoorS50
import Derived.Test.YtbcocfhfhblhcaaGreatDoorS48
import Derived.Laws.AppendOwnNone
import Derived.Deep.RegionHeld3
namespace Go.Proofs.YtbcocfhfhblhcaaGreatDoor.Fl
open Go.RowKit
open Ieee
set_option linter.unusedVariables false
set_option linter.unusedSimpArgs false
theorem big64:9223372036854775808<Big:=by decide
theorem sgA {z:Int} (h:0<=z):¬ sg z<0:=by unfold sg;split <;> (try split) <;> omega
theorem sgB {z:Int} (h:z<=0):¬ sg z>0:=by unfold sg;split <;> (try split) <;> omega
set_option maxRecDepth 10000 in
set_option maxHeartbeats 8000000 in
theorem longW (s:Bool) (ad:Option Addr) (m k:Nat) (Z:Int) (w:World) (h:Wn w s ad m k Z) (bZ:Z.natAbs<Big) :
  Calls Tryz.prog 56 #[.agg #[.bool s,.slice ad m k,.int .i64 0]] w fun r w'=>r = .returned (.tuple #[.int .i64 (if In64 Z then Z else 0),.bool (decide (In64 Z))])/\Hid (Gr w w'):=by
 have b1:(-9223372036854775808:Int).natAbs<Big:=big64
 have b2:(9223372036854775807:Int).natAbs<Big:=Nat.lt_trans (by decide) big64
 have W1:Hid (∀ w1,Gr w w1->Calls Tryz.prog 53 #[.int .i64 (-9223372036854775808)] w1 fun r w'=>WnA w' r (-9223372036854775808)/\Gr w1 w'):=fun w1 _=>wnWhole _ w1 (by decide)
 have W2:Hid (∀ w1,Gr w w1->Calls Tryz.prog 53 #[.int .i64 9223372036854775807] w1 fun r w'=>WnA w' r 9223372036854775807/\Gr w1 w'):=fun w1 _=>wnWhole _ w1 (by decide)
 have C1:Hid (∀ w1 t a2 n2 k2,Gr w w1->Wn w1 t a2 n2 k2 (-9223372036854775808)->Calls Tryz.prog 94 #[.agg #[.bool s,.slice ad m k,.int .i64 0],.agg #[.bool t,.slice a2 n2 k2,.int .i64 0]] w1 fun r w'=>r = .returned (.int .i64 (sg (Z - -9223372036854775808)))/\Gr w1 w'):=fun w1 t a2 n2 k2 g h2=>wnCmp s t ad a2 m n2 k k2 Z (-9223372036854775808) w1 (h.gr g) h2 bZ b1
 have C2:Hid (∀ w1 t a2 n2 k2,Gr w w1->Wn w1 t a2 n2 k2 9223372036854775807->Calls Tryz.prog 94 #[.agg #[.bool s,.slice ad m k,.int .i64 0],.agg #[.bool t,.slice a2 n2 k2,.int .i64 0]] w1 fun r w'=>r = .returned (.int .i64 (sg (Z-9223372036854775807)))/\Gr w1 w'):=fun w1 t a2 n2 k2 g h2=>wnCmp s t ad a2 m n2 k k2 Z 9223372036854775807 w1 (h.gr g) h2 bZ b2
 have TBH:=hide (first_block w (.cells #[.bool s,.slice ad m k,.int .i64 0] 92))
 have TGH:Hid (Gr w (w.alloc (.cells #[.bool s,.slice ad m k,.int .i64 0] 92))):=(Gr.refl w).alloc _
 clear b1 b2
 by_cases hL:Z < -9223372036854775808
 ·have hn:¬ In64 Z:=by unfold In64;omega
  rw [if_neg hn,decide_eq_false hn]
  rw [sg_neg (by omega)] at C1
  go_enter Tryz.func56,Tryz.ntmps56
  go_wp2
  generalize w.alloc (.cells #[.bool s,.slice ad m k,.int .i64 0] 92)=wA at *
  obtain ⟨z0,z1,z2,_,_,_⟩:=outF3 TBH.out
  refine Code.wp_mono ?_ (reg56L _ _ _ _ _ _ _ _ _ _ _ _ _ _ _ _ _ _ _ _ _ _ _ _ _ _ _ _ _ _ 0 _ w.heap.size m k s ad wA (fun w1 g=>W1.out w1 (TGH.out.trans g)) (fun w1 t a2 n2 k2 g h2=>C1.out w1 t a2 n2 k2 (TGH.out.trans g) h2) (fun w1 g=>W2.out w1 (TGH.out.trans g)) (fun w1 t a2 n2 k2 g h2=>C2.out w1 t a2 n2 k2 (TGH.out.trans g) h2) ⟨z0,z1,z2⟩)
  intro e a1 w1 hR
  cases e <;> first | (exact False.elim hR) | skip
  obtain ⟨u5,u6,u7,u8,u9,u10,u11,u12,u13,rfl,G1⟩:=hR
  have GA:=hide (TGH.out.trans G1)
  have B1:=hide (G1.keepH TBH.out)
  clear W1 W2 C1 C2 TBH TGH z0 z1 z2 G1
  go_wp2
  go_ret2
  exact ⟨rfl,GA⟩
 ·by_cases hU:Z>9223372036854775807
  ·have hn:¬ In64 Z:=by unfold In64;omega
   rw [if_neg hn,decide_eq_false hn]
   rw [sg_pos (x:=Z-9223372036854775807) (by omega)] at C2
   have q1:=hide (sgA (z:=Z - -9223372036854775808) (by omega))
   go_enter Tryz.func56,Tryz.ntmps56
   go_wp2
   generalize w.alloc (.cells #[.bool s,.slice ad m k,.int .i64 0] 92)=wA at *
   obtain ⟨z0,z1,z2,_,_,_⟩:=outF3 TBH.out
   refine Code.wp_mono ?_ (reg56U _ _ _ _ _ _ _ _ _ _ _ _ _ _ _ _ _ _ _ _ _ _ _ _ _ _ _ _ _ _ (sg (Z - -9223372036854775808)) 0 w.heap.size m k s ad wA (by have:=q1.out;omega) (fun w1 g=>W1.out w1 (TGH.out.trans g)) (fun w1 t a2 n2 k2 g h2=>C1.out w1 t a2 n2 k2 (TGH.out.trans g) h2) (fun w1 g=>W2.out w1 (TGH.out.trans g)) (fun w1 t a2 n2 k2 g h2=>C2.out w1 t a2 n2 k2 (TGH.out.trans g) h2) ⟨z0,z1,z2⟩)
   intro e a1 w1 hR
   cases e <;> first | (exact False.elim hR) | skip
   obtain ⟨u5,u6,u7,u8,u9,u10,u11,u12,u13,rfl,G1⟩:=hR
   have GA:=hide (TGH.out.trans G1)
   have B1:=hide (G1.keepH TBH.out)
   clear W1 W2 C1 C2 TBH TGH z0 z1 z2 G1
   go_wp2
   go_ret2
   exact ⟨rfl,GA⟩
  ·have hn:In64 Z:=by unfold In64;omega
   rw [if_pos hn,decide_eq_true hn]
   have q1:=hide (sgA (z:=Z - -9223372036854775808) (by omega))
   have q2:=hide (sgB (z:=Z-9223372036854775807) (by omega))
   obtain ⟨x,lx,vx⟩:=h
   have bx:=bl_big (x:=x) (by rw [sI_abs vx];exact bZ)
   have ZR:Hid (∀ w1,Gr w w1->Calls Tryz.prog 88 #[.agg #[.bool s,.slice ad m k,.int .i64 0]] w1 fun r w'=>r = .returned (.bool (decide (x=0)))/\Gr w1 w'):=fun w1 g=>zero57 s ad m k x 0 w1 (lx.gr g) (by omega)
   have NU:Hid (0<x->∀ w1,Gr w w1->Calls Tryz.prog 89 #[.slice ad m k,.int .i64 0] w1 fun r w'=>∃ b o cap,r = .returned (.slice (some ⟨b,o,none⟩) 1 cap)/\1<=cap/\cap<=9223372036854775807/\w'.cell? ⟨b,o,none⟩=some (.int .u64 (x:Int))/\Gr w1 w'):=fun h0 w1 g=>up_head ad m k x 0 x w1 0 (lx.gr g) h0 (by omega) rfl (by omega) (by omega) (by have:=sI_abs vx;omega)
   have VX:=hide vx
   clear lx vx bx hn
   go_enter Tryz.func56,Tryz.ntmps56
   go_wp2
   generalize w.alloc (.cells #[.bool s,.slice ad m k,.int .i64 0] 92)=wA at *
   obtain ⟨z0,z1,z2,_,_,_⟩:=outF3 TBH.out
   refine Code.wp_mono ?_ (reg56M _ _ _ _ _ _ _ _ _ _ _ _ _ _ _ _ _ _ _ _ _ _ _ _ _ _ _ _ _ _ (sg (Z - -9223372036854775808)) (sg (Z-9223372036854775807)) w.heap.size m k s ad wA (by have:=q1.out;omega) (by have:=q2.out;omega) (fun w1 g=>W1.out w1 (TGH.out.trans g)) (fun w1 t a2 n2 k2 g h2=>C1.out w1 t a2 n2 k2 (TGH.out.trans g) h2) (fun w1 g=>W2.out w1 (TGH.out.trans g)) (fun w1 t a2 n2 k2 g h2=>C2.out w1 t a2 n2 k2 (TGH.out.trans g) h2) ⟨z0,z1,z2⟩)
   intro e a1 w1 hR
   cases e <;> first | (exact False.elim hR) | skip
   obtain ⟨u5,u6,u7,u8,u9,u10,u11,u12,u13,rfl,G1⟩:=hR
   have GA:=hide (TGH.out.trans G1)
   have B1:=hide (G1.keepH TBH.out)
   clear W1 W2 C1 C2 TBH TGH z0 z1 z2 G1
   clear q1 q2
   by_cases h0:x=0
   ·have hz:Z=0:=by have:=VX.out;unfold sI at this;split at this <;> omega
    have d0:decide (x=0)=true:=decide_eq_true h0
    rw [d0] at ZR
    obtain ⟨z0,z1,z2,_,_,_⟩:=outF3 B1.out
    clear NU VX
    go_wp2_with (go_at_call 88;(with_reducible refine (ZR.out _ GA.out).mono ?_);rintro r w2 ⟨rfl,g2⟩)
    go_ret2
    exact ⟨by rw [hz];rfl,GA.out.trans g2⟩
   ·have d0:decide (x=0)=false:=decide_eq_false h0
    rw [d0] at ZR
    obtain ⟨z0,z1,z2,_,_,_⟩:=outF3 B1.out
    have NU2:=hide (NU.out (by omega))
    clear NU
    cases s
    ·have e1:wrap64 (x:Int)=Z:=by have:=VX.out;unfold sI at this;simp at this;unfold wrap64;omega
     clear VX
     go_wp2_with (first | (go_at_call 88;(with_reducible refine (ZR.out _ GA.out).mono ?_);rintro r w2 ⟨rfl,g2⟩;obtain ⟨y0,y1,y2,_,_,_⟩:=outF3 (g2.keepH B1.out)) | (go_at_call 89;(with_reducible refine (NU2.out _ (GA.out.trans g2)).mono ?_);rintro r w3 ⟨b,o,cp,rfl,cp1,cp2,hc,g3⟩;obtain ⟨v0,v1,v2,_,_,_⟩:=outF3 (g3.keepH (g2.keepH B1.out))))
     go_ret2
     exact ⟨by rw [<-e1];rfl,GA.out.trans (g2.trans g3)⟩
    ·have e1:IntKind.i64.wrap (-(wrap64 (x:Int)))=Z:=by have:=VX.out;unfold sI at this;simp at this;rw [IntKind.wrap_i64];unfold wrap64;omega
     clear VX
     go_wp2_with (first | (go_at_call 88;(with_reducible refine (ZR.out _ GA.out).mono ?_);rintro r w2 ⟨rfl,g2⟩;obtain ⟨y0,y1,y2,_,_,_⟩:=outF3 (g2.keepH B1.out)) | (go_at_call 89;(with_reducible refine (NU2.out _ (GA.out.trans g2)).mono ?_);rintro r w3 ⟨b,o,cp,rfl,cp1,cp2,hc,g3⟩;obtain ⟨v0,v1,v2,_,_,_⟩:=outF3 (g3.keepH (g2.keepH B1.out))))
     go_ret2
     exact ⟨by rw [<-e1];rfl,GA.out.trans (g2.trans g3)⟩
end Go.Proofs.YtbcocfhfhblhcaaGreatDoor.Fl
namespace Go.Proofs.YtbcocfhfhblhcaaGreatDoor.Fl
open Go.RowKit
open Ieee
open Go.Proofs.YtbcocfhfhblhcaaGreatDoor.Jx (cvI cv_le pv Sup cv_pv pv_sup si)
set_option linter.unusedVariables false
set_option linter.unusedSimpArgs false
def gl (xs:List Int) (i:Nat):Int:=xs.getD i 0
theorem iz_append (xs ys:List Int):iz (xs++ys)=iz xs++iz ys:=by simp [iz]
theorem gl_in {xs:List Int} {B:Nat} (h:∀ x∈xs,x.natAbs<=B) (i:Nat):(gl xs i).natAbs<=B:=by
 unfold gl
 rw [List.getD_eq_getElem?_getD]
 by_cases hi:i<xs.length
 ·rw [List.getElem?_eq_getElem hi,Option.getD_some];exact h _ (List.getElem_mem _)
 ·rw [List.getElem?_eq_none (by omega)];simp
theorem own_len {w:World} {base:Nat} {v:Value} {n:Nat} {xs:List Int} (h:w.ownsRow base 2 1 v n (iz xs)):xs.length=n:=by have:=h.1;rw [iz_length] at this;omega
theorem ArgI.of_owns {w:World} {base:Nat} {v:Value} {n B:Nat} {xs:List Int} (h:w.ownsRow base 2 1 v n (iz xs)) (hx:∀ x∈xs,x.natAbs<=B) (hB:B<=4611686018427387904):∃ ad cap,v = .slice ad n cap/\ArgI w ad n cap (gl xs)/\(ad=none->n=0/\cap=0):=by
 have hl:=own_len h
 rcases h.2 with ⟨rfl,rfl⟩ | ⟨g,cap,cur,rfl,hb,hg,h1,h2,h3,h4⟩
 ·exact ⟨none,0,rfl,⟨Nat.le_refl _,by unfold maxLen;omega,fun h=>absurd h (by omega)⟩,fun _=>⟨rfl,rfl⟩⟩
 ·refine ⟨_,cap,rfl,⟨h1,h2,fun hp=>⟨⟨g,0,none⟩,rfl,(h.lt g rfl).2,fun j hj=>⟨?_,?_⟩⟩⟩,fun h=>by cases h⟩
  ·rw [add_at,h.cellAt j (by omega),iz_get (by omega)];rfl
  ·have:=gl_in hx j;unfold In64;omega
theorem wpList_pushI {w0:World} {ops:Array Oper} {rest:List Oper} {o:Oper} {a:Act} {Q:Exit->Act->World->Prop} (hgd:o.guard=none) (s x:Operand)
  (ho:o.op = .call {callee:=.builtin .append,args:=#[s,x],argTypes:=#[22,22]}) {base:Nat} {v:Value} {n:Nat} {xs:List Int} (hown:w0.ownsRow base 2 1 v n (iz xs)) (y:Int)
  (hs:a.eval s=v) (hx:a.eval x = .slice (some ⟨w0.heap.size,0,none⟩) 1 1) (hn:n<=4398046511104) (hb:base<=w0.heap.size)
  (h:∀ v' w',w'.ownsRow base 2 1 v' (n+1) (iz (xs++[y]))->(∀ a0,Gr a0 w0->a0.heap.size<=base->Gr a0 w')->wpList Tryz.prog ops Q rest (a.put o.dst v') w') :
  wpList Tryz.prog ops Q (o :: rest) a (w0.alloc (.cells #[.int .i64 y] 2)):=by
 obtain ⟨i0,hi,hz0,hz1,hz2⟩:=info_parts infoI
 refine wpList_append_own _ hgd s x 22 ho base 2 i0 (.int .i64 0) 1 8 Tryz.underlying22 hi hz0 hz1 hz2 rfl (by decide) v n (iz xs) hs (hown.alloc _) ⟨w0.heap.size,0,none⟩ 1 1 (iz [y]) hx rfl ?_ (iz_one _) (by unfold maxLen;omega) (by omega) (by simp;omega) ?_
 ·intro j u hj
  match j,hj with
  | 0,hj=>simp [iz] at hj;subst hj;simp [Addr.add]
 ·intro v' w' hown' hgr _
  refine h v' w' ?_ ?_
  ·rw [iz_append];exact hown'
  ·intro a0 hg hle
   exact (hg.alloc _).grown hgr (fun k hk=>Nat.le_trans hle (hown.lt k hk).1)
theorem mem_push {xs:List Int} {y:Int} {B:Nat} (h:∀ x∈xs,x.natAbs<=B) (hy:y.natAbs<=B):∀ x∈xs++[y],x.natAbs<=B:=fun x hx=>by
 rcases List.mem_append.1 hx with h1 | h1
 ·exact h x h1
 ·rw [List.mem_singleton.1 h1];exact hy
set_option maxHeartbeats 2000000 in
theorem smallQ (la ca:Nat) (aa:Option Addr) (fa:Nat->Int) (w:World) (h:ArgI w aa la ca fa) :
  Calls Tryz.prog 23 #[.slice aa la ca] w fun r w'=>∃ v n xs,r = .returned v/\n<=40/\Hid (w'.ownsRow w.heap.size 2 1 v n (iz xs))/\Hid (∀ x∈xs,x.natAbs<=1024)/\Hid (Gr w w'):=by
 have H:=hide h
 have hm:=h.len
 clear h
 go_enter Tryz.func23,Tryz.ntmps23
 go_wp2
 go_loopw [3,4] (fun v i wr=>∃ (j:Nat) (xs:List Int),j<=40/\j<=la/\i = .int .i64 (j:Int)/\Hid (wr.ownsRow w.heap.size 2 1 v j (iz xs))/\Hid (∀ x∈xs,x.natAbs<=1024)/\Hid (Gr w wr)) (fun _ i _=>40-(intOf i).toNat)
 case atStart=>exact ⟨0,[],by omega,by omega,rfl,World.ownsRow_nil _ _ _ _,(fun x hx=>by cases hx),Gr.refl _⟩
 case round =>
  obtain ⟨j,xs,hj,hja,rfl,hown,hx,hg⟩:=hrel
  have hsz:=hg.out.size
  by_cases hlt:(j:Int)<(la:Int)
  ·by_cases h4:(j:Int)<40
   ·obtain ⟨a,rfl,hb,hc⟩:=(H.out.gr hg.out).2.2 (by omega)
    have hcell:=(hc j (by omega)).1
    have PK:Hid (∀ w,Calls Tryz.prog 25 #[.int .i64 (fa j),.int .i64 2049] w fun r w'=>∃ p:Nat,p<2049/\r = .returned (.int .i64 (p:Int))/\w=w'):=fun w=>pickR 2049 (fa j) w (by omega) (by omega)
    clear hc
    generalize fa j=y at *
    go_wp2_with (first | (go_at_call 25;(with_reducible refine (PK.out _).mono ?_);rintro r w1 ⟨p,hp,rfl,rfl⟩) | (at_builtin;refine wpList_pushI rfl _ _ rfl hown.out _ rfl rfl ?c1 ?c2 ?_))
    case c1=>omega
    case c2=>omega
    intro v' w' hown' hgr
    have HO:=hide hown'
    clear hown'
    go_wp2
    go_roundw
    case rel=>exact ⟨j+1,_,by omega,by omega,by go_num,HO,mem_push hx.out (by first | omega | (rw [IntKind.wrap_i64];omega)),hgr w hg.out (Nat.le_refl _)⟩
    case measure=>simp only [intOf];omega
   ·go_wp2
    go_ret
    exact ⟨_,rfl,j,hj,xs,hown,hx,hg⟩
  ·go_wp2
   go_ret
   exact ⟨_,rfl,j,hj,xs,hown,hx,hg⟩
theorem si_b {f:Nat->Int} {n B:Nat} (h:∀ i,i<n->(f i).natAbs<=B):∀ m,m<=n->(si f m).natAbs<=m*B:=by
 intro m
 induction m with
 | zero=>intro _;show (0:Int).natAbs<=_;simp
 | succ m ih =>
  intro hm
  show (si f m+f m).natAbs<=_
  have:=h m (by omega)
  have:=ih (by omega)
  rw [Nat.succ_mul];omega
theorem sumQ (n cap:Nat) (ad:Option Addr) (f:Nat->Int) (B:Nat) (w:World) (h:ArgI w ad n cap f) (hb:∀ i,i<n->(f i).natAbs<=B) (hB:n*B<=4611686018427387904) :
  Calls Tryz.prog 24 #[.slice ad n cap] w fun r w'=>r = .returned (.int .i64 (si f n))/\w=w':=by
 have H:=hide h
 have HS:Hid (∀ m,m<=n->(si f m).natAbs<=4611686018427387904):=fun m hm=>Nat.le_trans (si_b hb m hm) (Nat.le_trans (Nat.mul_le_mul_right _ hm) hB)
 have hm:=h.len
 clear h hb hB
 go_enter Tryz.func24,Tryz.ntmps24
 go_wp2
 go_loopw [3,4] (fun v i wr=>∃ j:Nat,j<=n/\i = .int .i64 (j:Int)/\v = .int .i64 (si f j)/\wr=w) (fun _ i _=>n-(intOf i).toNat)
 case atStart=>exact ⟨0,by omega,rfl,rfl,rfl⟩
 case round =>
  obtain ⟨j,hj,rfl,rfl,rfl⟩:=hrel
  by_cases hlt:j<n
  ·have i1:(j:Int)<(n:Int):=by omega
   obtain ⟨a,rfl,hb,hc⟩:=H.out.2.2 (by omega)
   have hcell:=(hc j hlt).1
   have e1:Hid (si f (j+1)=si f j+f j):=rfl
   have s1:=HS.out (j+1) (by omega)
   rw [e1.out] at s1
   clear hc
   generalize si f j=S at *
   generalize f j=y at *
   have e2:IntKind.i64.wrap (S+y)=S+y:=by rw [IntKind.wrap_i64];omega
   go_wp2
   go_roundw
   case rel=>exact ⟨j+1,by omega,by go_num,by rw [e1.out],trivial⟩
   case measure=>simp only [intOf];omega
  ·have hjn:j=n:=by omega
   subst hjn
   have i1:¬ (j:Int)<(j:Int):=by omega
   go_wp2
   go_ret
   exact ⟨rfl,rfl⟩
theorem sameLongsA (n c1 c2:Nat) (a1 a2:Option Addr) (f g:Nat->Int) (w:World) (h1:ArgI w a1 n c1 f) (h2:ArgI w a2 n c2 g) (he:∀ i,i<n->f i=g i) :
  Calls Tryz.prog 22 #[.slice a1 n c1,.slice a2 n c2] w fun e w'=>e = .returned (.bool true)/\Hid (Gr w w'):=by
 have H1:=hide h1
 have H2:=hide h2
 have HE:=hide he
 have hn:=h1.len
 clear h1 h2 he
 go_enter Tryz.func22,Tryz.ntmps22
 go_wp2
 go_loopw [5] (fun i wr=>∃ j:Nat,j<=n/\i = .int .i64 (j:Int)/\Hid (Gr w wr)) (fun i _=>n-(intOf i).toNat)
 case atStart=>exact ⟨0,by omega,rfl,Gr.refl _⟩
 case round =>
  obtain ⟨j,hj,rfl,hg⟩:=hrel
  by_cases hlt:j<n
  ·have i1:(j:Int)<(n:Int):=by omega
   obtain ⟨b1,rfl,_,hc1⟩:=(H1.out.gr hg.out).2.2 (by omega)
   obtain ⟨b2,rfl,_,hc2⟩:=(H2.out.gr hg.out).2.2 (by omega)
   have k1:=(hc1 j hlt).1
   have k2:=(hc2 j hlt).1
   rw [<-HE.out j hlt] at k2
   clear hc1 hc2
   generalize f j=x at *
   go_wp2
   go_region
   go_wp2
   go_roundw
   case rel=>exact ⟨j+1,by omega,by go_num,hg.out.drew⟩
   case measure=>simp only [intOf];omega
  ·have i1:¬ (j:Int)<(n:Int):=by omega
   go_wp2
   go_ret
   exact ⟨rfl,hg⟩
end Go.Proofs.YtbcocfhfhblhcaaGreatDoor.Fl
namespace Go.Proofs.YtbcocfhfhblhcaaGreatDoor.Fl
open Go.RowKit
open Ieee
set_option linter.unusedVariables false
set_option linter.unusedSimpArgs false
theorem keepA {w w':World} {p:Addr} {v:Value} (g:Gr w w') (hb:p.block<w.heap.size) (h:w.cell? p=some v):w'.cell? p=some v:=by rw [g.cell (p:=p) hb];exact h
end Go.Proofs.YtbcocfhfhblhcaaGreatDoor.Fl
namespace Go.Proofs.YtbcocfhfhblhcaaGreatDoor.Fl
open Go.RowKit
open Ieee
open Go.Proofs.YtbcocfhfhblhcaaGreatDoor.Jx (cvI cv_le pv Sup cv_pv pv_sup si si_tail si_pv si_zero si_congr ah ah_sup pv_comm pv_add pv_assoc pv_ah pv_ah_low)
set_option linter.unusedVariables false
set_option linter.unusedSimpArgs false
theorem ArgI.congr {w:World} {ad:Option Addr} {n cap:Nat} {f g:Nat->Int} (h:ArgI w ad n cap f) (hh:∀ i,i<n->f i=g i):ArgI w ad n cap g:=
 ⟨h.1,h.2.1,fun hp=>by
  obtain ⟨a,e,hb,hc⟩:=h.2.2 hp
  exact ⟨a,e,hb,fun i hi=>by rw [<-hh i hi];exact hc i hi⟩⟩
theorem add_add (a:Addr) (p i:Nat):(a.add p).add i=a.add (p+i):=by
 obtain ⟨b,o,q⟩:=a
 unfold Addr.add
 by_cases h1:p=0 <;> by_cases h2:i=0 <;> simp [h1,h2,Nat.add_assoc]
theorem ArgI.drop {w:World} {a:Addr} {n cap p:Nat} {f:Nat->Int} (h:ArgI w (some a) n cap f) (hp:p<=n):ArgI w (some (a.add p)) (n-p) (cap-p) (fun i=>f (p+i)):=by
 have h1:=h.1
 have h2:=h.2.1
 refine ⟨by omega,by omega,fun h0=>?_⟩
 obtain ⟨b,e,hb,hc⟩:=h.2.2 (by omega)
 obtain rfl:a=b:=by simpa using e
 exact ⟨a.add p,rfl,by unfold Addr.add;split <;> exact hb,fun i hi=>by rw [add_add];exact hc (p+i) (by omega)⟩
end Go.Proofs.YtbcocfhfhblhcaaGreatDoor.Fl
namespace Go.Proofs.YtbcocfhfhblhcaaGreatDoor.Fl
open Go.RowKit
open Ieee
open Go.Proofs.YtbcocfhfhblhcaaGreatDoor.Jx (pv Sup si si_tail si_le)
set_option linter.unusedVariables false
set_option linter.unusedSimpArgs false
def ml (f:Nat->Int) (k:Nat):List Int:=(List.range k).map f
theorem ml_next (f:Nat->Int) (k:Nat):ml f (k+1)=ml f k++[f k]:=by unfold ml;rw [List.range_succ,List.map_append];rfl
theorem own_gx {w w':World} {base b n:Nat} {v:Value} {xs:List Value} (h:w.ownsRow base 2 1 v n xs) (k:Gx b w w') (hb:∀ g,v.ownBlock=some g->g≠b):w'.ownsRow base 2 1 v n xs:=by
 have hlt:=fun g hg=>(World.ownsRow.lt h g hg).2
 rcases h with ⟨h5,h6⟩
 refine ⟨h5,?_⟩
 rcases h6 with h6 | ⟨g',cap,cur,e1,hb',hgg,r1,r2,r3,r4⟩
 ·exact Or.inl h6
 ·subst e1
  exact Or.inr ⟨g',cap,cur,rfl,hb',by rw [k.block g' (hlt g' rfl) (hb g' rfl)];exact hgg,r1,r2,r3,r4⟩
theorem ArgI.gx {w w':World} {ad:Option Addr} {len cap b:Nat} {f:Nat->Int} (h:ArgI w ad len cap f) (g:Gx b w w') (hb:∀ a,ad=some a->a.block≠b):ArgI w' ad len cap f:=by
 refine ⟨h.1,h.2.1,fun hp=>?_⟩
 obtain ⟨a,e,hlt,hc⟩:=h.2.2 hp
 have hne:=hb a e
 exact ⟨a,e,Nat.lt_of_lt_of_le hlt g.size,fun i hi=>⟨keepX g (by unfold Addr.add;split <;> exact hne) (hc i hi).1,(hc i hi).2⟩⟩
set_option maxHeartbeats 8000000 in
set_option maxRecDepth 100000 in
theorem prodW (la ca lb cb:Nat) (aa ab:Option Addr) (fa fb:Nat->Int) (w:World) (h1:1<=la) (h2:1<=lb) (h3:la+lb<=16384) (A1:ArgI w aa la ca fa) (A2:ArgI w ab lb cb fb) :
  Calls Tryz.prog 34 #[.slice aa la ca,.slice ab lb cb] w fun r w'=>((∃ v,r = .returned (.tuple #[v,.bool true])/\Hid (w'.ownsRow w.heap.size 2 1 v (la+lb-1) (iz (ml (pv (cf la fa) (cf lb fb)) (la+lb-1))))/\Hid (∀ l,l<la+lb-1->In64 (pv (cf la fa) (cf lb fb) l)))\/(r = .returned (.tuple #[.slice none 0 0,.bool false])/\Hid (∃ l,l<la+lb-1/\¬ In64 (pv (cf la fa) (cf lb fb) l))))/\Hid (Gr w w'):=by
 have iA:=fun i=>arg_in A1 i
 have iB:=fun i=>arg_in A2 i
 have cA:Hid (∀ i,i<la->cf la fa i=fa i):=fun i hi=>if_pos hi
 have cB:Hid (∀ i,i<lb->cf lb fb i=fb i):=fun i hi=>if_pos hi
 have sA:=cf_sup la fa
 have sB:=cf_sup lb fb
 obtain ⟨qa,rfl,lqa,hca⟩:=A1.2.2 (by omega)
 obtain ⟨qb,rfl,lqb,hcb⟩:=A2.2.2 (by omega)
 have HA:Hid (ArgI w (some qa) la ca (cf la fa)):=A1.congr fun i hi=>(cA.out i hi).symm
 have HB:Hid (ArgI w (some qb) lb cb (cf lb fb)):=A2.congr fun i hi=>(cB.out i hi).symm
 clear A1 A2 hca hcb cA cB
 generalize cf la fa=A at *
 generalize cf lb fb=B at *
 have bT:Hid (∀ k j,j<=16384->(si (fun m=>A m*B (k-m)) j).natAbs<Big):=fun k j hj=>by
  refine Nat.lt_of_le_of_lt (si_le (f:=fun m=>A m*B (k-m)) (B:=9223372036854775808*9223372036854775808) (fun i=>?_) j) (Nat.lt_of_le_of_lt (Nat.mul_le_mul_right _ hj) (by decide))
  show (A i*B (k-i)).natAbs<=_
  rw [Int.natAbs_mul]
  exact Nat.mul_le_mul (by have:=iA i;omega) (by have:=iB (k-i);omega)
 have bX:Hid (∀ i j,(A i*B j).natAbs<Big/\(A i).natAbs<Big/\(B j).natAbs<Big):=fun i j=>by
  have x1:(A i).natAbs<=9223372036854775808:=by have:=iA i;omega
  have x2:(B j).natAbs<=9223372036854775808:=by have:=iB j;omega
  refine ⟨?_,Nat.lt_of_le_of_lt x1 big64,Nat.lt_of_le_of_lt x2 big64⟩
  rw [Int.natAbs_mul]
  exact Nat.lt_of_le_of_lt (Nat.mul_le_mul x1 x2) (by decide)
 have IA:=hide iA
 have IB:=hide iB
 have SA:=hide sA
 have SB:=hide sB
 clear iA iB sA sB
 obtain ⟨n,hn⟩:∃ n,n+1=la+lb:=⟨la+lb-1,by omega⟩
 rw [show la+lb-1=n by omega]
 have eN:(la:Int)+(lb:Int)-1=(n:Int):=by omega
 go_enter Tryz.func34,Tryz.ntmps34
 go_wp2
 go_loopw [6,7] (fun v i wr=>∃ k:Nat,k<=n/\i = .int .i64 (k:Int)/\Hid (wr.ownsRow w.heap.size 2 1 v k (iz (ml (pv A B) k)))/\Hid (∀ l,l<k->In64 (pv A B l))/\Hid (Gr w wr)) (fun _ i _=>n-(intOf i).toNat)
 case atStart=>exact ⟨0,by omega,rfl,World.ownsRow_nil _ _ _ _,fun l hl=>absurd hl (by omega),Gr.refl _⟩
 case round =>
  obtain ⟨k,hk,rfl,hO,hI,hg⟩:=hrel
  rename World=>w0
  by_cases hlt:k<n
  ·have i1:(k:Int)<(n:Int):=by omega
   obtain ⟨lo,hlo⟩:∃ lo:Nat,lo=k+1-lb:=⟨_,rfl⟩
   obtain ⟨hi,hhi⟩:∃ hi:Nat,hi=min (k+1) la:=⟨_,rfl⟩
   have elo:max 0 ((k:Int)-(lb:Int)+1)=(lo:Int):=by omega
   have hlh:lo<=hi:=by omega
   have hh1:hi<=k+1:=by omega
   have hh2:hi<=la:=by omega
   have Z0:Hid (si (fun m=>A m*B (k-m)) lo=0):=by
    show _=_
    rw [si_tail (a:=0) lo (by omega) (fun i _ hi=>by rw [SB.out (k-i) (by omega),Int.mul_zero])];rfl
   have ZE:Hid (si (fun m=>A m*B (k-m)) hi=pv A B k):=by
    show _=si (fun m=>A m*B (k-m)) (k+1)
    exact (si_tail (k+1) (by omega) (fun i h4 h5=>by rw [SA.out i (by omega),Int.zero_mul])).symm
   have hlo2:Hid (∀ j,lo<=j->j<=k->k-j<lb):=fun j h4 h5=>by omega
   have hfin:Hid (∀ j,j<=hi->¬ j<hi->j=hi):=fun j h4 h5=>by omega
   have hfin2:Hid (¬ hi<=k\/¬ hi<la):=by show _\/_;omega
   have nb0:Hid (∀ g,u6.ownBlock=some g->g<w0.heap.size):=fun g h4=>(World.ownsRow.lt hO.out g h4).2
   have hsz:=hg.out.size
   clear hlo hhi
   go_wp2_with (go_at_call 53;(with_reducible refine (wnWhole 0 _ (by decide)).mono ?_);rintro r w1 ⟨⟨s0,a0,m0,k0,rfl,WN⟩,g1⟩)
   have B0:=hide (first_block w1 (.cells #[.bool s0,.slice a0 m0 k0,.int .i64 0] 92))
   have G12:Hid (Gr w0 (w1.alloc (.cells #[.bool s0,.slice a0 m0 k0,.int .i64 0] 92))):=g1.alloc _
   have W0:Hid (Wn (w1.alloc (.cells #[.bool s0,.slice a0 m0 k0,.int .i64 0] 92)) s0 a0 m0 k0 0):=WN.gr ((Gr.refl w1).alloc _)
   have hs1:=g1.size
   clear WN g1
   generalize w1.alloc (.cells #[.bool s0,.slice a0 m0 k0,.int .i64 0] 92)=w2 at *
   generalize hbN:w1.heap.size=bN at *
   clear hbN
   have O2:=hide (G12.out.owns hO.out)
   have GW:Hid (Gr w w2):=hg.out.trans G12.out
   have nb1:Hid (∀ g,u6.ownBlock=some g->g≠bN):=fun g h4=>by have:=nb0.out g h4;omega
   have HA2:=hide (HA.out.gr GW.out)
   have HB2:=hide (HB.out.gr GW.out)
   have nqa:qa.block≠bN:=by omega
   have nqb:qb.block≠bN:=by omega
   have hbw:w.heap.size<=bN:=by omega
   clear nb0 hO hg G12
   go_loopw [9] (fun jv wt=>∃ j:Nat,lo<=j/\j<=hi/\jv = .int .i64 (j:Int)/\Hid (∃ s a m q,wt.heap[bN]? = some (.cells #[.bool s,.slice a m q,.int .i64 0] 92)/\Wn wt s a m q (si (fun m=>A m*B (k-m)) j))/\Hid (Gx bN w2 wt)) (fun jv _=>hi-(intOf jv).toNat)
   case atStart=>exact ⟨lo,by omega,hlh,rfl,⟨_,_,_,_,B0.out,by rw [Z0.out];exact W0.out⟩,Gx.refl _ _⟩
   case round =>
    obtain ⟨j,hj1,hj2,rfl,hN,hX⟩:=hrel
    clear B0 W0 Z0
    rename World=>w3
    by_cases hjl:j<hi
    ·have c1:(j:Int)<=(k:Int):=by omega
     have c2:(j:Int)<(la:Int):=by omega
     have hkj:=hlo2.out j hj1 (by omega)
     obtain ⟨K,hK⟩:∃ K:Nat,K=k-j:=⟨_,rfl⟩
     have ek:(k:Int)-(j:Int)=(K:Int):=by omega
     have ek2:IntKind.i64.wrap ((k:Int)-(j:Int))=(K:Int):=by rw [IntKind.wrap_i64];omega
     have c3:(K:Int)<(lb:Int):=by omega
     obtain ⟨s,a,m,q,hb,hw⟩:=hN.out
     obtain ⟨qa',ea,_,hca⟩:=(ArgI.gx HA2.out hX.out (fun a e=>by cases e;exact nqa)).2.2 (by omega)
     obtain ⟨qb',eb,_,hcb⟩:=(ArgI.gx HB2.out hX.out (fun a e=>by cases e;exact nqb)).2.2 (by omega)
     obtain rfl:qa=qa':=by simpa using ea
     obtain rfl:qb=qb':=by simpa using eb
     have kA:=(hca j (by omega)).1
     have kB:=(hcb K (by omega)).1
     have NX:Hid (si (fun m=>A m*B (k-m)) (j+1)=si (fun m=>A m*B (k-m)) j+A j*B K):=by
      show si (fun m=>A m*B (k-m)) j+A j*B (k-j)=_
      rw [hK]
     have bS:=bT.out k j (by omega)
     obtain ⟨y1,y2,y3⟩:=bX.out j K
     have ix:=IA.out j
     have iy:=IB.out K
     have HB3:=hide hb
     have HW3:=hide hw
     clear hca hcb ea eb hN hK hb hw
     generalize A j=x at *
     generalize B K=y at *
     by_cases hx0:x=0
     ·subst hx0
      have NN:Hid (∃ s a m q,w3.heap[bN]? = some (.cells #[.bool s,.slice a m q,.int .i64 0] 92)/\Wn w3 s a m q (si (fun m=>A m*B (k-m)) (j+1))):=⟨s,a,m,q,HB3.out,by rw [NX.out,Int.zero_mul,Int.add_zero];exact HW3.out⟩
      clear NX HB3 HW3 ek2
      go_wp2
      exact ⟨⟨j+1,by omega,by omega,by go_num,NN,hX⟩,by simp only [intOf];omega⟩
     ·by_cases hy0:y=0
      ·subst hy0
       have NN:Hid (∃ s a m q,w3.heap[bN]? = some (.cells #[.bool s,.slice a m q,.int .i64 0] 92)/\Wn w3 s a m q (si (fun m=>A m*B (k-m)) (j+1))):=⟨s,a,m,q,HB3.out,by rw [NX.out,Int.mul_zero,Int.add_zero];exact HW3.out⟩
       clear NX HB3 HW3 ek2
       go_wp2
       exact ⟨⟨j+1,by omega,by omega,by go_num,NN,hX⟩,by simp only [intOf];omega⟩
      ·have EK:=hide ek2
       have hx1:(x != 0)=true:=by simpa using hx0
       have hy1:(y != 0)=true:=by simpa using hy0
       have hx2:(x==0)=false:=by simpa using hx0
       have hy2:(y==0)=false:=by simpa using hy0
       clear ek2
       go_wp2
       refine Code.wp_mono ?_ (reg3410 _ _ _ _ _ _ _ _ _ _ _ _ _ _ _ _ _ _ _ _ _ _ _ _ _ _ _ _ _ _ _ _ _ _ _ _ _ _ _ _ _ _ _ _ _ _ _ _ _ _ _ _ _ _ _ _ _ _ _ _ _ _ _ _ _ _ _ _ _ _ _ _ _ _ _ _ qa qb (qa.add j) (qb.add K) la ca lb cb bN j K m q _ x y _ s a _ HB3.out HW3.out ⟨kA,kB⟩ rfl rfl EK.out c2 c3 (by unfold Addr.add;split <;> exact nqa) (by unfold Addr.add;split <;> exact nqb) ix iy y2 y3 bS y1)
       intro e a1 w9 hR
       cases e <;> first | (exact False.elim hR) | skip
       obtain ⟨u54,u55,u56,u57,u58,u59,u60,u61,u62,u63,u64,u65,u66,u67,u68,s9,a9,n9,c9,rfl,B9,W9,X9⟩:=hR
       rw [<-NX.out] at W9
       have NN:Hid (∃ s a m q,w9.heap[bN]? = some (.cells #[.bool s,.slice a m q,.int .i64 0] 92)/\Wn w9 s a m q (si (fun m=>A m*B (k-m)) (j+1))):=⟨_,_,_,_,B9,W9⟩
       have X2:Hid (Gx bN w2 w9):=hX.out.trans X9
       clear NX HB3 HW3 B9 W9 X9 hX
       go_wp2
       exact ⟨⟨j+1,by omega,by omega,by go_num,NN,X2⟩,by simp only [intOf];omega⟩
    ·have hje:=hfin.out j hj2 hjl
     subst hje
     obtain ⟨s,a,m,q,hb,hw⟩:=hN.out
     rw [ZE.out] at hw
     have bP:(pv A B k).natAbs<Big:=by rw [<-ZE.out];exact bT.out k j (by omega)
     have G3:Hid (Gr w w3):=gx_gr hX.out hbw GW.out
     have O3:=hide (own_gx O2.out hX.out nb1.out)
     have LW:=hide (longW s a m q (pv A B k) w3 hw bP)
     have hs3:=G3.out.size
     obtain ⟨x0,x1,x2,_,_,_⟩:=outF3 hb
     have MN:=hide (ml_next (pv A B) k)
     clear hN hw hb ZE bT bX IA IB SA SB HA HB HA2 HB2 GW O2 hX nb1 bP
     by_cases hin:In64 (pv A B k)
     ·rw [if_pos hin,decide_eq_true hin] at LW
      have HI2:Hid (∀ l,l<k+1->In64 (pv A B l)):=fun l hl=>by
       by_cases e:l=k
       ·subst e;exact hin
       ·exact hI.out l (by omega)
      clear hI hin
      generalize pv A B k=z at *
      rcases hfin2.out with c4 | c4
      ·have c5:¬ (j:Int)<=(k:Int):=by omega
       go_wp2_with (first | (go_at_call 56;(with_reducible refine LW.out.mono ?_);rintro r w7 ⟨rfl,g7⟩;have O7:=hide (g7.out.owns O3.out);have G7:Hid (Gr w w7):=G3.out.trans g7.out;have hs7:=g7.out.size) | (at_builtin;refine wpList_pushI rfl _ _ rfl O7.out _ rfl rfl ?c1 ?c2 ?_))
       case c1=>omega
       case c2=>omega
       intro v' w' hown' hgr
       rw [<-MN.out] at hown'
       have HO:=hide hown'
       clear hown'
       go_wp2
       exact ⟨⟨k+1,by omega,by go_num,HO,HI2,hgr w G7.out (Nat.le_refl _)⟩,by simp only [intOf];omega⟩
      ·have c5:(j:Int)<=(k:Int)\/¬ (j:Int)<=(k:Int):=by omega
       have c6:¬ (j:Int)<(la:Int):=by omega
       rcases c5 with c5 | c5
       all_goals
        go_wp2_with (first | (go_at_call 56;(with_reducible refine LW.out.mono ?_);rintro r w7 ⟨rfl,g7⟩;have O7:=hide (g7.out.owns O3.out);have G7:Hid (Gr w w7):=G3.out.trans g7.out;have hs7:=g7.out.size) | (at_builtin;refine wpList_pushI rfl _ _ rfl O7.out _ rfl rfl ?c1 ?c2 ?_))
        case c1=>omega
        case c2=>omega
        intro v' w' hown' hgr
        rw [<-MN.out] at hown'
        have HO:=hide hown'
        clear hown'
        go_wp2
        exact ⟨⟨k+1,by omega,by go_num,HO,HI2,hgr w G7.out (Nat.le_refl _)⟩,by simp only [intOf];omega⟩
     ·rw [if_neg hin,decide_eq_false hin] at LW
      have HI2:Hid (∃ l,l<n/\¬ In64 (pv A B l)):=⟨k,hlt,hin⟩
      clear hI hin
      rcases hfin2.out with c4 | c4
      ·have c5:¬ (j:Int)<=(k:Int):=by omega
       go_wp2_with (go_at_call 56;(with_reducible refine LW.out.mono ?_);rintro r w7 ⟨rfl,g7⟩)
       go_ret2
       exact ⟨Or.inr ⟨rfl,HI2⟩,G3.out.trans g7.out⟩
      ·have c5:(j:Int)<=(k:Int)\/¬ (j:Int)<=(k:Int):=by omega
       have c6:¬ (j:Int)<(la:Int):=by omega
       rcases c5 with c5 | c5
       all_goals
        go_wp2_with (go_at_call 56;(with_reducible refine LW.out.mono ?_);rintro r w7 ⟨rfl,g7⟩)
        go_ret2
        exact ⟨Or.inr ⟨rfl,HI2⟩,G3.out.trans g7.out⟩
  ·have hke:k=n:=by omega
   subst hke
   have i1:¬ (k:Int)<(k:Int):=by omega
   go_wp2
   go_ret2
   refine ⟨Or.inl ?_,hg⟩
   exact ⟨_,rfl,hO⟩
end Go.Proofs.YtbcocfhfhblhcaaGreatDoor.Fl
