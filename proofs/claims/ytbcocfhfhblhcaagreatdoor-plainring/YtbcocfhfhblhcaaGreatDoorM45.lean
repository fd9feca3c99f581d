import Derived.Test.YtbcocfhfhblhcaaGreatDoorM43
import Derived.Laws.AppendOwnNone
import Derived.Deep.RegionHeld3
namespace Go.Proofs.YtbcocfhfhblhcaaGreatDoor.Fl
open Go.RowKit
open Ieee
open Go.Proofs.YtbcocfhfhblhcaaGreatDoor.Jx (cvI cv_le pv Sup cv_pv pv_sup si)
set_option linter.unusedVariables false
set_option linter.unusedSimpArgs false
def gl (xs:List Int) (i:Nat):Int:=xs.getD i 0
theorem iz_append (xs ys:List Int):iz (xs++ys)=iz xs++iz ys:=by simp [iz]
theorem gl_in {xs:List Int} {B:Nat} (h:∀ x∈xs,x.natAbs<=B) (i:Nat):(gl xs i).natAbs<=B:=by
 unfold gl
 rw [List.getD_eq_getElem?_getD]
 by_cases hi:i<xs.length
 ·rw [List.getElem?_eq_getElem hi,Option.getD_some];exact h _ (List.getElem_mem _)
 ·rw [List.getElem?_eq_none (by omega)];simp
theorem own_len {w:World} {base:Nat} {v:Value} {n:Nat} {xs:List Int} (h:w.ownsRow base 2 1 v n (iz xs)):xs.length=n:=by have:=h.1;rw [iz_length] at this;omega
theorem ArgI.of_owns {w:World} {base:Nat} {v:Value} {n B:Nat} {xs:List Int} (h:w.ownsRow base 2 1 v n (iz xs)) (hx:∀ x∈xs,x.natAbs<=B) (hB:B<=4611686018427387904):∃ ad cap,v = .slice ad n cap/\ArgI w ad n cap (gl xs)/\(ad=none->n=0/\cap=0):=by
 have hl:=own_len h
 rcases h.2 with ⟨rfl,rfl⟩ | ⟨g,cap,cur,rfl,hb,hg,h1,h2,h3,h4⟩
 ·exact ⟨none,0,rfl,⟨Nat.le_refl _,by unfold maxLen;omega,fun h=>absurd h (by omega)⟩,fun _=>⟨rfl,rfl⟩⟩
 ·refine ⟨_,cap,rfl,⟨h1,h2,fun hp=>⟨⟨g,0,none⟩,rfl,(h.lt g rfl).2,fun j hj=>⟨?_,?_⟩⟩⟩,fun h=>by cases h⟩
  ·rw [add_at,h.cellAt j (by omega),iz_get (by omega)];rfl
  ·have:=gl_in hx j;unfold In64;omega
theorem wpList_pushI {w0:World} {ops:Array Oper} {rest:List Oper} {o:Oper} {a:Act} {Q:Exit->Act->World->Prop} (hgd:o.guard=none) (s x:Operand)
  (ho:o.op = .call {callee:=.builtin .append,args:=#[s,x],argTypes:=#[22,22]}) {base:Nat} {v:Value} {n:Nat} {xs:List Int} (hown:w0.ownsRow base 2 1 v n (iz xs)) (y:Int)
  (hs:a.eval s=v) (hx:a.eval x = .slice (some ⟨w0.heap.size,0,none⟩) 1 1) (hn:n<=4398046511104) (hb:base<=w0.heap.size)
  (h:∀ v' w',w'.ownsRow base 2 1 v' (n+1) (iz (xs++[y]))->(∀ a0,Gr a0 w0->a0.heap.size<=base->Gr a0 w')->wpList Tryz.prog ops Q rest (a.put o.dst v') w') :
  wpList Tryz.prog ops Q (o :: rest) a (w0.alloc (.cells #[.int .i64 y] 2)):=by
 obtain ⟨i0,hi,hz0,hz1,hz2⟩:=info_parts infoI
 refine wpList_append_own _ hgd s x 22 ho base 2 i0 (.int .i64 0) 1 8 Tryz.underlying22 hi hz0 hz1 hz2 rfl (by decide) v n (iz xs) hs (hown.alloc _) ⟨w0.heap.size,0,none⟩ 1 1 (iz [y]) hx rfl ?_ (iz_one _) (by unfold maxLen;omega) (by omega) (by simp;omega) ?_
 ·intro j u hj
  match j,hj with
  | 0,hj=>simp [iz] at hj;subst hj;simp [Addr.add]
 ·intro v' w' hown' hgr _
  refine h v' w' ?_ ?_
  ·rw [iz_append];exact hown'
  ·intro a0 hg hle
   exact (hg.alloc _).grown hgr (fun k hk=>Nat.le_trans hle (hown.lt k hk).1)
theorem mem_push {xs:List Int} {y:Int} {B:Nat} (h:∀ x∈xs,x.natAbs<=B) (hy:y.natAbs<=B):∀ x∈xs++[y],x.natAbs<=B:=fun x hx=>by
 rcases List.mem_append.1 hx with h1 | h1
 ·exact h x h1
 ·rw [List.mem_singleton.1 h1];exact hy
set_option maxHeartbeats 2000000 in
theorem smallQ (la ca:Nat) (aa:Option Addr) (fa:Nat->Int) (w:World) (h:ArgI w aa la ca fa) :
  Calls Tryz.prog 23 #[.slice aa la ca] w fun r w'=>∃ v n xs,r = .returned v/\n<=40/\Hid (w'.ownsRow w.heap.size 2 1 v n (iz xs))/\Hid (∀ x∈xs,x.natAbs<=1024)/\Hid (Gr w w'):=by
 have H:=hide h
 have hm:=h.len
 clear h
 go_enter Tryz.func23,Tryz.ntmps23
 go_wp2
 go_loopw [3,4] (fun v i wr=>∃ (j:Nat) (xs:List Int),j<=40/\j<=la/\i = .int .i64 (j:Int)/\Hid (wr.ownsRow w.heap.size 2 1 v j (iz xs))/\Hid (∀ x∈xs,x.natAbs<=1024)/\Hid (Gr w wr)) (fun _ i _=>40-(intOf i).toNat)
 case atStart=>exact ⟨0,[],by omega,by omega,rfl,World.ownsRow_nil _ _ _ _,(fun x hx=>by cases hx),Gr.refl _⟩
 case round =>
  obtain ⟨j,xs,hj,hja,rfl,hown,hx,hg⟩:=hrel
  have hsz:=hg.out.size
  by_cases hlt:(j:Int)<(la:Int)
  ·by_cases h4:(j:Int)<40
   ·obtain ⟨a,rfl,hb,hc⟩:=(H.out.gr hg.out).2.2 (by omega)
    have hcell:=(hc j (by omega)).1
    have PK:Hid (∀ w,Calls Tryz.prog 25 #[.int .i64 (fa j),.int .i64 2049] w fun r w'=>∃ p:Nat,p<2049/\r = .returned (.int .i64 (p:Int))/\w=w'):=fun w=>pickR 2049 (fa j) w (by omega) (by omega)
    clear hc
    generalize fa j=y at *
    go_wp2_with (first | (go_at_call 25;(with_reducible refine (PK.out _).mono ?_);rintro r w1 ⟨p,hp,rfl,rfl⟩) | (at_builtin;refine wpList_pushI rfl _ _ rfl hown.out _ rfl rfl ?c1 ?c2 ?_))
    case c1=>omega
    case c2=>omega
    intro v' w' hown' hgr
    have HO:=hide hown'
    clear hown'
    go_wp2
    go_roundw
    case rel=>exact ⟨j+1,_,by omega,by omega,by go_num,HO,mem_push hx.out (by first | omega | (rw [IntKind.wrap_i64];omega)),hgr w hg.out (Nat.le_refl _)⟩
    case measure=>simp only [intOf];omega
   ·go_wp2
    go_ret
    exact ⟨_,rfl,j,hj,xs,hown,hx,hg⟩
  ·go_wp2
   go_ret
   exact ⟨_,rfl,j,hj,xs,hown,hx,hg⟩
theorem si_b {f:Nat->Int} {n B:Nat} (h:∀ i,i<n->(f i).natAbs<=B):∀ m,m<=n->(si f m).natAbs<=m*B:=by
 intro m
 induction m with
 | zero=>intro _;show (0:Int).natAbs<=_;simp
 | succ m ih =>
  intro hm
  show (si f m+f m).natAbs<=_
  have:=h m (by omega)
  have:=ih (by omega)
  rw [Nat.succ_mul];omega
theorem sumQ (n cap:Nat) (ad:Option Addr) (f:Nat->Int) (B:Nat) (w:World) (h:ArgI w ad n cap f) (hb:∀ i,i<n->(f i).natAbs<=B) (hB:n*B<=4611686018427387904) :
  Calls Tryz.prog 24 #[.slice ad n cap] w fun r w'=>r = .returned (.int .i64 (si f n))/\w=w':=by
 have H:=hide h
 have HS:Hid (∀ m,m<=n->(si f m).natAbs<=4611686018427387904):=fun m hm=>Nat.le_trans (si_b hb m hm) (Nat.le_trans (Nat.mul_le_mul_right _ hm) hB)
 have hm:=h.len
 clear h hb hB
 go_enter Tryz.func24,Tryz.ntmps24
 go_wp2
 go_loopw [3,4] (fun v i wr=>∃ j:Nat,j<=n/\i = .int .i64 (j:Int)/\v = .int .i64 (si f j)/\wr=w) (fun _ i _=>n-(intOf i).toNat)
 case atStart=>exact ⟨0,by omega,rfl,rfl,rfl⟩
 case round =>
  obtain ⟨j,hj,rfl,rfl,rfl⟩:=hrel
  by_cases hlt:j<n
  ·have i1:(j:Int)<(n:Int):=by omega
   obtain ⟨a,rfl,hb,hc⟩:=H.out.2.2 (by omega)
   have hcell:=(hc j hlt).1
   have e1:Hid (si f (j+1)=si f j+f j):=rfl
   have s1:=HS.out (j+1) (by omega)
   rw [e1.out] at s1
   clear hc
   generalize si f j=S at *
   generalize f j=y at *
   have e2:IntKind.i64.wrap (S+y)=S+y:=by rw [IntKind.wrap_i64];omega
   go_wp2
   go_roundw
   case rel=>exact ⟨j+1,by omega,by go_num,by rw [e1.out],trivial⟩
   case measure=>simp only [intOf];omega
  ·have hjn:j=n:=by omega
   subst hjn
   have i1:¬ (j:Int)<(j:Int):=by omega
   go_wp2
   go_ret
   exact ⟨rfl,rfl⟩
theorem sameLongsA (n c1 c2:Nat) (a1 a2:Option Addr) (f g:Nat->Int) (w:World) (h1:ArgI w a1 n c1 f) (h2:ArgI w a2 n c2 g) (he:∀ i,i<n->f i=g i) :
  Calls Tryz.prog 22 #[.slice a1 n c1,.slice a2 n c2] w fun e w'=>e = .returned (.bool true)/\Hid (Gr w w'):=by
 have H1:=hide h1
 have H2:=hide h2
 have HE:=hide he
 have hn:=h1.len
 clear h1 h2 he
 go_enter Tryz.func22,Tryz.ntmps22
 go_wp2
 go_loopw [5] (fun i wr=>∃ j:Nat,j<=n/\i = .int .i64 (j:Int)/\Hid (Gr w wr)) (fun i _=>n-(intOf i).toNat)
 case atStart=>exact ⟨0,by omega,rfl,Gr.refl _⟩
 case round =>
  obtain ⟨j,hj,rfl,hg⟩:=hrel
  by_cases hlt:j<n
  ·have i1:(j:Int)<(n:Int):=by omega
   obtain ⟨b1,rfl,_,hc1⟩:=(H1.out.gr hg.out).2.2 (by omega)
   obtain ⟨b2,rfl,_,hc2⟩:=(H2.out.gr hg.out).2.2 (by omega)
   have k1:=(hc1 j hlt).1
   have k2:=(hc2 j hlt).1
   rw [<-HE.out j hlt] at k2
   clear hc1 hc2
   generalize f j=x at *
   go_wp2
   go_region
   go_wp2
   go_roundw
   case rel=>exact ⟨j+1,by omega,by go_num,hg.out.drew⟩
   case measure=>simp only [intOf];omega
  ·have i1:¬ (j:Int)<(n:Int):=by omega
   go_wp2
   go_ret
   exact ⟨rfl,hg⟩
end Go.Proofs.YtbcocfhfhblhcaaGreatDoor.Fl
namespace Go.Proofs.YtbcocfhfhblhcaaGreatDoor.Fl
open Go.RowKit
open Ieee
set_option linter.unusedVariables false
set_option linter.unusedSimpArgs false
theorem keepA {w w':World} {p:Addr} {v:Value} (g:Gr w w') (hb:p.block<w.heap.size) (h:w.cell? p=some v):w'.cell? p=some v:=by rw [g.cell (p:=p) hb];exact h
def R811 (t0 t3 t4 t5 t6 t7 t8 t11 t12 t13 t14 t15 t16 t17 t18 t19 t20 t21 t22 t23 t24 t25 t26 t27 t28 t29 t30 t31 t32 t33 t34 t35 t36 t37 t38 t39 t40 t41 t42 t43 t44 t45 t46 t47 t48 t49 t50 t51 t52 t53 t54 t55 t56 t57 t58 t59 t60 t61 t62 t63 t64 t65 t66 t67 t68 t69 t70 t71 t72 t73 t74 t75 t76 t77 t78 t79 t80 t81 t82 t83 t84 t85 t86 t87 t88 t89 t90 t91 t92 t93 t94 t95 t96 t97 t98 t99 t100 t101 t102 t103 t104 t105 t106 t107 t108 t109 t110 t111 t112 t113 t114 t115 t116 t117 t118 t119 t120 t121 t122 t123 t124 t125 t126 t127 t128 t129 t130 t131 t132 t133 t134 t135 t136 t137 t138 t139 t140 t141 t142 t143 t144 t145 t146 t147 t148 t149 t150 t151 t152 t153 t154 t155 t156 t157 t158 t159 t160 t161 t162 t163 t164 t165 t166 t167 t168 t169 t170 t171 t172 t173 t174 t175 t176 t177 t178 t179 t180 t181 t182 t183 t184 t185 t186 t187 t188 t189 t190 t191 t192 t193 t194 t195 t196 t197 t198 t199 t200 t201 t202 t203 t204 t205 t206 t207 t208 t209 t210 t211 t212 t213 t214 t215 t216 t217 t218 t219 t220 t221 t222 t223 t224 t225 t226 t227 t228 t229 t230 t231 t232 t233 t234 t235 t236 t237 t238 t239 t240 t241 t242:Value) (pb pc:Addr) (N c1 c2 J base:Nat) (y z:Int) (xs:List Int) (vb:Value) (wB wq:World):Exit->Act->World->Prop
 | .normal,a,w=>∃ u55 u56 u57 u58 u59 u60 u61 u62 u63 u64 u65 u66 v',a = {tmps:=#[t0,.slice (some pb) N c1,.slice (some pc) N c2,t3,t4,t5,t6,t7,t8,v',.int .i64 (J:Int),t11,t12,t13,t14,t15,t16,t17,t18,t19,t20,t21,t22,t23,t24,t25,t26,t27,t28,t29,t30,t31,t32,t33,t34,t35,t36,t37,t38,t39,t40,t41,t42,t43,t44,t45,t46,t47,t48,t49,t50,t51,t52,t53,t54,u55,u56,u57,u58,u59,u60,u61,u62,u63,u64,u65,u66,t67,t68,t69,t70,t71,t72,t73,t74,t75,t76,t77,t78,t79,t80,t81,t82,t83,t84,t85,t86,t87,t88,t89,t90,t91,t92,t93,t94,t95,t96,t97,t98,t99,t100,t101,t102,t103,t104,t105,t106,t107,t108,t109,t110,t111,t112,t113,t114,t115,t116,t117,t118,t119,t120,t121,t122,t123,t124,t125,t126,t127,t128,t129,t130,t131,t132,t133,t134,t135,t136,t137,t138,t139,t140,t141,t142,t143,t144,t145,t146,t147,t148,t149,t150,t151,t152,t153,t154,t155,t156,t157,t158,t159,t160,t161,t162,t163,t164,t165,t166,t167,t168,t169,t170,t171,t172,t173,t174,t175,t176,t177,t178,t179,t180,t181,t182,t183,t184,t185,t186,t187,t188,t189,t190,t191,t192,t193,t194,t195,t196,t197,t198,t199,t200,t201,t202,t203,t204,t205,t206,t207,t208,t209,t210,t211,t212,t213,t214,t215,t216,t217,t218,t219,t220,t221,t222,t223,t224,t225,t226,t227,t228,t229,t230,t231,t232,t233,t234,t235,t236,t237,t238,t239,t240,t241,t242],defers:=[]}/\w.ownsRow base 2 1 v' (J+1) (iz (xs++[IntKind.i64.wrap (y+z)]))/\Gr wB w
 | _,_,_=>False
set_option maxRecDepth 100000 in
set_option maxHeartbeats 8000000 in
theorem reg811 (t0 t3 t4 t5 t6 t7 t8 t11 t12 t13 t14 t15 t16 t17 t18 t19 t20 t21 t22 t23 t24 t25 t26 t27 t28 t29 t30 t31 t32 t33 t34 t35 t36 t37 t38 t39 t40 t41 t42 t43 t44 t45 t46 t47 t48 t49 t50 t51 t52 t53 t54 t55 t56 t57 t58 t59 t60 t61 t62 t63 t64 t65 t66 t67 t68 t69 t70 t71 t72 t73 t74 t75 t76 t77 t78 t79 t80 t81 t82 t83 t84 t85 t86 t87 t88 t89 t90 t91 t92 t93 t94 t95 t96 t97 t98 t99 t100 t101 t102 t103 t104 t105 t106 t107 t108 t109 t110 t111 t112 t113 t114 t115 t116 t117 t118 t119 t120 t121 t122 t123 t124 t125 t126 t127 t128 t129 t130 t131 t132 t133 t134 t135 t136 t137 t138 t139 t140 t141 t142 t143 t144 t145 t146 t147 t148 t149 t150 t151 t152 t153 t154 t155 t156 t157 t158 t159 t160 t161 t162 t163 t164 t165 t166 t167 t168 t169 t170 t171 t172 t173 t174 t175 t176 t177 t178 t179 t180 t181 t182 t183 t184 t185 t186 t187 t188 t189 t190 t191 t192 t193 t194 t195 t196 t197 t198 t199 t200 t201 t202 t203 t204 t205 t206 t207 t208 t209 t210 t211 t212 t213 t214 t215 t216 t217 t218 t219 t220 t221 t222 t223 t224 t225 t226 t227 t228 t229 t230 t231 t232 t233 t234 t235 t236 t237 t238 t239 t240 t241 t242:Value) (pb pc:Addr) (N c1 c2 J base:Nat) (y z:Int) (xs:List Int) (vb:Value) (wB wq:World) (hc1:wB.cell? (pb.add J)=some (.int .i64 y)) (hc2:wB.cell? (pc.add J)=some (.int .i64 z)) (hb1:(pb.add J).block<wB.heap.size) (hb2:(pc.add J).block<wB.heap.size) (hO0:wq.ownsRow base 2 1 vb J (iz xs)) (hg:Gr wB wq) (hBB:wB.heap.size<=base) (hB0:base<=wq.heap.size) (hJ:J<=4398046511104) (i1:(J:Int)<(N:Int)) :
  Code.wp Tryz.prog (Code.region 11 #[{dst:=some 55,op:=Op.move (Operand.tmp 9),type:=22,pos:= "outright.go:67",after:=#[],guard:=none},{dst:=some 56,op:=Op.move (Operand.tmp 1),type:=22,pos:= "outright.go:67",after:=#[],guard:=none},{dst:=some 57,op:=Op.move (Operand.tmp 10),type:=3,pos:= "outright.go:67",after:=#[],guard:=none},{dst:=some 58,op:=Op.indexAddr 22 (Operand.tmp 56) (Operand.tmp 57),type:=0,pos:= "outright.go:67",after:=#[{on:=1,ground:=Ground.data},{on:=2,ground:=Ground.data}],guard:=none},{dst:=some 59,op:=Op.load 2 (Operand.tmp 58),type:=2,pos:= "outright.go:67",after:=#[{on:=3,ground:=Ground.data}],guard:=none},{dst:=some 60,op:=Op.move (Operand.tmp 2),type:=22,pos:= "outright.go:67",after:=#[],guard:=none},{dst:=some 61,op:=Op.move (Operand.tmp 10),type:=3,pos:= "outright.go:67",after:=#[],guard:=none},{dst:=some 62,op:=Op.indexAddr 22 (Operand.tmp 60) (Operand.tmp 61),type:=0,pos:= "outright.go:67",after:=#[{on:=5,ground:=Ground.data},{on:=6,ground:=Ground.data}],guard:=none},{dst:=some 63,op:=Op.load 2 (Operand.tmp 62),type:=2,pos:= "outright.go:67",after:=#[{on:=7,ground:=Ground.data}],guard:=none},{dst:=some 64,op:=Op.binOp BinOp.add 2 (Operand.tmp 59) (Operand.tmp 63) 2,type:=2,pos:= "outright.go:67",after:=#[{on:=4,ground:=Ground.data},{on:=8,ground:=Ground.data}],guard:=none},{dst:=some 65,op:=Op.buildSlice 22 1 #[(0,Operand.tmp 64)],type:=22,pos:= "outright.go:67",after:=#[{on:=9,ground:=Ground.data}],guard:=none},{dst:=some 66,op:=Op.call {callee:=Callee.builtin Builtin.append,args:=#[Operand.tmp 55,Operand.tmp 65],argTypes:=#[22,22]},type:=22,pos:= "outright.go:67",after:=#[{on:=0,ground:=Ground.data},{on:=10,ground:=Ground.data}],guard:=none},{dst:=some 9,op:=Op.assign (Operand.tmp 66),type:=22,pos:= "outright.go:67",after:=#[{on:=11,ground:=Ground.data},{on:=11,ground:=Ground.chain},{on:=0,ground:=Ground.phase},{on:=1,ground:=Ground.phase},{on:=2,ground:=Ground.phase},{on:=3,ground:=Ground.phase},{on:=4,ground:=Ground.phase},{on:=5,ground:=Ground.phase},{on:=6,ground:=Ground.phase},{on:=7,ground:=Ground.phase},{on:=8,ground:=Ground.phase},{on:=9,ground:=Ground.phase},{on:=10,ground:=Ground.phase},{on:=11,ground:=Ground.phase}],guard:=none}] true) (R811 t0 t3 t4 t5 t6 t7 t8 t11 t12 t13 t14 t15 t16 t17 t18 t19 t20 t21 t22 t23 t24 t25 t26 t27 t28 t29 t30 t31 t32 t33 t34 t35 t36 t37 t38 t39 t40 t41 t42 t43 t44 t45 t46 t47 t48 t49 t50 t51 t52 t53 t54 t55 t56 t57 t58 t59 t60 t61 t62 t63 t64 t65 t66 t67 t68 t69 t70 t71 t72 t73 t74 t75 t76 t77 t78 t79 t80 t81 t82 t83 t84 t85 t86 t87 t88 t89 t90 t91 t92 t93 t94 t95 t96 t97 t98 t99 t100 t101 t102 t103 t104 t105 t106 t107 t108 t109 t110 t111 t112 t113 t114 t115 t116 t117 t118 t119 t120 t121 t122 t123 t124 t125 t126 t127 t128 t129 t130 t131 t132 t133 t134 t135 t136 t137 t138 t139 t140 t141 t142 t143 t144 t145 t146 t147 t148 t149 t150 t151 t152 t153 t154 t155 t156 t157 t158 t159 t160 t161 t162 t163 t164 t165 t166 t167 t168 t169 t170 t171 t172 t173 t174 t175 t176 t177 t178 t179 t180 t181 t182 t183 t184 t185 t186 t187 t188 t189 t190 t191 t192 t193 t194 t195 t196 t197 t198 t199 t200 t201 t202 t203 t204 t205 t206 t207 t208 t209 t210 t211 t212 t213 t214 t215 t216 t217 t218 t219 t220 t221 t222 t223 t224 t225 t226 t227 t228 t229 t230 t231 t232 t233 t234 t235 t236 t237 t238 t239 t240 t241 t242 pb pc N c1 c2 J base y z xs vb wB wq) {tmps:=#[t0,.slice (some pb) N c1,.slice (some pc) N c2,t3,t4,t5,t6,t7,t8,vb,.int .i64 (J:Int),t11,t12,t13,t14,t15,t16,t17,t18,t19,t20,t21,t22,t23,t24,t25,t26,t27,t28,t29,t30,t31,t32,t33,t34,t35,t36,t37,t38,t39,t40,t41,t42,t43,t44,t45,t46,t47,t48,t49,t50,t51,t52,t53,t54,t55,t56,t57,t58,t59,t60,t61,t62,t63,t64,t65,t66,t67,t68,t69,t70,t71,t72,t73,t74,t75,t76,t77,t78,t79,t80,t81,t82,t83,t84,t85,t86,t87,t88,t89,t90,t91,t92,t93,t94,t95,t96,t97,t98,t99,t100,t101,t102,t103,t104,t105,t106,t107,t108,t109,t110,t111,t112,t113,t114,t115,t116,t117,t118,t119,t120,t121,t122,t123,t124,t125,t126,t127,t128,t129,t130,t131,t132,t133,t134,t135,t136,t137,t138,t139,t140,t141,t142,t143,t144,t145,t146,t147,t148,t149,t150,t151,t152,t153,t154,t155,t156,t157,t158,t159,t160,t161,t162,t163,t164,t165,t166,t167,t168,t169,t170,t171,t172,t173,t174,t175,t176,t177,t178,t179,t180,t181,t182,t183,t184,t185,t186,t187,t188,t189,t190,t191,t192,t193,t194,t195,t196,t197,t198,t199,t200,t201,t202,t203,t204,t205,t206,t207,t208,t209,t210,t211,t212,t213,t214,t215,t216,t217,t218,t219,t220,t221,t222,t223,t224,t225,t226,t227,t228,t229,t230,t231,t232,t233,t234,t235,t236,t237,t238,t239,t240,t241,t242],defers:=[]} wq:=by
 have hS0:(wq.drew.cell? (pb.add J)=some (.int .i64 y)/\wq.drew.cell? (pc.add J)=some (.int .i64 z))/\Gr wB wq.drew:=⟨⟨keepA hg.drew hb1 hc1,keepA hg.drew hb2 hc2⟩,hg.drew⟩
 have hO:wq.drew.ownsRow base 2 1 vb J (iz xs):=hO0
 have hB:base<=wq.drew.heap.size:=hB0
 clear hO0 hB0 hg
 refine wp_region_held_drew (S:=fun w'=>(w'.cell? (pb.add J)=some (.int .i64 y)/\w'.cell? (pc.add J)=some (.int .i64 z))/\Gr wB w') (by kernel_rfl) hS0 (fun hHeld=>?_)
 clear hS0
 generalize wq.drew=wd at *
 refine wpAnyH_take (i:=0) (oi:=({dst:=some 55,op:=Op.move (Operand.tmp 9),type:=22,pos:= "outright.go:67",after:=#[],guard:=none}:Oper)) (v:=?_) rfl (by kernel_rfl) (by kernel_rfl) (by kernel_rfl) (fun _ _ _ h=>h) (Or.inl ⟨by rfl,?_⟩) (by with_reducible assumption) ?_
 rotate_left
 ·intro w hSw
  (try dsimp only at hSw)
  first | (go_simp;done) | (go_simp;with_reducible rfl)
 (try simp only [Act.put,List.setIfInBounds_toArray,List.set_cons_zero,List.set_cons_succ])
 refine wpAnyH_take (i:=1) (oi:=({dst:=some 56,op:=Op.move (Operand.tmp 1),type:=22,pos:= "outright.go:67",after:=#[],guard:=none}:Oper)) (v:=?_) rfl (by kernel_rfl) (by kernel_rfl) (by kernel_rfl) (fun _ _ _ h=>h) (Or.inl ⟨by rfl,?_⟩) (by with_reducible assumption) ?_
 rotate_left
 ·intro w hSw
  (try dsimp only at hSw)
  first | (go_simp;done) | (go_simp;with_reducible rfl)
 (try simp only [Act.put,List.setIfInBounds_toArray,List.set_cons_zero,List.set_cons_succ])
 refine wpAnyH_take (i:=2) (oi:=({dst:=some 57,op:=Op.move (Operand.tmp 10),type:=3,pos:= "outright.go:67",after:=#[],guard:=none}:Oper)) (v:=?_) rfl (by kernel_rfl) (by kernel_rfl) (by kernel_rfl) (fun _ _ _ h=>h) (Or.inl ⟨by rfl,?_⟩) (by with_reducible assumption) ?_
 rotate_left
 ·intro w hSw
  (try dsimp only at hSw)
  first | (go_simp;done) | (go_simp;with_reducible rfl)
 (try simp only [Act.put,List.setIfInBounds_toArray,List.set_cons_zero,List.set_cons_succ])
 refine wpAnyH_take (i:=3) (oi:=({dst:=some 58,op:=Op.indexAddr 22 (Operand.tmp 56) (Operand.tmp 57),type:=0,pos:= "outright.go:67",after:=#[{on:=1,ground:=Ground.data},{on:=2,ground:=Ground.data}],guard:=none}:Oper)) (v:=?_) rfl (by kernel_rfl) (by kernel_rfl) (by kernel_rfl) (fun _ _ _ h=>h) (Or.inl ⟨by rfl,?_⟩) (by with_reducible assumption) ?_
 rotate_left
 ·intro w hSw
  (try dsimp only at hSw)
  first | (go_simp;done) | (go_simp;with_reducible rfl)
 (try simp only [Act.put,List.setIfInBounds_toArray,List.set_cons_zero,List.set_cons_succ])
 refine wpAnyH_take (i:=4) (oi:=({dst:=some 59,op:=Op.load 2 (Operand.tmp 58),type:=2,pos:= "outright.go:67",after:=#[{on:=3,ground:=Ground.data}],guard:=none}:Oper)) (v:=?_) rfl (by kernel_rfl) (by kernel_rfl) (by kernel_rfl) (fun _ _ _ h=>h) (Or.inl ⟨by rfl,?_⟩) (by with_reducible assumption) ?_
 rotate_left
 ·intro w hSw
  (try dsimp only at hSw)
  first | (go_simp;done) | (go_simp;with_reducible rfl)
 (try simp only [Act.put,List.setIfInBounds_toArray,List.set_cons_zero,List.set_cons_succ])
 refine wpAnyH_take (i:=5) (oi:=({dst:=some 60,op:=Op.move (Operand.tmp 2),type:=22,pos:= "outright.go:67",after:=#[],guard:=none}:Oper)) (v:=?_) rfl (by kernel_rfl) (by kernel_rfl) (by kernel_rfl) (fun _ _ _ h=>h) (Or.inl ⟨by rfl,?_⟩) (by with_reducible assumption) ?_
 rotate_left
 ·intro w hSw
  (try dsimp only at hSw)
  first | (go_simp;done) | (go_simp;with_reducible rfl)
 (try simp only [Act.put,List.setIfInBounds_toArray,List.set_cons_zero,List.set_cons_succ])
 refine wpAnyH_take (i:=6) (oi:=({dst:=some 61,op:=Op.move (Operand.tmp 10),type:=3,pos:= "outright.go:67",after:=#[],guard:=none}:Oper)) (v:=?_) rfl (by kernel_rfl) (by kernel_rfl) (by kernel_rfl) (fun _ _ _ h=>h) (Or.inl ⟨by rfl,?_⟩) (by with_reducible assumption) ?_
 rotate_left
 ·intro w hSw
  (try dsimp only at hSw)
  first | (go_simp;done) | (go_simp;with_reducible rfl)
 (try simp only [Act.put,List.setIfInBounds_toArray,List.set_cons_zero,List.set_cons_succ])
 refine wpAnyH_take (i:=7) (oi:=({dst:=some 62,op:=Op.indexAddr 22 (Operand.tmp 60) (Operand.tmp 61),type:=0,pos:= "outright.go:67",after:=#[{on:=5,ground:=Ground.data},{on:=6,ground:=Ground.data}],guard:=none}:Oper)) (v:=?_) rfl (by kernel_rfl) (by kernel_rfl) (by kernel_rfl) (fun _ _ _ h=>h) (Or.inl ⟨by rfl,?_⟩) (by with_reducible assumption) ?_
 rotate_left
 ·intro w hSw
  (try dsimp only at hSw)
  first | (go_simp;done) | (go_simp;with_reducible rfl)
 (try simp only [Act.put,List.setIfInBounds_toArray,List.set_cons_zero,List.set_cons_succ])
 refine wpAnyH_take (i:=8) (oi:=({dst:=some 63,op:=Op.load 2 (Operand.tmp 62),type:=2,pos:= "outright.go:67",after:=#[{on:=7,ground:=Ground.data}],guard:=none}:Oper)) (v:=?_) rfl (by kernel_rfl) (by kernel_rfl) (by kernel_rfl) (fun _ _ _ h=>h) (Or.inl ⟨by rfl,?_⟩) (by with_reducible assumption) ?_
 rotate_left
 ·intro w hSw
  (try dsimp only at hSw)
  first | (go_simp;done) | (go_simp;with_reducible rfl)
 (try simp only [Act.put,List.setIfInBounds_toArray,List.set_cons_zero,List.set_cons_succ])
 refine wpAnyH_take (i:=9) (oi:=({dst:=some 64,op:=Op.binOp BinOp.add 2 (Operand.tmp 59) (Operand.tmp 63) 2,type:=2,pos:= "outright.go:67",after:=#[{on:=4,ground:=Ground.data},{on:=8,ground:=Ground.data}],guard:=none}:Oper)) (v:=?_) rfl (by kernel_rfl) (by kernel_rfl) (by kernel_rfl) (fun _ _ _ h=>h) (Or.inl ⟨by rfl,?_⟩) (by with_reducible assumption) ?_
 rotate_left
 ·intro w hSw
  (try dsimp only at hSw)
  first | (go_simp;done) | (go_simp;with_reducible rfl)
 (try simp only [Act.put,List.setIfInBounds_toArray,List.set_cons_zero,List.set_cons_succ])
 refine wpAnyH_ready (rs:=[10]) (by kernel_rfl) (by simp) ?_
 refine AllReadyH.cons (o:=({dst:=some 65,op:=Op.buildSlice 22 1 #[(0,Operand.tmp 64)],type:=22,pos:= "outright.go:67",after:=#[{on:=9,ground:=Ground.data}],guard:=none}:Oper)) rfl (fun K hK=>?_) AllReadyH.nil
 go_simp
 refine hK.out _ _ ⟨⟨keepA ((Gr.refl wd).alloc _) (Nat.lt_of_lt_of_le hb1 hHeld.2.size) hHeld.1.1,keepA ((Gr.refl wd).alloc _) (Nat.lt_of_lt_of_le hb2 hHeld.2.size) hHeld.1.2⟩,hHeld.2.trans ((Gr.refl wd).alloc _)⟩ (fun hM=>?_)
 clear hK K
 (try simp only [Act.put,List.setIfInBounds_toArray,List.set_cons_zero,List.set_cons_succ])
 refine wpAnyH_ready (rs:=[11]) (by kernel_rfl) (by simp) ?_
 refine AllReadyH.cons (o:=({dst:=some 66,op:=Op.call {callee:=Callee.builtin Builtin.append,args:=#[Operand.tmp 55,Operand.tmp 65],argTypes:=#[22,22]},type:=22,pos:= "outright.go:67",after:=#[{on:=0,ground:=Ground.data},{on:=10,ground:=Ground.data}],guard:=none}:Oper)) rfl (fun K hK=>?_) AllReadyH.nil
 obtain ⟨i0,hi,hz0,hz1,hz2⟩:=info_parts infoI
 refine wp_append_own _ (.tmp 55) (.tmp 65) 22 rfl base 2 i0 (.int .i64 0) 1 8 Tryz.underlying22 hi hz0 hz1 hz2 rfl (by decide) vb J (iz xs) rfl (hO.alloc _) ⟨wd.heap.size,0,none⟩ 1 1 (iz [IntKind.i64.wrap (y+z)]) rfl rfl ?p1 (iz_one _) (by unfold maxLen;omega) (by omega) (by simp;omega) ?p2
 case p1 =>
  intro j u hj
  match j,hj with
  | 0,hj=>simp [iz] at hj;subst hj;simp [Addr.add]
 intro v' w' o1 hgr _
 rw [<-iz_append] at o1
 have g2:Gr wB w':=(hHeld.2.alloc _).grown hgr (fun k hk=>Nat.le_trans hBB (hO.lt k hk).1)
 refine hK.out _ _ ⟨⟨keepA g2 hb1 hc1,keepA g2 hb2 hc2⟩,g2⟩ (fun hM2=>?_)
 clear hK K
 (try simp only [Act.put,List.setIfInBounds_toArray,List.set_cons_zero,List.set_cons_succ])
 refine wpAnyH_take (i:=12) (oi:=({dst:=some 9,op:=Op.assign (Operand.tmp 66),type:=22,pos:= "outright.go:67",after:=#[{on:=11,ground:=Ground.data},{on:=11,ground:=Ground.chain},{on:=0,ground:=Ground.phase},{on:=1,ground:=Ground.phase},{on:=2,ground:=Ground.phase},{on:=3,ground:=Ground.phase},{on:=4,ground:=Ground.phase},{on:=5,ground:=Ground.phase},{on:=6,ground:=Ground.phase},{on:=7,ground:=Ground.phase},{on:=8,ground:=Ground.phase},{on:=9,ground:=Ground.phase},{on:=10,ground:=Ground.phase},{on:=11,ground:=Ground.phase}],guard:=none}:Oper)) (v:=?_) rfl (by kernel_rfl) (by kernel_rfl) (by kernel_rfl) (fun _ _ _ h=>h) (Or.inl ⟨by rfl,?_⟩) (by with_reducible assumption) ?_
 rotate_left
 ·intro w hSw
  (try dsimp only at hSw)
  first | (go_simp;done) | (go_simp;with_reducible rfl)
 (try simp only [Act.put,List.setIfInBounds_toArray,List.set_cons_zero,List.set_cons_succ])
 refine wpAnyH_done (by kernel_rfl) ?_ _
 exact ⟨_,_,_,_,_,_,_,_,_,_,_,_,_,rfl,o1,g2⟩
end Go.Proofs.YtbcocfhfhblhcaaGreatDoor.Fl
