import Derived.Test.YtmdakhpdofepeaaU43
namespace Go.Proofs.Ytmdakhpdofepeaa
open Go.RowKit
set_option linter.unusedVariables false
set_option linter.unusedSimpArgs false
theorem kp10 {w w':World} {a0 b0 a1 b1 a2 b2 a3 b3 a4 b4 a5 b5 a6 b6 a7 b7 a8 b8 a9 b9:Nat} {v0 v1 v2 v3 v4 v5 v6 v7 v8 v9:Value} (g:Gr w w') (h:w.cell? ⟨a0,b0,none⟩=some v0/\w.cell? ⟨a1,b1,none⟩=some v1/\w.cell? ⟨a2,b2,none⟩=some v2/\w.cell? ⟨a3,b3,none⟩=some v3/\w.cell? ⟨a4,b4,none⟩=some v4/\w.cell? ⟨a5,b5,none⟩=some v5/\w.cell? ⟨a6,b6,none⟩=some v6/\w.cell? ⟨a7,b7,none⟩=some v7/\w.cell? ⟨a8,b8,none⟩=some v8/\w.cell? ⟨a9,b9,none⟩=some v9):w'.cell? ⟨a0,b0,none⟩=some v0/\w'.cell? ⟨a1,b1,none⟩=some v1/\w'.cell? ⟨a2,b2,none⟩=some v2/\w'.cell? ⟨a3,b3,none⟩=some v3/\w'.cell? ⟨a4,b4,none⟩=some v4/\w'.cell? ⟨a5,b5,none⟩=some v5/\w'.cell? ⟨a6,b6,none⟩=some v6/\w'.cell? ⟨a7,b7,none⟩=some v7/\w'.cell? ⟨a8,b8,none⟩=some v8/\w'.cell? ⟨a9,b9,none⟩=some v9:=⟨keepG g h.1,keepG g h.2.1,keepG g h.2.2.1,keepG g h.2.2.2.1,keepG g h.2.2.2.2.1,keepG g h.2.2.2.2.2.1,keepG g h.2.2.2.2.2.2.1,keepG g h.2.2.2.2.2.2.2.1,keepG g h.2.2.2.2.2.2.2.2.1,keepG g h.2.2.2.2.2.2.2.2.2⟩
def RGm20a (t0 t1 t3 t4 t5 t6 t7 t10 t12 t13 t14 t15 t17 t18 t19 t20 t21 t22 t23 t24 t25 t26 t27 t28 t29 t30 t31 t32 t33 t34 t35 t36 t37 t38 t39 t40 t41 t42 t43 t44 t45 t46 t47 t48 t49 t50 t51 t52 t53 t54 t55 t56 t57 t58 t59 t60 t61 t62 t63 t64 t65 t66 t67 t68 t69 t70 t71 t72 t73 t74 t75 t76 t77 t78 t79 t80 t81 t82 t83 t84 t85 t86 t87 t88 t89 t90 t91 t92 t93 t94 t95 t96 t97 t98 t99 t100 t101 t102 t103 t104 t105 t106 t107 t108 t109 t110 t111 t112 t113 t114 t115 t116 t117 t118 t119 t120 t121 t122 t123 t124 t125 t126 t127 t128 t129 t130 t131 t132 t133 t134 t135 t136 t137 t138 t139 t140 t141 t142 t143 t144 t145 t146 t147 t148 t149 t150 t151 t152 t153 t154 t155 t156 t157 t158 t159 t160 t161 t162 t163 t164 t165 t166 t167 t168 t169 t170 t171 t172 t173 t174 t175 t176 t177 t178 t179 t180 t181 t182 t183 t184 t185 t186 t187 t188 t189 t190 t191 t192 t193 t194 t195 t196 t197 t198 t199 t200 t201 t202 t203 t204 t205 t206 t207 t208 t209 t210 t211 t212 t213 t214 t215 t216 t217 t218 t219 t220 t221 t222 t223 t224 t225 t226 t227 t228 t229 t230 t231 t232 t233 t234 t235 t236 t237 t238 t239 t240 t241:Value) (p2 n2 c2 p8 n8 c8 p9 n9 c9 p11 n11 c11 p16 n16 c16:Nat) (s2 s8 s9 s11 s16:Bool) (a2 a8 a9 a11 a16:Option Addr) (wq:World):Exit->Act->World->Prop
 | .normal,a,w=>∃u173 u174 u175 u176 u177 u178 u179 u180 u181 u182 u183 u184 u185 u186 u187 u188 u189 u190 u191,a = {tmps:=#[t0,t1,.pointer (some ⟨p2,0,none⟩),t3,.bool true,t5,t6,t7,.pointer (some ⟨p8,0,none⟩),.pointer (some ⟨p9,0,none⟩),t10,.pointer (some ⟨p11,0,none⟩),t12,t13,t14,t15,.pointer (some ⟨p16,0,none⟩),t17,t18,t19,t20,t21,t22,t23,t24,t25,t26,t27,t28,t29,t30,t31,t32,t33,t34,t35,t36,t37,t38,t39,t40,t41,t42,t43,t44,t45,t46,t47,t48,t49,t50,t51,t52,t53,t54,t55,t56,t57,t58,t59,t60,t61,t62,t63,t64,t65,t66,t67,t68,t69,t70,t71,t72,t73,t74,t75,t76,t77,t78,t79,t80,t81,t82,t83,t84,t85,t86,t87,t88,t89,t90,t91,t92,t93,t94,t95,t96,t97,t98,t99,t100,t101,t102,t103,t104,t105,t106,t107,t108,t109,t110,t111,t112,t113,t114,t115,t116,t117,t118,t119,t120,t121,t122,t123,t124,t125,t126,t127,t128,t129,t130,t131,t132,t133,t134,t135,t136,t137,t138,t139,t140,t141,t142,t143,t144,t145,t146,t147,t148,t149,t150,t151,t152,t153,t154,t155,t156,t157,t158,t159,t160,t161,t162,t163,t164,t165,t166,t167,t168,t169,t170,t171,t172,u173,u174,u175,u176,u177,u178,u179,u180,u181,u182,u183,u184,u185,u186,u187,u188,u189,u190,u191,t192,t193,t194,t195,t196,t197,t198,t199,t200,t201,t202,t203,t204,t205,t206,t207,t208,t209,t210,t211,t212,t213,t214,t215,t216,t217,t218,t219,t220,t221,t222,t223,t224,t225,t226,t227,t228,t229,t230,t231,t232,t233,t234,t235,t236,t237,t238,t239,t240,t241],defers:=[]}/\Gr wq w
 | _,_,_=>False
set_option maxRecDepth 100000 in
set_option maxHeartbeats 20000000 in
theorem regGm20a (t0 t1 t3 t4 t5 t6 t7 t10 t12 t13 t14 t15 t17 t18 t19 t20 t21 t22 t23 t24 t25 t26 t27 t28 t29 t30 t31 t32 t33 t34 t35 t36 t37 t38 t39 t40 t41 t42 t43 t44 t45 t46 t47 t48 t49 t50 t51 t52 t53 t54 t55 t56 t57 t58 t59 t60 t61 t62 t63 t64 t65 t66 t67 t68 t69 t70 t71 t72 t73 t74 t75 t76 t77 t78 t79 t80 t81 t82 t83 t84 t85 t86 t87 t88 t89 t90 t91 t92 t93 t94 t95 t96 t97 t98 t99 t100 t101 t102 t103 t104 t105 t106 t107 t108 t109 t110 t111 t112 t113 t114 t115 t116 t117 t118 t119 t120 t121 t122 t123 t124 t125 t126 t127 t128 t129 t130 t131 t132 t133 t134 t135 t136 t137 t138 t139 t140 t141 t142 t143 t144 t145 t146 t147 t148 t149 t150 t151 t152 t153 t154 t155 t156 t157 t158 t159 t160 t161 t162 t163 t164 t165 t166 t167 t168 t169 t170 t171 t172 t173 t174 t175 t176 t177 t178 t179 t180 t181 t182 t183 t184 t185 t186 t187 t188 t189 t190 t191 t192 t193 t194 t195 t196 t197 t198 t199 t200 t201 t202 t203 t204 t205 t206 t207 t208 t209 t210 t211 t212 t213 t214 t215 t216 t217 t218 t219 t220 t221 t222 t223 t224 t225 t226 t227 t228 t229 t230 t231 t232 t233 t234 t235 t236 t237 t238 t239 t240 t241:Value) (p2 n2 c2 p8 n8 c8 p9 n9 c9 p11 n11 c11 p16 n16 c16:Nat) (s2 s8 s9 s11 s16:Bool) (a2 a8 a9 a11 a16:Option Addr) (wq:World)
  (Z9:Hid (∀w1,Gr wq w1->Calls Try.prog 11 #[.agg #[.bool s9,.slice a9 n9 c9]] w1 fun r w'=>r = .returned (.bool true)/\Gr w1 w'))
  (Z11:Hid (∀w1,Gr wq w1->Calls Try.prog 11 #[.agg #[.bool s11,.slice a11 n11 c11]] w1 fun r w'=>r = .returned (.bool true)/\Gr w1 w'))
  (Z2:Hid (∀w1,Gr wq w1->Calls Try.prog 11 #[.agg #[.bool s2,.slice a2 n2 c2]] w1 fun r w'=>r = .returned (.bool true)/\Gr w1 w'))
  (Z8:Hid (∀w1,Gr wq w1->Calls Try.prog 11 #[.agg #[.bool s8,.slice a8 n8 c8]] w1 fun r w'=>r = .returned (.bool true)/\Gr w1 w')) (G0:Gr wq wq) (hcs:(wq.cell? ⟨p2,0,none⟩=some (.bool s2)/\wq.cell? ⟨p2,1,none⟩=some (.slice a2 n2 c2)/\wq.cell? ⟨p8,0,none⟩=some (.bool s8)/\wq.cell? ⟨p8,1,none⟩=some (.slice a8 n8 c8)/\wq.cell? ⟨p9,0,none⟩=some (.bool s9)/\wq.cell? ⟨p9,1,none⟩=some (.slice a9 n9 c9)/\wq.cell? ⟨p11,0,none⟩=some (.bool s11)/\wq.cell? ⟨p11,1,none⟩=some (.slice a11 n11 c11)/\wq.cell? ⟨p16,0,none⟩=some (.bool s16)/\wq.cell? ⟨p16,1,none⟩=some (.slice a16 n16 c16))) :
  Code.wp Try.prog (Code.region 20 #[{dst:=some 173,op:=Op.load 24 (Operand.tmp 9),type:=24,pos:= "outright.go:58",after:=#[],guard:=none},{dst:=some 174,op:=Op.call {callee:=Callee.value (Operand.func 11),args:=#[Operand.tmp 173],argTypes:=#[24]},type:=4,pos:= "outright.go:58",after:=#[{on:=0,ground:=Ground.data}],guard:=none},{dst:=some 175,op:=Op.move (Operand.tmp 174),type:=4,pos:= "outright.go:58",after:=#[{on:=1,ground:=Ground.data},{on:=1,ground:=Ground.chain}],guard:=none},{dst:=some 176,op:=Op.load 24 (Operand.tmp 11),type:=24,pos:= "outright.go:58",after:=#[{on:=2,ground:=Ground.guard}],guard:=some (2,true)},{dst:=some 177,op:=Op.call {callee:=Callee.value (Operand.func 11),args:=#[Operand.tmp 176],argTypes:=#[24]},type:=4,pos:= "outright.go:58",after:=#[{on:=3,ground:=Ground.data},{on:=2,ground:=Ground.chain},{on:=2,ground:=Ground.guard}],guard:=some (2,true)},{dst:=some 178,op:=Op.pick (Operand.tmp 175) (Operand.tmp 177) (Operand.const (Value.bool false)),type:=4,pos:= "outright.go:58",after:=#[{on:=2,ground:=Ground.data},{on:=4,ground:=Ground.data}],guard:=none},{dst:=some 179,op:=Op.move (Operand.tmp 178),type:=4,pos:= "outright.go:58",after:=#[{on:=5,ground:=Ground.data},{on:=4,ground:=Ground.chain}],guard:=none},{dst:=some 180,op:=Op.load 24 (Operand.tmp 2),type:=24,pos:= "outright.go:58",after:=#[{on:=6,ground:=Ground.guard}],guard:=some (6,true)},{dst:=some 181,op:=Op.call {callee:=Callee.value (Operand.func 11),args:=#[Operand.tmp 180],argTypes:=#[24]},type:=4,pos:= "outright.go:58",after:=#[{on:=7,ground:=Ground.data},{on:=6,ground:=Ground.chain},{on:=6,ground:=Ground.guard}],guard:=some (6,true)},{dst:=some 182,op:=Op.move (Operand.tmp 181),type:=4,pos:= "outright.go:58",after:=#[{on:=8,ground:=Ground.data},{on:=8,ground:=Ground.chain},{on:=6,ground:=Ground.guard}],guard:=some (6,true)},{dst:=some 183,op:=Op.load 24 (Operand.tmp 8),type:=24,pos:= "outright.go:58",after:=#[{on:=9,ground:=Ground.guard}],guard:=some (9,true)},{dst:=some 184,op:=Op.call {callee:=Callee.value (Operand.func 11),args:=#[Operand.tmp 183],argTypes:=#[24]},type:=4,pos:= "outright.go:58",after:=#[{on:=10,ground:=Ground.data},{on:=9,ground:=Ground.chain},{on:=9,ground:=Ground.guard}],guard:=some (9,true)},{dst:=some 185,op:=Op.pick (Operand.tmp 182) (Operand.tmp 184) (Operand.const (Value.bool false)),type:=4,pos:= "outright.go:58",after:=#[{on:=9,ground:=Ground.data},{on:=11,ground:=Ground.data},{on:=6,ground:=Ground.guard}],guard:=some (6,true)},{dst:=some 186,op:=Op.move (Operand.tmp 185),type:=4,pos:= "outright.go:58",after:=#[{on:=12,ground:=Ground.data},{on:=11,ground:=Ground.chain},{on:=6,ground:=Ground.guard}],guard:=some (6,true)},{dst:=some 187,op:=Op.load 24 (Operand.tmp 16),type:=24,pos:= "outright.go:58",after:=#[{on:=13,ground:=Ground.guard}],guard:=some (13,false)},{dst:=some 188,op:=Op.call {callee:=Callee.value (Operand.func 16),args:=#[Operand.const (Value.int IntKind.i64 1)],argTypes:=#[2]},type:=24,pos:= "outright.go:58",after:=#[{on:=13,ground:=Ground.chain},{on:=13,ground:=Ground.guard}],guard:=some (13,false)},{dst:=some 189,op:=Op.call {callee:=Callee.value (Operand.func 12),args:=#[Operand.tmp 187,Operand.tmp 188],argTypes:=#[24,24]},type:=4,pos:= "outright.go:58",after:=#[{on:=14,ground:=Ground.data},{on:=15,ground:=Ground.data},{on:=15,ground:=Ground.chain},{on:=13,ground:=Ground.guard}],guard:=some (13,false)},{dst:=some 190,op:=Op.pick (Operand.tmp 186) (Operand.const (Value.bool true)) (Operand.tmp 189),type:=4,pos:= "outright.go:58",after:=#[{on:=13,ground:=Ground.data},{on:=16,ground:=Ground.data},{on:=6,ground:=Ground.guard}],guard:=some (6,true)},{dst:=some 191,op:=Op.pick (Operand.tmp 179) (Operand.tmp 190) (Operand.const (Value.bool false)),type:=4,pos:= "outright.go:58",after:=#[{on:=6,ground:=Ground.data},{on:=17,ground:=Ground.data}],guard:=none},{dst:=some 4,op:=Op.assign (Operand.tmp 191),type:=4,pos:= "outright.go:58",after:=#[{on:=18,ground:=Ground.data},{on:=16,ground:=Ground.chain},{on:=0,ground:=Ground.phase},{on:=1,ground:=Ground.phase},{on:=2,ground:=Ground.phase},{on:=3,ground:=Ground.phase},{on:=4,ground:=Ground.phase},{on:=5,ground:=Ground.phase},{on:=6,ground:=Ground.phase},{on:=7,ground:=Ground.phase},{on:=8,ground:=Ground.phase},{on:=9,ground:=Ground.phase},{on:=10,ground:=Ground.phase},{on:=11,ground:=Ground.phase},{on:=12,ground:=Ground.phase},{on:=13,ground:=Ground.phase},{on:=14,ground:=Ground.phase},{on:=15,ground:=Ground.phase},{on:=16,ground:=Ground.phase},{on:=17,ground:=Ground.phase},{on:=18,ground:=Ground.phase}],guard:=none}] true) (RGm20a t0 t1 t3 t4 t5 t6 t7 t10 t12 t13 t14 t15 t17 t18 t19 t20 t21 t22 t23 t24 t25 t26 t27 t28 t29 t30 t31 t32 t33 t34 t35 t36 t37 t38 t39 t40 t41 t42 t43 t44 t45 t46 t47 t48 t49 t50 t51 t52 t53 t54 t55 t56 t57 t58 t59 t60 t61 t62 t63 t64 t65 t66 t67 t68 t69 t70 t71 t72 t73 t74 t75 t76 t77 t78 t79 t80 t81 t82 t83 t84 t85 t86 t87 t88 t89 t90 t91 t92 t93 t94 t95 t96 t97 t98 t99 t100 t101 t102 t103 t104 t105 t106 t107 t108 t109 t110 t111 t112 t113 t114 t115 t116 t117 t118 t119 t120 t121 t122 t123 t124 t125 t126 t127 t128 t129 t130 t131 t132 t133 t134 t135 t136 t137 t138 t139 t140 t141 t142 t143 t144 t145 t146 t147 t148 t149 t150 t151 t152 t153 t154 t155 t156 t157 t158 t159 t160 t161 t162 t163 t164 t165 t166 t167 t168 t169 t170 t171 t172 t173 t174 t175 t176 t177 t178 t179 t180 t181 t182 t183 t184 t185 t186 t187 t188 t189 t190 t191 t192 t193 t194 t195 t196 t197 t198 t199 t200 t201 t202 t203 t204 t205 t206 t207 t208 t209 t210 t211 t212 t213 t214 t215 t216 t217 t218 t219 t220 t221 t222 t223 t224 t225 t226 t227 t228 t229 t230 t231 t232 t233 t234 t235 t236 t237 t238 t239 t240 t241 p2 n2 c2 p8 n8 c8 p9 n9 c9 p11 n11 c11 p16 n16 c16 s2 s8 s9 s11 s16 a2 a8 a9 a11 a16 wq) {tmps:=#[t0,t1,.pointer (some ⟨p2,0,none⟩),t3,t4,t5,t6,t7,.pointer (some ⟨p8,0,none⟩),.pointer (some ⟨p9,0,none⟩),t10,.pointer (some ⟨p11,0,none⟩),t12,t13,t14,t15,.pointer (some ⟨p16,0,none⟩),t17,t18,t19,t20,t21,t22,t23,t24,t25,t26,t27,t28,t29,t30,t31,t32,t33,t34,t35,t36,t37,t38,t39,t40,t41,t42,t43,t44,t45,t46,t47,t48,t49,t50,t51,t52,t53,t54,t55,t56,t57,t58,t59,t60,t61,t62,t63,t64,t65,t66,t67,t68,t69,t70,t71,t72,t73,t74,t75,t76,t77,t78,t79,t80,t81,t82,t83,t84,t85,t86,t87,t88,t89,t90,t91,t92,t93,t94,t95,t96,t97,t98,t99,t100,t101,t102,t103,t104,t105,t106,t107,t108,t109,t110,t111,t112,t113,t114,t115,t116,t117,t118,t119,t120,t121,t122,t123,t124,t125,t126,t127,t128,t129,t130,t131,t132,t133,t134,t135,t136,t137,t138,t139,t140,t141,t142,t143,t144,t145,t146,t147,t148,t149,t150,t151,t152,t153,t154,t155,t156,t157,t158,t159,t160,t161,t162,t163,t164,t165,t166,t167,t168,t169,t170,t171,t172,t173,t174,t175,t176,t177,t178,t179,t180,t181,t182,t183,t184,t185,t186,t187,t188,t189,t190,t191,t192,t193,t194,t195,t196,t197,t198,t199,t200,t201,t202,t203,t204,t205,t206,t207,t208,t209,t210,t211,t212,t213,t214,t215,t216,t217,t218,t219,t220,t221,t222,t223,t224,t225,t226,t227,t228,t229,t230,t231,t232,t233,t234,t235,t236,t237,t238,t239,t240,t241],defers:=[]} wq:=by
 have hS0:(wq.drew.cell? ⟨p2,0,none⟩=some (.bool s2)/\wq.drew.cell? ⟨p2,1,none⟩=some (.slice a2 n2 c2)/\wq.drew.cell? ⟨p8,0,none⟩=some (.bool s8)/\wq.drew.cell? ⟨p8,1,none⟩=some (.slice a8 n8 c8)/\wq.drew.cell? ⟨p9,0,none⟩=some (.bool s9)/\wq.drew.cell? ⟨p9,1,none⟩=some (.slice a9 n9 c9)/\wq.drew.cell? ⟨p11,0,none⟩=some (.bool s11)/\wq.drew.cell? ⟨p11,1,none⟩=some (.slice a11 n11 c11)/\wq.drew.cell? ⟨p16,0,none⟩=some (.bool s16)/\wq.drew.cell? ⟨p16,1,none⟩=some (.slice a16 n16 c16))/\Gr wq wq.drew:=⟨hcs,G0.drew⟩
 clear hcs G0
 refine wp_region_held_drew (S:=fun w'=>(w'.cell? ⟨p2,0,none⟩=some (.bool s2)/\w'.cell? ⟨p2,1,none⟩=some (.slice a2 n2 c2)/\w'.cell? ⟨p8,0,none⟩=some (.bool s8)/\w'.cell? ⟨p8,1,none⟩=some (.slice a8 n8 c8)/\w'.cell? ⟨p9,0,none⟩=some (.bool s9)/\w'.cell? ⟨p9,1,none⟩=some (.slice a9 n9 c9)/\w'.cell? ⟨p11,0,none⟩=some (.bool s11)/\w'.cell? ⟨p11,1,none⟩=some (.slice a11 n11 c11)/\w'.cell? ⟨p16,0,none⟩=some (.bool s16)/\w'.cell? ⟨p16,1,none⟩=some (.slice a16 n16 c16))/\Gr wq w') (by kernel_rfl) hS0 (fun hHeld=>?_)
 clear hS0
 generalize wq.drew=wd at *
 refine wpAnyH_take (i:=0) (oi:=({dst:=some 173,op:=Op.load 24 (Operand.tmp 9),type:=24,pos:= "outright.go:58",after:=#[],guard:=none}:Oper)) (v:=?_) rfl (by kernel_rfl) (by kernel_rfl) (by kernel_rfl) (fun _ _ _ h=>h) (Or.inl ⟨by rfl,?_⟩) (by with_reducible assumption) ?_
 rotate_left
 ·intro w hSw
  (try dsimp only at hSw)
  first|(go_simp;done)|(go_simp;with_reducible rfl)
 (try simp only[Act.put,List.setIfInBounds_toArray,List.set_cons_zero,List.set_cons_succ])
 refine wpAnyH_ready (rs:=[1]) (by kernel_rfl) (by simp) ?_
 refine AllReadyH.cons (o:=({dst:=some 174,op:=Op.call {callee:=Callee.value (Operand.func 11),args:=#[Operand.tmp 173],argTypes:=#[24]},type:=4,pos:= "outright.go:58",after:=#[{on:=0,ground:=Ground.data}],guard:=none}:Oper)) rfl (fun K hK=>?_) AllReadyH.nil
 go_simp
 with_reducible refine(Z9.out _ hHeld.2).mono ?_
 rintro r wc1 ⟨rfl,gg3⟩
 refine hK.out _ _ ⟨kp10 gg3 hHeld.1,hHeld.2.trans gg3⟩ (fun hH2=>?_)
 have hzwc1:=hHeld.2.size
 clear hK K
 (try simp only[Act.put,List.setIfInBounds_toArray,List.set_cons_zero,List.set_cons_succ])
 refine wpAnyH_take (i:=2) (oi:=({dst:=some 175,op:=Op.move (Operand.tmp 174),type:=4,pos:= "outright.go:58",after:=#[{on:=1,ground:=Ground.data},{on:=1,ground:=Ground.chain}],guard:=none}:Oper)) (v:=?_) rfl (by kernel_rfl) (by kernel_rfl) (by kernel_rfl) (fun _ _ _ h=>h) (Or.inl ⟨by rfl,?_⟩) (by with_reducible assumption) ?_
 rotate_left
 ·intro w hSw
  (try dsimp only at hSw)
  first|(go_simp;done)|(go_simp;with_reducible rfl)
 (try simp only[Act.put,List.setIfInBounds_toArray,List.set_cons_zero,List.set_cons_succ])
 refine wpAnyH_take (i:=3) (oi:=({dst:=some 176,op:=Op.load 24 (Operand.tmp 11),type:=24,pos:= "outright.go:58",after:=#[{on:=2,ground:=Ground.guard}],guard:=some (2,true)}:Oper)) (v:=?_) rfl (by kernel_rfl) (by kernel_rfl) (by kernel_rfl) (fun _ _ _ h=>h) (Or.inl ⟨by rfl,?_⟩) (by with_reducible assumption) ?_
 rotate_left
 ·intro w hSw
  (try dsimp only at hSw)
  first|(go_simp;done)|(go_simp;with_reducible rfl)
 (try simp only[Act.put,List.setIfInBounds_toArray,List.set_cons_zero,List.set_cons_succ])
 refine wpAnyH_ready (rs:=[4]) (by kernel_rfl) (by simp) ?_
 refine AllReadyH.cons (o:=({dst:=some 177,op:=Op.call {callee:=Callee.value (Operand.func 11),args:=#[Operand.tmp 176],argTypes:=#[24]},type:=4,pos:= "outright.go:58",after:=#[{on:=3,ground:=Ground.data},{on:=2,ground:=Ground.chain},{on:=2,ground:=Ground.guard}],guard:=some (2,true)}:Oper)) rfl (fun K hK=>?_) AllReadyH.nil
 go_simp
 with_reducible refine(Z11.out _ hH2.2).mono ?_
 rintro r wc4 ⟨rfl,gg6⟩
 refine hK.out _ _ ⟨kp10 gg6 hH2.1,hH2.2.trans gg6⟩ (fun hH5=>?_)
 have hzwc4:=hH2.2.size
 clear hK K
 (try simp only[Act.put,List.setIfInBounds_toArray,List.set_cons_zero,List.set_cons_succ])
 refine wpAnyH_take (i:=5) (oi:=({dst:=some 178,op:=Op.pick (Operand.tmp 175) (Operand.tmp 177) (Operand.const (Value.bool false)),type:=4,pos:= "outright.go:58",after:=#[{on:=2,ground:=Ground.data},{on:=4,ground:=Ground.data}],guard:=none}:Oper)) (v:=?_) rfl (by kernel_rfl) (by kernel_rfl) (by kernel_rfl) (fun _ _ _ h=>h) (Or.inl ⟨by rfl,?_⟩) (by with_reducible assumption) ?_
 rotate_left
 ·intro w hSw
  (try dsimp only at hSw)
  first|(go_simp;done)|(go_simp;with_reducible rfl)
 (try simp only[Act.put,List.setIfInBounds_toArray,List.set_cons_zero,List.set_cons_succ])
 refine wpAnyH_take (i:=6) (oi:=({dst:=some 179,op:=Op.move (Operand.tmp 178),type:=4,pos:= "outright.go:58",after:=#[{on:=5,ground:=Ground.data},{on:=4,ground:=Ground.chain}],guard:=none}:Oper)) (v:=?_) rfl (by kernel_rfl) (by kernel_rfl) (by kernel_rfl) (fun _ _ _ h=>h) (Or.inl ⟨by rfl,?_⟩) (by with_reducible assumption) ?_
 rotate_left
 ·intro w hSw
  (try dsimp only at hSw)
  first|(go_simp;done)|(go_simp;with_reducible rfl)
 (try simp only[Act.put,List.setIfInBounds_toArray,List.set_cons_zero,List.set_cons_succ])
 refine wpAnyH_take (i:=7) (oi:=({dst:=some 180,op:=Op.load 24 (Operand.tmp 2),type:=24,pos:= "outright.go:58",after:=#[{on:=6,ground:=Ground.guard}],guard:=some (6,true)}:Oper)) (v:=?_) rfl (by kernel_rfl) (by kernel_rfl) (by kernel_rfl) (fun _ _ _ h=>h) (Or.inl ⟨by rfl,?_⟩) (by with_reducible assumption) ?_
 rotate_left
 ·intro w hSw
  (try dsimp only at hSw)
  first|(go_simp;done)|(go_simp;with_reducible rfl)
 (try simp only[Act.put,List.setIfInBounds_toArray,List.set_cons_zero,List.set_cons_succ])
 refine wpAnyH_ready (rs:=[8]) (by kernel_rfl) (by simp) ?_
 refine AllReadyH.cons (o:=({dst:=some 181,op:=Op.call {callee:=Callee.value (Operand.func 11),args:=#[Operand.tmp 180],argTypes:=#[24]},type:=4,pos:= "outright.go:58",after:=#[{on:=7,ground:=Ground.data},{on:=6,ground:=Ground.chain},{on:=6,ground:=Ground.guard}],guard:=some (6,true)}:Oper)) rfl (fun K hK=>?_) AllReadyH.nil
 go_simp
 with_reducible refine(Z2.out _ hH5.2).mono ?_
 rintro r wc7 ⟨rfl,gg9⟩
 refine hK.out _ _ ⟨kp10 gg9 hH5.1,hH5.2.trans gg9⟩ (fun hH8=>?_)
 have hzwc7:=hH5.2.size
 clear hK K
 (try simp only[Act.put,List.setIfInBounds_toArray,List.set_cons_zero,List.set_cons_succ])
 refine wpAnyH_take (i:=9) (oi:=({dst:=some 182,op:=Op.move (Operand.tmp 181),type:=4,pos:= "outright.go:58",after:=#[{on:=8,ground:=Ground.data},{on:=8,ground:=Ground.chain},{on:=6,ground:=Ground.guard}],guard:=some (6,true)}:Oper)) (v:=?_) rfl (by kernel_rfl) (by kernel_rfl) (by kernel_rfl) (fun _ _ _ h=>h) (Or.inl ⟨by rfl,?_⟩) (by with_reducible assumption) ?_
 rotate_left
 ·intro w hSw
  (try dsimp only at hSw)
  first|(go_simp;done)|(go_simp;with_reducible rfl)
 (try simp only[Act.put,List.setIfInBounds_toArray,List.set_cons_zero,List.set_cons_succ])
 refine wpAnyH_take (i:=10) (oi:=({dst:=some 183,op:=Op.load 24 (Operand.tmp 8),type:=24,pos:= "outright.go:58",after:=#[{on:=9,ground:=Ground.guard}],guard:=some (9,true)}:Oper)) (v:=?_) rfl (by kernel_rfl) (by kernel_rfl) (by kernel_rfl) (fun _ _ _ h=>h) (Or.inl ⟨by rfl,?_⟩) (by with_reducible assumption) ?_
 rotate_left
 ·intro w hSw
  (try dsimp only at hSw)
  first|(go_simp;done)|(go_simp;with_reducible rfl)
 (try simp only[Act.put,List.setIfInBounds_toArray,List.set_cons_zero,List.set_cons_succ])
 refine wpAnyH_ready (rs:=[11]) (by kernel_rfl) (by simp) ?_
 refine AllReadyH.cons (o:=({dst:=some 184,op:=Op.call {callee:=Callee.value (Operand.func 11),args:=#[Operand.tmp 183],argTypes:=#[24]},type:=4,pos:= "outright.go:58",after:=#[{on:=10,ground:=Ground.data},{on:=9,ground:=Ground.chain},{on:=9,ground:=Ground.guard}],guard:=some (9,true)}:Oper)) rfl (fun K hK=>?_) AllReadyH.nil
 go_simp
 with_reducible refine(Z8.out _ hH8.2).mono ?_
 rintro r wc10 ⟨rfl,gg12⟩
 refine hK.out _ _ ⟨kp10 gg12 hH8.1,hH8.2.trans gg12⟩ (fun hH11=>?_)
 have hzwc10:=hH8.2.size
 clear hK K
 (try simp only[Act.put,List.setIfInBounds_toArray,List.set_cons_zero,List.set_cons_succ])
 refine wpAnyH_take (i:=12) (oi:=({dst:=some 185,op:=Op.pick (Operand.tmp 182) (Operand.tmp 184) (Operand.const (Value.bool false)),type:=4,pos:= "outright.go:58",after:=#[{on:=9,ground:=Ground.data},{on:=11,ground:=Ground.data},{on:=6,ground:=Ground.guard}],guard:=some (6,true)}:Oper)) (v:=?_) rfl (by kernel_rfl) (by kernel_rfl) (by kernel_rfl) (fun _ _ _ h=>h) (Or.inl ⟨by rfl,?_⟩) (by with_reducible assumption) ?_
 rotate_left
 ·intro w hSw
  (try dsimp only at hSw)
  first|(go_simp;done)|(go_simp;with_reducible rfl)
 (try simp only[Act.put,List.setIfInBounds_toArray,List.set_cons_zero,List.set_cons_succ])
 refine wpAnyH_take (i:=13) (oi:=({dst:=some 186,op:=Op.move (Operand.tmp 185),type:=4,pos:= "outright.go:58",after:=#[{on:=12,ground:=Ground.data},{on:=11,ground:=Ground.chain},{on:=6,ground:=Ground.guard}],guard:=some (6,true)}:Oper)) (v:=?_) rfl (by kernel_rfl) (by kernel_rfl) (by kernel_rfl) (fun _ _ _ h=>h) (Or.inl ⟨by rfl,?_⟩) (by with_reducible assumption) ?_
 rotate_left
 ·intro w hSw
  (try dsimp only at hSw)
  first|(go_simp;done)|(go_simp;with_reducible rfl)
 (try simp only[Act.put,List.setIfInBounds_toArray,List.set_cons_zero,List.set_cons_succ])
 refine wpAnyH_take (i:=14) (oi:=({dst:=some 187,op:=Op.load 24 (Operand.tmp 16),type:=24,pos:= "outright.go:58",after:=#[{on:=13,ground:=Ground.guard}],guard:=some (13,false)}:Oper)) (v:=undef) rfl (by kernel_rfl) (by kernel_rfl) (by kernel_rfl) (fun _ _ _ h=>h) (Or.inr ⟨by rfl,rfl⟩) (by with_reducible assumption) ?_
 (try simp only[Act.put,List.setIfInBounds_toArray,List.set_cons_zero,List.set_cons_succ])
 refine wpAnyH_take (i:=15) (oi:=({dst:=some 188,op:=Op.call {callee:=Callee.value (Operand.func 16),args:=#[Operand.const (Value.int IntKind.i64 1)],argTypes:=#[2]},type:=24,pos:= "outright.go:58",after:=#[{on:=13,ground:=Ground.chain},{on:=13,ground:=Ground.guard}],guard:=some (13,false)}:Oper)) (v:=undef) rfl (by kernel_rfl) (by kernel_rfl) (by kernel_rfl) (fun _ _ _ h=>h) (Or.inr ⟨by rfl,rfl⟩) (by with_reducible assumption) ?_
 (try simp only[Act.put,List.setIfInBounds_toArray,List.set_cons_zero,List.set_cons_succ])
 refine wpAnyH_take (i:=16) (oi:=({dst:=some 189,op:=Op.call {callee:=Callee.value (Operand.func 12),args:=#[Operand.tmp 187,Operand.tmp 188],argTypes:=#[24,24]},type:=4,pos:= "outright.go:58",after:=#[{on:=14,ground:=Ground.data},{on:=15,ground:=Ground.data},{on:=15,ground:=Ground.chain},{on:=13,ground:=Ground.guard}],guard:=some (13,false)}:Oper)) (v:=undef) rfl (by kernel_rfl) (by kernel_rfl) (by kernel_rfl) (fun _ _ _ h=>h) (Or.inr ⟨by rfl,rfl⟩) (by with_reducible assumption) ?_
 (try simp only[Act.put,List.setIfInBounds_toArray,List.set_cons_zero,List.set_cons_succ])
 refine wpAnyH_take (i:=17) (oi:=({dst:=some 190,op:=Op.pick (Operand.tmp 186) (Operand.const (Value.bool true)) (Operand.tmp 189),type:=4,pos:= "outright.go:58",after:=#[{on:=13,ground:=Ground.data},{on:=16,ground:=Ground.data},{on:=6,ground:=Ground.guard}],guard:=some (6,true)}:Oper)) (v:=?_) rfl (by kernel_rfl) (by kernel_rfl) (by kernel_rfl) (fun _ _ _ h=>h) (Or.inl ⟨by rfl,?_⟩) (by with_reducible assumption) ?_
 rotate_left
 ·intro w hSw
  (try dsimp only at hSw)
  first|(go_simp;done)|(go_simp;with_reducible rfl)
 (try simp only[Act.put,List.setIfInBounds_toArray,List.set_cons_zero,List.set_cons_succ])
 refine wpAnyH_take (i:=18) (oi:=({dst:=some 191,op:=Op.pick (Operand.tmp 179) (Operand.tmp 190) (Operand.const (Value.bool false)),type:=4,pos:= "outright.go:58",after:=#[{on:=6,ground:=Ground.data},{on:=17,ground:=Ground.data}],guard:=none}:Oper)) (v:=?_) rfl (by kernel_rfl) (by kernel_rfl) (by kernel_rfl) (fun _ _ _ h=>h) (Or.inl ⟨by rfl,?_⟩) (by with_reducible assumption) ?_
 rotate_left
 ·intro w hSw
  (try dsimp only at hSw)
  first|(go_simp;done)|(go_simp;with_reducible rfl)
 (try simp only[Act.put,List.setIfInBounds_toArray,List.set_cons_zero,List.set_cons_succ])
 refine wpAnyH_take (i:=19) (oi:=({dst:=some 4,op:=Op.assign (Operand.tmp 191),type:=4,pos:= "outright.go:58",after:=#[{on:=18,ground:=Ground.data},{on:=16,ground:=Ground.chain},{on:=0,ground:=Ground.phase},{on:=1,ground:=Ground.phase},{on:=2,ground:=Ground.phase},{on:=3,ground:=Ground.phase},{on:=4,ground:=Ground.phase},{on:=5,ground:=Ground.phase},{on:=6,ground:=Ground.phase},{on:=7,ground:=Ground.phase},{on:=8,ground:=Ground.phase},{on:=9,ground:=Ground.phase},{on:=10,ground:=Ground.phase},{on:=11,ground:=Ground.phase},{on:=12,ground:=Ground.phase},{on:=13,ground:=Ground.phase},{on:=14,ground:=Ground.phase},{on:=15,ground:=Ground.phase},{on:=16,ground:=Ground.phase},{on:=17,ground:=Ground.phase},{on:=18,ground:=Ground.phase}],guard:=none}:Oper)) (v:=?_) rfl (by kernel_rfl) (by kernel_rfl) (by kernel_rfl) (fun _ _ _ h=>h) (Or.inl ⟨by rfl,?_⟩) (by with_reducible assumption) ?_
 rotate_left
 ·intro w hSw
  (try dsimp only at hSw)
  first|(go_simp;done)|(go_simp;with_reducible rfl)
 (try simp only[Act.put,List.setIfInBounds_toArray,List.set_cons_zero,List.set_cons_succ])
 refine wpAnyH_done (by kernel_rfl) ?_ _
 exact⟨_,_,_,_,_,_,_,_,_,_,_,_,_,_,_,_,_,_,_,rfl,hH11.2⟩
def RGm20b (t0 t1 t3 t4 t5 t6 t7 t10 t12 t13 t14 t15 t17 t18 t19 t20 t21 t22 t23 t24 t25 t26 t27 t28 t29 t30 t31 t32 t33 t34 t35 t36 t37 t38 t39 t40 t41 t42 t43 t44 t45 t46 t47 t48 t49 t50 t51 t52 t53 t54 t55 t56 t57 t58 t59 t60 t61 t62 t63 t64 t65 t66 t67 t68 t69 t70 t71 t72 t73 t74 t75 t76 t77 t78 t79 t80 t81 t82 t83 t84 t85 t86 t87 t88 t89 t90 t91 t92 t93 t94 t95 t96 t97 t98 t99 t100 t101 t102 t103 t104 t105 t106 t107 t108 t109 t110 t111 t112 t113 t114 t115 t116 t117 t118 t119 t120 t121 t122 t123 t124 t125 t126 t127 t128 t129 t130 t131 t132 t133 t134 t135 t136 t137 t138 t139 t140 t141 t142 t143 t144 t145 t146 t147 t148 t149 t150 t151 t152 t153 t154 t155 t156 t157 t158 t159 t160 t161 t162 t163 t164 t165 t166 t167 t168 t169 t170 t171 t172 t173 t174 t175 t176 t177 t178 t179 t180 t181 t182 t183 t184 t185 t186 t187 t188 t189 t190 t191 t192 t193 t194 t195 t196 t197 t198 t199 t200 t201 t202 t203 t204 t205 t206 t207 t208 t209 t210 t211 t212 t213 t214 t215 t216 t217 t218 t219 t220 t221 t222 t223 t224 t225 t226 t227 t228 t229 t230 t231 t232 t233 t234 t235 t236 t237 t238 t239 t240 t241:Value) (p2 n2 c2 p8 n8 c8 p9 n9 c9 p11 n11 c11 p16 n16 c16:Nat) (s2 s8 s9 s11 s16:Bool) (a2 a8 a9 a11 a16:Option Addr) (wq:World):Exit->Act->World->Prop
 | .normal,a,w=>∃u173 u174 u175 u176 u177 u178 u179 u180 u181 u182 u183 u184 u185 u186 u187 u188 u189 u190 u191,a = {tmps:=#[t0,t1,.pointer (some ⟨p2,0,none⟩),t3,.bool true,t5,t6,t7,.pointer (some ⟨p8,0,none⟩),.pointer (some ⟨p9,0,none⟩),t10,.pointer (some ⟨p11,0,none⟩),t12,t13,t14,t15,.pointer (some ⟨p16,0,none⟩),t17,t18,t19,t20,t21,t22,t23,t24,t25,t26,t27,t28,t29,t30,t31,t32,t33,t34,t35,t36,t37,t38,t39,t40,t41,t42,t43,t44,t45,t46,t47,t48,t49,t50,t51,t52,t53,t54,t55,t56,t57,t58,t59,t60,t61,t62,t63,t64,t65,t66,t67,t68,t69,t70,t71,t72,t73,t74,t75,t76,t77,t78,t79,t80,t81,t82,t83,t84,t85,t86,t87,t88,t89,t90,t91,t92,t93,t94,t95,t96,t97,t98,t99,t100,t101,t102,t103,t104,t105,t106,t107,t108,t109,t110,t111,t112,t113,t114,t115,t116,t117,t118,t119,t120,t121,t122,t123,t124,t125,t126,t127,t128,t129,t130,t131,t132,t133,t134,t135,t136,t137,t138,t139,t140,t141,t142,t143,t144,t145,t146,t147,t148,t149,t150,t151,t152,t153,t154,t155,t156,t157,t158,t159,t160,t161,t162,t163,t164,t165,t166,t167,t168,t169,t170,t171,t172,u173,u174,u175,u176,u177,u178,u179,u180,u181,u182,u183,u184,u185,u186,u187,u188,u189,u190,u191,t192,t193,t194,t195,t196,t197,t198,t199,t200,t201,t202,t203,t204,t205,t206,t207,t208,t209,t210,t211,t212,t213,t214,t215,t216,t217,t218,t219,t220,t221,t222,t223,t224,t225,t226,t227,t228,t229,t230,t231,t232,t233,t234,t235,t236,t237,t238,t239,t240,t241],defers:=[]}/\Gr wq w
 | _,_,_=>False
set_option maxRecDepth 100000 in
set_option maxHeartbeats 20000000 in
theorem regGm20b (t0 t1 t3 t4 t5 t6 t7 t10 t12 t13 t14 t15 t17 t18 t19 t20 t21 t22 t23 t24 t25 t26 t27 t28 t29 t30 t31 t32 t33 t34 t35 t36 t37 t38 t39 t40 t41 t42 t43 t44 t45 t46 t47 t48 t49 t50 t51 t52 t53 t54 t55 t56 t57 t58 t59 t60 t61 t62 t63 t64 t65 t66 t67 t68 t69 t70 t71 t72 t73 t74 t75 t76 t77 t78 t79 t80 t81 t82 t83 t84 t85 t86 t87 t88 t89 t90 t91 t92 t93 t94 t95 t96 t97 t98 t99 t100 t101 t102 t103 t104 t105 t106 t107 t108 t109 t110 t111 t112 t113 t114 t115 t116 t117 t118 t119 t120 t121 t122 t123 t124 t125 t126 t127 t128 t129 t130 t131 t132 t133 t134 t135 t136 t137 t138 t139 t140 t141 t142 t143 t144 t145 t146 t147 t148 t149 t150 t151 t152 t153 t154 t155 t156 t157 t158 t159 t160 t161 t162 t163 t164 t165 t166 t167 t168 t169 t170 t171 t172 t173 t174 t175 t176 t177 t178 t179 t180 t181 t182 t183 t184 t185 t186 t187 t188 t189 t190 t191 t192 t193 t194 t195 t196 t197 t198 t199 t200 t201 t202 t203 t204 t205 t206 t207 t208 t209 t210 t211 t212 t213 t214 t215 t216 t217 t218 t219 t220 t221 t222 t223 t224 t225 t226 t227 t228 t229 t230 t231 t232 t233 t234 t235 t236 t237 t238 t239 t240 t241:Value) (p2 n2 c2 p8 n8 c8 p9 n9 c9 p11 n11 c11 p16 n16 c16:Nat) (s2 s8 s9 s11 s16:Bool) (a2 a8 a9 a11 a16:Option Addr) (wq:World)
  (Z9:Hid (∀w1,Gr wq w1->Calls Try.prog 11 #[.agg #[.bool s9,.slice a9 n9 c9]] w1 fun r w'=>r = .returned (.bool true)/\Gr w1 w'))
  (Z11:Hid (∀w1,Gr wq w1->Calls Try.prog 11 #[.agg #[.bool s11,.slice a11 n11 c11]] w1 fun r w'=>r = .returned (.bool true)/\Gr w1 w'))
  (Z2:Hid (∀w1,Gr wq w1->Calls Try.prog 11 #[.agg #[.bool s2,.slice a2 n2 c2]] w1 fun r w'=>r = .returned (.bool false)/\Gr w1 w'))
  (OF:Hid (∀w1,Calls Try.prog 16 #[.int .i64 1] w1 fun r w'=>∃a b c d,r = .returned (.agg #[.bool a,.slice b c d])/\Nw w' a b c d 1/\Gr w1 w'))
  (SI:Hid (∀w1 a b c d,Gr wq w1->Nw w1 a b c d 1->Calls Try.prog 12 #[.agg #[.bool s16,.slice a16 n16 c16],.agg #[.bool a,.slice b c d]] w1 fun r w'=>r = .returned (.bool true)/\Gr w1 w')) (G0:Gr wq wq) (hcs:(wq.cell? ⟨p2,0,none⟩=some (.bool s2)/\wq.cell? ⟨p2,1,none⟩=some (.slice a2 n2 c2)/\wq.cell? ⟨p8,0,none⟩=some (.bool s8)/\wq.cell? ⟨p8,1,none⟩=some (.slice a8 n8 c8)/\wq.cell? ⟨p9,0,none⟩=some (.bool s9)/\wq.cell? ⟨p9,1,none⟩=some (.slice a9 n9 c9)/\wq.cell? ⟨p11,0,none⟩=some (.bool s11)/\wq.cell? ⟨p11,1,none⟩=some (.slice a11 n11 c11)/\wq.cell? ⟨p16,0,none⟩=some (.bool s16)/\wq.cell? ⟨p16,1,none⟩=some (.slice a16 n16 c16))) :
  Code.wp Try.prog (Code.region 20 #[{dst:=some 173,op:=Op.load 24 (Operand.tmp 9),type:=24,pos:= "outright.go:58",after:=#[],guard:=none},{dst:=some 174,op:=Op.call {callee:=Callee.value (Operand.func 11),args:=#[Operand.tmp 173],argTypes:=#[24]},type:=4,pos:= "outright.go:58",after:=#[{on:=0,ground:=Ground.data}],guard:=none},{dst:=some 175,op:=Op.move (Operand.tmp 174),type:=4,pos:= "outright.go:58",after:=#[{on:=1,ground:=Ground.data},{on:=1,ground:=Ground.chain}],guard:=none},{dst:=some 176,op:=Op.load 24 (Operand.tmp 11),type:=24,pos:= "outright.go:58",after:=#[{on:=2,ground:=Ground.guard}],guard:=some (2,true)},{dst:=some 177,op:=Op.call {callee:=Callee.value (Operand.func 11),args:=#[Operand.tmp 176],argTypes:=#[24]},type:=4,pos:= "outright.go:58",after:=#[{on:=3,ground:=Ground.data},{on:=2,ground:=Ground.chain},{on:=2,ground:=Ground.guard}],guard:=some (2,true)},{dst:=some 178,op:=Op.pick (Operand.tmp 175) (Operand.tmp 177) (Operand.const (Value.bool false)),type:=4,pos:= "outright.go:58",after:=#[{on:=2,ground:=Ground.data},{on:=4,ground:=Ground.data}],guard:=none},{dst:=some 179,op:=Op.move (Operand.tmp 178),type:=4,pos:= "outright.go:58",after:=#[{on:=5,ground:=Ground.data},{on:=4,ground:=Ground.chain}],guard:=none},{dst:=some 180,op:=Op.load 24 (Operand.tmp 2),type:=24,pos:= "outright.go:58",after:=#[{on:=6,ground:=Ground.guard}],guard:=some (6,true)},{dst:=some 181,op:=Op.call {callee:=Callee.value (Operand.func 11),args:=#[Operand.tmp 180],argTypes:=#[24]},type:=4,pos:= "outright.go:58",after:=#[{on:=7,ground:=Ground.data},{on:=6,ground:=Ground.chain},{on:=6,ground:=Ground.guard}],guard:=some (6,true)},{dst:=some 182,op:=Op.move (Operand.tmp 181),type:=4,pos:= "outright.go:58",after:=#[{on:=8,ground:=Ground.data},{on:=8,ground:=Ground.chain},{on:=6,ground:=Ground.guard}],guard:=some (6,true)},{dst:=some 183,op:=Op.load 24 (Operand.tmp 8),type:=24,pos:= "outright.go:58",after:=#[{on:=9,ground:=Ground.guard}],guard:=some (9,true)},{dst:=some 184,op:=Op.call {callee:=Callee.value (Operand.func 11),args:=#[Operand.tmp 183],argTypes:=#[24]},type:=4,pos:= "outright.go:58",after:=#[{on:=10,ground:=Ground.data},{on:=9,ground:=Ground.chain},{on:=9,ground:=Ground.guard}],guard:=some (9,true)},{dst:=some 185,op:=Op.pick (Operand.tmp 182) (Operand.tmp 184) (Operand.const (Value.bool false)),type:=4,pos:= "outright.go:58",after:=#[{on:=9,ground:=Ground.data},{on:=11,ground:=Ground.data},{on:=6,ground:=Ground.guard}],guard:=some (6,true)},{dst:=some 186,op:=Op.move (Operand.tmp 185),type:=4,pos:= "outright.go:58",after:=#[{on:=12,ground:=Ground.data},{on:=11,ground:=Ground.chain},{on:=6,ground:=Ground.guard}],guard:=some (6,true)},{dst:=some 187,op:=Op.load 24 (Operand.tmp 16),type:=24,pos:= "outright.go:58",after:=#[{on:=13,ground:=Ground.guard}],guard:=some (13,false)},{dst:=some 188,op:=Op.call {callee:=Callee.value (Operand.func 16),args:=#[Operand.const (Value.int IntKind.i64 1)],argTypes:=#[2]},type:=24,pos:= "outright.go:58",after:=#[{on:=13,ground:=Ground.chain},{on:=13,ground:=Ground.guard}],guard:=some (13,false)},{dst:=some 189,op:=Op.call {callee:=Callee.value (Operand.func 12),args:=#[Operand.tmp 187,Operand.tmp 188],argTypes:=#[24,24]},type:=4,pos:= "outright.go:58",after:=#[{on:=14,ground:=Ground.data},{on:=15,ground:=Ground.data},{on:=15,ground:=Ground.chain},{on:=13,ground:=Ground.guard}],guard:=some (13,false)},{dst:=some 190,op:=Op.pick (Operand.tmp 186) (Operand.const (Value.bool true)) (Operand.tmp 189),type:=4,pos:= "outright.go:58",after:=#[{on:=13,ground:=Ground.data},{on:=16,ground:=Ground.data},{on:=6,ground:=Ground.guard}],guard:=some (6,true)},{dst:=some 191,op:=Op.pick (Operand.tmp 179) (Operand.tmp 190) (Operand.const (Value.bool false)),type:=4,pos:= "outright.go:58",after:=#[{on:=6,ground:=Ground.data},{on:=17,ground:=Ground.data}],guard:=none},{dst:=some 4,op:=Op.assign (Operand.tmp 191),type:=4,pos:= "outright.go:58",after:=#[{on:=18,ground:=Ground.data},{on:=16,ground:=Ground.chain},{on:=0,ground:=Ground.phase},{on:=1,ground:=Ground.phase},{on:=2,ground:=Ground.phase},{on:=3,ground:=Ground.phase},{on:=4,ground:=Ground.phase},{on:=5,ground:=Ground.phase},{on:=6,ground:=Ground.phase},{on:=7,ground:=Ground.phase},{on:=8,ground:=Ground.phase},{on:=9,ground:=Ground.phase},{on:=10,ground:=Ground.phase},{on:=11,ground:=Ground.phase},{on:=12,ground:=Ground.phase},{on:=13,ground:=Ground.phase},{on:=14,ground:=Ground.phase},{on:=15,ground:=Ground.phase},{on:=16,ground:=Ground.phase},{on:=17,ground:=Ground.phase},{on:=18,ground:=Ground.phase}],guard:=none}] true) (RGm20b t0 t1 t3 t4 t5 t6 t7 t10 t12 t13 t14 t15 t17 t18 t19 t20 t21 t22 t23 t24 t25 t26 t27 t28 t29 t30 t31 t32 t33 t34 t35 t36 t37 t38 t39 t40 t41 t42 t43 t44 t45 t46 t47 t48 t49 t50 t51 t52 t53 t54 t55 t56 t57 t58 t59 t60 t61 t62 t63 t64 t65 t66 t67 t68 t69 t70 t71 t72 t73 t74 t75 t76 t77 t78 t79 t80 t81 t82 t83 t84 t85 t86 t87 t88 t89 t90 t91 t92 t93 t94 t95 t96 t97 t98 t99 t100 t101 t102 t103 t104 t105 t106 t107 t108 t109 t110 t111 t112 t113 t114 t115 t116 t117 t118 t119 t120 t121 t122 t123 t124 t125 t126 t127 t128 t129 t130 t131 t132 t133 t134 t135 t136 t137 t138 t139 t140 t141 t142 t143 t144 t145 t146 t147 t148 t149 t150 t151 t152 t153 t154 t155 t156 t157 t158 t159 t160 t161 t162 t163 t164 t165 t166 t167 t168 t169 t170 t171 t172 t173 t174 t175 t176 t177 t178 t179 t180 t181 t182 t183 t184 t185 t186 t187 t188 t189 t190 t191 t192 t193 t194 t195 t196 t197 t198 t199 t200 t201 t202 t203 t204 t205 t206 t207 t208 t209 t210 t211 t212 t213 t214 t215 t216 t217 t218 t219 t220 t221 t222 t223 t224 t225 t226 t227 t228 t229 t230 t231 t232 t233 t234 t235 t236 t237 t238 t239 t240 t241 p2 n2 c2 p8 n8 c8 p9 n9 c9 p11 n11 c11 p16 n16 c16 s2 s8 s9 s11 s16 a2 a8 a9 a11 a16 wq) {tmps:=#[t0,t1,.pointer (some ⟨p2,0,none⟩),t3,t4,t5,t6,t7,.pointer (some ⟨p8,0,none⟩),.pointer (some ⟨p9,0,none⟩),t10,.pointer (some ⟨p11,0,none⟩),t12,t13,t14,t15,.pointer (some ⟨p16,0,none⟩),t17,t18,t19,t20,t21,t22,t23,t24,t25,t26,t27,t28,t29,t30,t31,t32,t33,t34,t35,t36,t37,t38,t39,t40,t41,t42,t43,t44,t45,t46,t47,t48,t49,t50,t51,t52,t53,t54,t55,t56,t57,t58,t59,t60,t61,t62,t63,t64,t65,t66,t67,t68,t69,t70,t71,t72,t73,t74,t75,t76,t77,t78,t79,t80,t81,t82,t83,t84,t85,t86,t87,t88,t89,t90,t91,t92,t93,t94,t95,t96,t97,t98,t99,t100,t101,t102,t103,t104,t105,t106,t107,t108,t109,t110,t111,t112,t113,t114,t115,t116,t117,t118,t119,t120,t121,t122,t123,t124,t125,t126,t127,t128,t129,t130,t131,t132,t133,t134,t135,t136,t137,t138,t139,t140,t141,t142,t143,t144,t145,t146,t147,t148,t149,t150,t151,t152,t153,t154,t155,t156,t157,t158,t159,t160,t161,t162,t163,t164,t165,t166,t167,t168,t169,t170,t171,t172,t173,t174,t175,t176,t177,t178,t179,t180,t181,t182,t183,t184,t185,t186,t187,t188,t189,t190,t191,t192,t193,t194,t195,t196,t197,t198,t199,t200,t201,t202,t203,t204,t205,t206,t207,t208,t209,t210,t211,t212,t213,t214,t215,t216,t217,t218,t219,t220,t221,t222,t223,t224,t225,t226,t227,t228,t229,t230,t231,t232,t233,t234,t235,t236,t237,t238,t239,t240,t241],defers:=[]} wq:=by
 have hS0:(wq.drew.cell? ⟨p2,0,none⟩=some (.bool s2)/\wq.drew.cell? ⟨p2,1,none⟩=some (.slice a2 n2 c2)/\wq.drew.cell? ⟨p8,0,none⟩=some (.bool s8)/\wq.drew.cell? ⟨p8,1,none⟩=some (.slice a8 n8 c8)/\wq.drew.cell? ⟨p9,0,none⟩=some (.bool s9)/\wq.drew.cell? ⟨p9,1,none⟩=some (.slice a9 n9 c9)/\wq.drew.cell? ⟨p11,0,none⟩=some (.bool s11)/\wq.drew.cell? ⟨p11,1,none⟩=some (.slice a11 n11 c11)/\wq.drew.cell? ⟨p16,0,none⟩=some (.bool s16)/\wq.drew.cell? ⟨p16,1,none⟩=some (.slice a16 n16 c16))/\Gr wq wq.drew:=⟨hcs,G0.drew⟩
 clear hcs G0
 refine wp_region_held_drew (S:=fun w'=>(w'.cell? ⟨p2,0,none⟩=some (.bool s2)/\w'.cell? ⟨p2,1,none⟩=some (.slice a2 n2 c2)/\w'.cell? ⟨p8,0,none⟩=some (.bool s8)/\w'.cell? ⟨p8,1,none⟩=some (.slice a8 n8 c8)/\w'.cell? ⟨p9,0,none⟩=some (.bool s9)/\w'.cell? ⟨p9,1,none⟩=some (.slice a9 n9 c9)/\w'.cell? ⟨p11,0,none⟩=some (.bool s11)/\w'.cell? ⟨p11,1,none⟩=some (.slice a11 n11 c11)/\w'.cell? ⟨p16,0,none⟩=some (.bool s16)/\w'.cell? ⟨p16,1,none⟩=some (.slice a16 n16 c16))/\Gr wq w') (by kernel_rfl) hS0 (fun hHeld=>?_)
 clear hS0
 generalize wq.drew=wd at *
 refine wpAnyH_take (i:=0) (oi:=({dst:=some 173,op:=Op.load 24 (Operand.tmp 9),type:=24,pos:= "outright.go:58",after:=#[],guard:=none}:Oper)) (v:=?_) rfl (by kernel_rfl) (by kernel_rfl) (by kernel_rfl) (fun _ _ _ h=>h) (Or.inl ⟨by rfl,?_⟩) (by with_reducible assumption) ?_
 rotate_left
 ·intro w hSw
  (try dsimp only at hSw)
  first|(go_simp;done)|(go_simp;with_reducible rfl)
 (try simp only[Act.put,List.setIfInBounds_toArray,List.set_cons_zero,List.set_cons_succ])
 refine wpAnyH_ready (rs:=[1]) (by kernel_rfl) (by simp) ?_
 refine AllReadyH.cons (o:=({dst:=some 174,op:=Op.call {callee:=Callee.value (Operand.func 11),args:=#[Operand.tmp 173],argTypes:=#[24]},type:=4,pos:= "outright.go:58",after:=#[{on:=0,ground:=Ground.data}],guard:=none}:Oper)) rfl (fun K hK=>?_) AllReadyH.nil
 go_simp
 with_reducible refine(Z9.out _ hHeld.2).mono ?_
 rintro r wc1 ⟨rfl,gg3⟩
 refine hK.out _ _ ⟨kp10 gg3 hHeld.1,hHeld.2.trans gg3⟩ (fun hH2=>?_)
 have hzwc1:=hHeld.2.size
 clear hK K
 (try simp only[Act.put,List.setIfInBounds_toArray,List.set_cons_zero,List.set_cons_succ])
 refine wpAnyH_take (i:=2) (oi:=({dst:=some 175,op:=Op.move (Operand.tmp 174),type:=4,pos:= "outright.go:58",after:=#[{on:=1,ground:=Ground.data},{on:=1,ground:=Ground.chain}],guard:=none}:Oper)) (v:=?_) rfl (by kernel_rfl) (by kernel_rfl) (by kernel_rfl) (fun _ _ _ h=>h) (Or.inl ⟨by rfl,?_⟩) (by with_reducible assumption) ?_
 rotate_left
 ·intro w hSw
  (try dsimp only at hSw)
  first|(go_simp;done)|(go_simp;with_reducible rfl)
 (try simp only[Act.put,List.setIfInBounds_toArray,List.set_cons_zero,List.set_cons_succ])
 refine wpAnyH_take (i:=3) (oi:=({dst:=some 176,op:=Op.load 24 (Operand.tmp 11),type:=24,pos:= "outright.go:58",after:=#[{on:=2,ground:=Ground.guard}],guard:=some (2,true)}:Oper)) (v:=?_) rfl (by kernel_rfl) (by kernel_rfl) (by kernel_rfl) (fun _ _ _ h=>h) (Or.inl ⟨by rfl,?_⟩) (by with_reducible assumption) ?_
 rotate_left
 ·intro w hSw
  (try dsimp only at hSw)
  first|(go_simp;done)|(go_simp;with_reducible rfl)
 (try simp only[Act.put,List.setIfInBounds_toArray,List.set_cons_zero,List.set_cons_succ])
 refine wpAnyH_ready (rs:=[4]) (by kernel_rfl) (by simp) ?_
 refine AllReadyH.cons (o:=({dst:=some 177,op:=Op.call {callee:=Callee.value (Operand.func 11),args:=#[Operand.tmp 176],argTypes:=#[24]},type:=4,pos:= "outright.go:58",after:=#[{on:=3,ground:=Ground.data},{on:=2,ground:=Ground.chain},{on:=2,ground:=Ground.guard}],guard:=some (2,true)}:Oper)) rfl (fun K hK=>?_) AllReadyH.nil
 go_simp
 with_reducible refine(Z11.out _ hH2.2).mono ?_
 rintro r wc4 ⟨rfl,gg6⟩
 refine hK.out _ _ ⟨kp10 gg6 hH2.1,hH2.2.trans gg6⟩ (fun hH5=>?_)
 have hzwc4:=hH2.2.size
 clear hK K
 (try simp only[Act.put,List.setIfInBounds_toArray,List.set_cons_zero,List.set_cons_succ])
 refine wpAnyH_take (i:=5) (oi:=({dst:=some 178,op:=Op.pick (Operand.tmp 175) (Operand.tmp 177) (Operand.const (Value.bool false)),type:=4,pos:= "outright.go:58",after:=#[{on:=2,ground:=Ground.data},{on:=4,ground:=Ground.data}],guard:=none}:Oper)) (v:=?_) rfl (by kernel_rfl) (by kernel_rfl) (by kernel_rfl) (fun _ _ _ h=>h) (Or.inl ⟨by rfl,?_⟩) (by with_reducible assumption) ?_
 rotate_left
 ·intro w hSw
  (try dsimp only at hSw)
  first|(go_simp;done)|(go_simp;with_reducible rfl)
 (try simp only[Act.put,List.setIfInBounds_toArray,List.set_cons_zero,List.set_cons_succ])
 refine wpAnyH_take (i:=6) (oi:=({dst:=some 179,op:=Op.move (Operand.tmp 178),type:=4,pos:= "outright.go:58",after:=#[{on:=5,ground:=Ground.data},{on:=4,ground:=Ground.chain}],guard:=none}:Oper)) (v:=?_) rfl (by kernel_rfl) (by kernel_rfl) (by kernel_rfl) (fun _ _ _ h=>h) (Or.inl ⟨by rfl,?_⟩) (by with_reducible assumption) ?_
 rotate_left
 ·intro w hSw
  (try dsimp only at hSw)
  first|(go_simp;done)|(go_simp;with_reducible rfl)
 (try simp only[Act.put,List.setIfInBounds_toArray,List.set_cons_zero,List.set_cons_succ])
 refine wpAnyH_take (i:=7) (oi:=({dst:=some 180,op:=Op.load 24 (Operand.tmp 2),type:=24,pos:= "outright.go:58",after:=#[{on:=6,ground:=Ground.guard}],guard:=some (6,true)}:Oper)) (v:=?_) rfl (by kernel_rfl) (by kernel_rfl) (by kernel_rfl) (fun _ _ _ h=>h) (Or.inl ⟨by rfl,?_⟩) (by with_reducible assumption) ?_
 rotate_left
 ·intro w hSw
  (try dsimp only at hSw)
  first|(go_simp;done)|(go_simp;with_reducible rfl)
 (try simp only[Act.put,List.setIfInBounds_toArray,List.set_cons_zero,List.set_cons_succ])
 refine wpAnyH_ready (rs:=[8]) (by kernel_rfl) (by simp) ?_
 refine AllReadyH.cons (o:=({dst:=some 181,op:=Op.call {callee:=Callee.value (Operand.func 11),args:=#[Operand.tmp 180],argTypes:=#[24]},type:=4,pos:= "outright.go:58",after:=#[{on:=7,ground:=Ground.data},{on:=6,ground:=Ground.chain},{on:=6,ground:=Ground.guard}],guard:=some (6,true)}:Oper)) rfl (fun K hK=>?_) AllReadyH.nil
 go_simp
 with_reducible refine(Z2.out _ hH5.2).mono ?_
 rintro r wc7 ⟨rfl,gg9⟩
 refine hK.out _ _ ⟨kp10 gg9 hH5.1,hH5.2.trans gg9⟩ (fun hH8=>?_)
 have hzwc7:=hH5.2.size
 clear hK K
 (try simp only[Act.put,List.setIfInBounds_toArray,List.set_cons_zero,List.set_cons_succ])
 refine wpAnyH_take (i:=9) (oi:=({dst:=some 182,op:=Op.move (Operand.tmp 181),type:=4,pos:= "outright.go:58",after:=#[{on:=8,ground:=Ground.data},{on:=8,ground:=Ground.chain},{on:=6,ground:=Ground.guard}],guard:=some (6,true)}:Oper)) (v:=?_) rfl (by kernel_rfl) (by kernel_rfl) (by kernel_rfl) (fun _ _ _ h=>h) (Or.inl ⟨by rfl,?_⟩) (by with_reducible assumption) ?_
 rotate_left
 ·intro w hSw
  (try dsimp only at hSw)
  first|(go_simp;done)|(go_simp;with_reducible rfl)
 (try simp only[Act.put,List.setIfInBounds_toArray,List.set_cons_zero,List.set_cons_succ])
 refine wpAnyH_take (i:=10) (oi:=({dst:=some 183,op:=Op.load 24 (Operand.tmp 8),type:=24,pos:= "outright.go:58",after:=#[{on:=9,ground:=Ground.guard}],guard:=some (9,true)}:Oper)) (v:=undef) rfl (by kernel_rfl) (by kernel_rfl) (by kernel_rfl) (fun _ _ _ h=>h) (Or.inr ⟨by rfl,rfl⟩) (by with_reducible assumption) ?_
 (try simp only[Act.put,List.setIfInBounds_toArray,List.set_cons_zero,List.set_cons_succ])
 refine wpAnyH_take (i:=11) (oi:=({dst:=some 184,op:=Op.call {callee:=Callee.value (Operand.func 11),args:=#[Operand.tmp 183],argTypes:=#[24]},type:=4,pos:= "outright.go:58",after:=#[{on:=10,ground:=Ground.data},{on:=9,ground:=Ground.chain},{on:=9,ground:=Ground.guard}],guard:=some (9,true)}:Oper)) (v:=undef) rfl (by kernel_rfl) (by kernel_rfl) (by kernel_rfl) (fun _ _ _ h=>h) (Or.inr ⟨by rfl,rfl⟩) (by with_reducible assumption) ?_
 (try simp only[Act.put,List.setIfInBounds_toArray,List.set_cons_zero,List.set_cons_succ])
 refine wpAnyH_take (i:=12) (oi:=({dst:=some 185,op:=Op.pick (Operand.tmp 182) (Operand.tmp 184) (Operand.const (Value.bool false)),type:=4,pos:= "outright.go:58",after:=#[{on:=9,ground:=Ground.data},{on:=11,ground:=Ground.data},{on:=6,ground:=Ground.guard}],guard:=some (6,true)}:Oper)) (v:=?_) rfl (by kernel_rfl) (by kernel_rfl) (by kernel_rfl) (fun _ _ _ h=>h) (Or.inl ⟨by rfl,?_⟩) (by with_reducible assumption) ?_
 rotate_left
 ·intro w hSw
  (try dsimp only at hSw)
  first|(go_simp;done)|(go_simp;with_reducible rfl)
 (try simp only[Act.put,List.setIfInBounds_toArray,List.set_cons_zero,List.set_cons_succ])
 refine wpAnyH_take (i:=13) (oi:=({dst:=some 186,op:=Op.move (Operand.tmp 185),type:=4,pos:= "outright.go:58",after:=#[{on:=12,ground:=Ground.data},{on:=11,ground:=Ground.chain},{on:=6,ground:=Ground.guard}],guard:=some (6,true)}:Oper)) (v:=?_) rfl (by kernel_rfl) (by kernel_rfl) (by kernel_rfl) (fun _ _ _ h=>h) (Or.inl ⟨by rfl,?_⟩) (by with_reducible assumption) ?_
 rotate_left
 ·intro w hSw
  (try dsimp only at hSw)
  first|(go_simp;done)|(go_simp;with_reducible rfl)
 (try simp only[Act.put,List.setIfInBounds_toArray,List.set_cons_zero,List.set_cons_succ])
 refine wpAnyH_take (i:=14) (oi:=({dst:=some 187,op:=Op.load 24 (Operand.tmp 16),type:=24,pos:= "outright.go:58",after:=#[{on:=13,ground:=Ground.guard}],guard:=some (13,false)}:Oper)) (v:=?_) rfl (by kernel_rfl) (by kernel_rfl) (by kernel_rfl) (fun _ _ _ h=>h) (Or.inl ⟨by rfl,?_⟩) (by with_reducible assumption) ?_
 rotate_left
 ·intro w hSw
  (try dsimp only at hSw)
  first|(go_simp;done)|(go_simp;with_reducible rfl)
 (try simp only[Act.put,List.setIfInBounds_toArray,List.set_cons_zero,List.set_cons_succ])
 refine wpAnyH_ready (rs:=[15]) (by kernel_rfl) (by simp) ?_
 refine AllReadyH.cons (o:=({dst:=some 188,op:=Op.call {callee:=Callee.value (Operand.func 16),args:=#[Operand.const (Value.int IntKind.i64 1)],argTypes:=#[2]},type:=24,pos:= "outright.go:58",after:=#[{on:=13,ground:=Ground.chain},{on:=13,ground:=Ground.guard}],guard:=some (13,false)}:Oper)) rfl (fun K hK=>?_) AllReadyH.nil
 go_simp
 with_reducible refine(OF.out _).mono ?_
 rintro r wc10 ⟨s',b',n',c',rfl,N1_13,gg12⟩
 refine hK.out _ _ ⟨kp10 gg12 hH8.1,hH8.2.trans gg12⟩ (fun hH11=>?_)
 have hzwc10:=hH8.2.size
 clear hK K
 (try simp only[Act.put,List.setIfInBounds_toArray,List.set_cons_zero,List.set_cons_succ])
 refine wpAnyH_ready (rs:=[16]) (by kernel_rfl) (by simp) ?_
 refine AllReadyH.cons (o:=({dst:=some 189,op:=Op.call {callee:=Callee.value (Operand.func 12),args:=#[Operand.tmp 187,Operand.tmp 188],argTypes:=#[24,24]},type:=4,pos:= "outright.go:58",after:=#[{on:=14,ground:=Ground.data},{on:=15,ground:=Ground.data},{on:=15,ground:=Ground.chain},{on:=13,ground:=Ground.guard}],guard:=some (13,false)}:Oper)) rfl (fun K hK=>?_) AllReadyH.nil
 go_simp
 with_reducible refine(SI.out _ _ _ _ _ hH11.2 N1_13).mono ?_
 rintro r wc14 ⟨rfl,gg16⟩
 refine hK.out _ _ ⟨kp10 gg16 hH11.1,hH11.2.trans gg16⟩ (fun hH15=>?_)
 have hzwc14:=hH11.2.size
 clear hK K
 (try simp only[Act.put,List.setIfInBounds_toArray,List.set_cons_zero,List.set_cons_succ])
 have N1_17:=N1_13.gr gg16
 clear N1_13
 refine wpAnyH_take (i:=17) (oi:=({dst:=some 190,op:=Op.pick (Operand.tmp 186) (Operand.const (Value.bool true)) (Operand.tmp 189),type:=4,pos:= "outright.go:58",after:=#[{on:=13,ground:=Ground.data},{on:=16,ground:=Ground.data},{on:=6,ground:=Ground.guard}],guard:=some (6,true)}:Oper)) (v:=?_) rfl (by kernel_rfl) (by kernel_rfl) (by kernel_rfl) (fun _ _ _ h=>h) (Or.inl ⟨by rfl,?_⟩) (by with_reducible assumption) ?_
 rotate_left
 ·intro w hSw
  (try dsimp only at hSw)
  first|(go_simp;done)|(go_simp;with_reducible rfl)
 (try simp only[Act.put,List.setIfInBounds_toArray,List.set_cons_zero,List.set_cons_succ])
 refine wpAnyH_take (i:=18) (oi:=({dst:=some 191,op:=Op.pick (Operand.tmp 179) (Operand.tmp 190) (Operand.const (Value.bool false)),type:=4,pos:= "outright.go:58",after:=#[{on:=6,ground:=Ground.data},{on:=17,ground:=Ground.data}],guard:=none}:Oper)) (v:=?_) rfl (by kernel_rfl) (by kernel_rfl) (by kernel_rfl) (fun _ _ _ h=>h) (Or.inl ⟨by rfl,?_⟩) (by with_reducible assumption) ?_
 rotate_left
 ·intro w hSw
  (try dsimp only at hSw)
  first|(go_simp;done)|(go_simp;with_reducible rfl)
 (try simp only[Act.put,List.setIfInBounds_toArray,List.set_cons_zero,List.set_cons_succ])
 refine wpAnyH_take (i:=19) (oi:=({dst:=some 4,op:=Op.assign (Operand.tmp 191),type:=4,pos:= "outright.go:58",after:=#[{on:=18,ground:=Ground.data},{on:=16,ground:=Ground.chain},{on:=0,ground:=Ground.phase},{on:=1,ground:=Ground.phase},{on:=2,ground:=Ground.phase},{on:=3,ground:=Ground.phase},{on:=4,ground:=Ground.phase},{on:=5,ground:=Ground.phase},{on:=6,ground:=Ground.phase},{on:=7,ground:=Ground.phase},{on:=8,ground:=Ground.phase},{on:=9,ground:=Ground.phase},{on:=10,ground:=Ground.phase},{on:=11,ground:=Ground.phase},{on:=12,ground:=Ground.phase},{on:=13,ground:=Ground.phase},{on:=14,ground:=Ground.phase},{on:=15,ground:=Ground.phase},{on:=16,ground:=Ground.phase},{on:=17,ground:=Ground.phase},{on:=18,ground:=Ground.phase}],guard:=none}:Oper)) (v:=?_) rfl (by kernel_rfl) (by kernel_rfl) (by kernel_rfl) (fun _ _ _ h=>h) (Or.inl ⟨by rfl,?_⟩) (by with_reducible assumption) ?_
 rotate_left
 ·intro w hSw
  (try dsimp only at hSw)
  first|(go_simp;done)|(go_simp;with_reducible rfl)
 (try simp only[Act.put,List.setIfInBounds_toArray,List.set_cons_zero,List.set_cons_succ])
 refine wpAnyH_done (by kernel_rfl) ?_ _
 exact⟨_,_,_,_,_,_,_,_,_,_,_,_,_,_,_,_,_,_,_,rfl,hH15.2⟩
end Go.Proofs.Ytmdakhpdofepeaa
