import Derived.Test.YtnmdnhmfmahjaaaGreatDoorM41
import Derived.Deep.RegionHeld3
namespace Go.Proofs.YtnmdnhmfmahjaaaGreatDoor
open Go.RowKit
set_option linter.unusedVariables false
set_option linter.unusedSimpArgs false
theorem keepB {W wo wn : World} {p : Nat} {a0 a1 a2 : Value} (g : Gr wo wn) (h : (wo.cell? ⟨p, 0, none⟩ = some a0 ∧ wo.cell? ⟨p, 1, none⟩ = some a1 ∧ wo.cell? ⟨p, 2, none⟩ = some a2) ∧ Gr W wo) : (wn.cell? ⟨p, 0, none⟩ = some a0 ∧ wn.cell? ⟨p, 1, none⟩ = some a1 ∧ wn.cell? ⟨p, 2, none⟩ = some a2) ∧ Gr W wn := ⟨⟨g.keep h.1.1, g.keep h.1.2.1, g.keep h.1.2.2⟩, h.2.trans g⟩
theorem keepBA {W wo : World} {o : Obj} {p : Nat} {a0 a1 a2 : Value} (h : (wo.cell? ⟨p, 0, none⟩ = some a0 ∧ wo.cell? ⟨p, 1, none⟩ = some a1 ∧ wo.cell? ⟨p, 2, none⟩ = some a2) ∧ Gr W wo) : ((wo.alloc o).cell? ⟨p, 0, none⟩ = some a0 ∧ (wo.alloc o).cell? ⟨p, 1, none⟩ = some a1 ∧ (wo.alloc o).cell? ⟨p, 2, none⟩ = some a2) ∧ Gr W (wo.alloc o) :=
  have g : Gr wo (wo.alloc o) := (Gr.refl wo).alloc o
  ⟨⟨g.keep h.1.1, g.keep h.1.2.1, g.keep h.1.2.2⟩, h.2.trans g⟩
theorem keepBS {W wo : World} {B2 p : Nat} {a0 a1 a2 v0 v1 v2 : Value} (hb : p ≠ B2) (hle : W.heap.size ≤ B2) (h : (wo.cell? ⟨p, 0, none⟩ = some a0 ∧ wo.cell? ⟨p, 1, none⟩ = some a1 ∧ wo.cell? ⟨p, 2, none⟩ = some a2) ∧ Gr W wo) :
    ((((wo.setCell ⟨B2, 0, none⟩ v0).setCell ⟨B2, 1, none⟩ v1).setCell ⟨B2, 2, none⟩ v2).cell? ⟨p, 0, none⟩ = some a0 ∧ (((wo.setCell ⟨B2, 0, none⟩ v0).setCell ⟨B2, 1, none⟩ v1).setCell ⟨B2, 2, none⟩ v2).cell? ⟨p, 1, none⟩ = some a1 ∧ (((wo.setCell ⟨B2, 0, none⟩ v0).setCell ⟨B2, 1, none⟩ v1).setCell ⟨B2, 2, none⟩ v2).cell? ⟨p, 2, none⟩ = some a2) ∧ Gr W (((wo.setCell ⟨B2, 0, none⟩ v0).setCell ⟨B2, 1, none⟩ v1).setCell ⟨B2, 2, none⟩ v2) :=
  ⟨⟨set3_far (Ne.symm hb) h.1.1, set3_far (Ne.symm hb) h.1.2.1, set3_far (Ne.symm hb) h.1.2.2⟩, ((h.2.setCell (p := ⟨B2, 0, none⟩) hle _).setCell (p := ⟨B2, 1, none⟩) hle _).setCell (p := ⟨B2, 2, none⟩) hle _⟩
def R19 (t0 t1 t2 t3 t4 t5 t6 t7 t8 t9 t10 t11 t12 t13 t14 t15 t16 t17 t18 t19 t20 t21 t22 t24 t25 t26 t27 t28 t29 t30 t31 t32 t33 t34 t35 t36 t37 t38 t39 t40 t41 t42 t43 t44 t45 t46 t47 t48 t49 t50 t51 t52 t53 t54 t55 t56 t57 t58 t59 t60 t61 t62 t63 t64 t65 t66 t67 t68 t69 t70 t71 t72 t73 t74 t75 t76 t77 t78 t79 t80 t81 t82 t83 t84 t85 t86 t87 t88 t89 t90 t91 t92 t93 t94 t95 t96 t97 t98 t99 t100 t101 t102 t103 t104 t105 t106 t107 t108 t109 t110 t111 t112 t113 t114 t115 t116 t117 t118 t119 t120 t121 t122 t123 t124 t125 t126 t127 t128 t129 t130 t131 t132 t133 t134 t135 t136 t137 t138 t139 t140 t141 t142 t143 t144 t145 t146 t147 t148 t149 t150 t151 t152 t153 t154 t155 t156 t157 t158 t159 t160 t161 t162 t163 t164 t165 t166 t167 t168 t169 t170 t171 t172 t173 t174 t175 t176 t177 t178 t179 t180 t181 t182 t183 t184 t185 t186 t187 t188 t189 t190 t191 t192 t193 t194 t195 t196 t197 t198 t199 t200 t201 t202 t203 t204 t205 t206 t207 t208 t209 t210 t211 t212 t213 t214 t215 t216 t217 t218 t219 t220 t221 t222 t223 t224 t225 t226 t227 t228 t229 t230 t231 t232 t233 t234 t235 t236 t237 t238 t239 t240 t241 t242 t243 t244 t245 t246 t247 t248 t249 t250 t251 t252 t253 t254 t255 t256 t257 t258 t259 t260 t261 t262 t263 t264 t265 t266 t267 t268 t269 t270 t271 t272 t273 t274 t275 t276 t277 t278 t279 t280 t281 t282 t283 t284 t285 t286 t287 t288 t289 t290 t291 t292 t293 t294 t295 t296 t297 t298 t299 t300 t301 t302 t303 t304 t305 t306 t307 t308 t309 t310 t311 t312 t313 t314 t315 t316 t317 t318 t319 t320 t321 t322 t323 t324 t325 t326 t327 t328 t329 t330 t331 t332 t333 t334 t335 t336 t337 t338 t339 t340 t341 t342 t343 t344 t345 t346 t347 t348 t349 t350 t351 : Value) (aL : Option Addr) (nL cL bL : Nat) (S : Bool) (X : Nat) (E GG : Int) (wq : World) : Exit → Act → World → Prop
  | .normal, a, w => ∃ aN nN cN aS cS b, a = { tmps := #[t0, t1, t2, t3, t4, t5, t6, t7, t8, t9, t10, t11, t12, t13, t14, t15, t16, t17, t18, t19, t20, t21, t22, .pointer (some ⟨bL, 0, none⟩), t24, .pointer (some ⟨b, 0, none⟩), .int .i64 GG, t27, t28, t29, t30, t31, t32, t33, t34, t35, t36, t37, t38, t39, t40, t41, t42, t43, t44, t45, t46, t47, t48, t49, t50, t51, t52, t53, t54, t55, t56, t57, t58, t59, t60, t61, t62, t63, t64, t65, t66, t67, t68, t69, t70, t71, t72, t73, t74, t75, t76, t77, t78, t79, t80, t81, t82, t83, t84, t85, t86, t87, t88, t89, t90, t91, t92, t93, t94, t95, t96, t97, t98, t99, t100, t101, t102, t103, t104, t105, t106, t107, t108, t109, t110, t111, t112, t113, t114, t115, t116, t117, t118, t119, t120, t121, t122, t123, t124, t125, t126, t127, t128, t129, t130, t131, t132, t133, t134, t135, t136, t137, t138, t139, t140, t141, t142, t143, t144, t145, t146, t147, t148, t149, t150, t151, t152, t153, t154, t155, t156, t157, t158, t159, t160, t161, t162, t163, t164, t165, t166, t167, t168, t169, t170, t171, t172, t173, .tuple #[.agg #[.bool S, .slice aN nN cN, .int .i64 E], .int .i64 GG], .agg #[.bool false, .slice aL nL cL, .int .i64 0], .agg #[.bool false, .slice aS 1 cS, .int .i64 0], .tuple #[.agg #[.bool S, .slice aN nN cN, .int .i64 E], .int .i64 GG], .agg #[.bool S, .slice aN nN cN, .int .i64 E], .int .i64 GG, t180, t181, t182, t183, t184, t185, t186, t187, t188, t189, t190, t191, t192, t193, t194, t195, t196, t197, t198, t199, t200, t201, t202, t203, t204, t205, t206, t207, t208, t209, t210, t211, t212, t213, t214, t215, t216, t217, t218, t219, t220, t221, t222, t223, t224, t225, t226, t227, t228, t229, t230, t231, t232, t233, t234, t235, t236, t237, t238, t239, t240, t241, t242, t243, t244, t245, t246, t247, t248, t249, t250, t251, t252, t253, t254, t255, t256, t257, t258, t259, t260, t261, t262, t263, t264, t265, t266, t267, t268, t269, t270, t271, t272, t273, t274, t275, t276, t277, t278, t279, t280, t281, t282, t283, t284, t285, t286, t287, t288, t289, t290, t291, t292, t293, t294, t295, t296, t297, t298, t299, t300, t301, t302, t303, t304, t305, t306, t307, t308, t309, t310, t311, t312, t313, t314, t315, t316, t317, t318, t319, t320, t321, t322, t323, t324, t325, t326, t327, t328, t329, t330, t331, t332, t333, t334, t335, t336, t337, t338, t339, t340, t341, t342, t343, t344, t345, t346, t347, t348, t349, t350, t351], defers := [] } ∧ w.heap[b]? = some (.cells #[.bool S, .slice aN nN cN, .int .i64 E] 24) ∧ Lim w aN nN cN 18446744073709551616 X ∧ Gr wq w ∧ wq.heap.size ≤ b
  | _, _, _ => False
set_option maxRecDepth 100000 in
set_option maxHeartbeats 40000000 in
theorem reg19 (t0 t1 t2 t3 t4 t5 t6 t7 t8 t9 t10 t11 t12 t13 t14 t15 t16 t17 t18 t19 t20 t21 t22 t24 t25 t26 t27 t28 t29 t30 t31 t32 t33 t34 t35 t36 t37 t38 t39 t40 t41 t42 t43 t44 t45 t46 t47 t48 t49 t50 t51 t52 t53 t54 t55 t56 t57 t58 t59 t60 t61 t62 t63 t64 t65 t66 t67 t68 t69 t70 t71 t72 t73 t74 t75 t76 t77 t78 t79 t80 t81 t82 t83 t84 t85 t86 t87 t88 t89 t90 t91 t92 t93 t94 t95 t96 t97 t98 t99 t100 t101 t102 t103 t104 t105 t106 t107 t108 t109 t110 t111 t112 t113 t114 t115 t116 t117 t118 t119 t120 t121 t122 t123 t124 t125 t126 t127 t128 t129 t130 t131 t132 t133 t134 t135 t136 t137 t138 t139 t140 t141 t142 t143 t144 t145 t146 t147 t148 t149 t150 t151 t152 t153 t154 t155 t156 t157 t158 t159 t160 t161 t162 t163 t164 t165 t166 t167 t168 t169 t170 t171 t172 t173 t174 t175 t176 t177 t178 t179 t180 t181 t182 t183 t184 t185 t186 t187 t188 t189 t190 t191 t192 t193 t194 t195 t196 t197 t198 t199 t200 t201 t202 t203 t204 t205 t206 t207 t208 t209 t210 t211 t212 t213 t214 t215 t216 t217 t218 t219 t220 t221 t222 t223 t224 t225 t226 t227 t228 t229 t230 t231 t232 t233 t234 t235 t236 t237 t238 t239 t240 t241 t242 t243 t244 t245 t246 t247 t248 t249 t250 t251 t252 t253 t254 t255 t256 t257 t258 t259 t260 t261 t262 t263 t264 t265 t266 t267 t268 t269 t270 t271 t272 t273 t274 t275 t276 t277 t278 t279 t280 t281 t282 t283 t284 t285 t286 t287 t288 t289 t290 t291 t292 t293 t294 t295 t296 t297 t298 t299 t300 t301 t302 t303 t304 t305 t306 t307 t308 t309 t310 t311 t312 t313 t314 t315 t316 t317 t318 t319 t320 t321 t322 t323 t324 t325 t326 t327 t328 t329 t330 t331 t332 t333 t334 t335 t336 t337 t338 t339 t340 t341 t342 t343 t344 t345 t346 t347 t348 t349 t350 t351 : Value) (aL : Option Addr) (nL cL bL : Nat) (S : Bool) (X : Nat) (E GG : Int) (wq : World)
    (SM : Hid (∀ w1, Calls Tryz.prog 20 #[.bool false, .int .u64 1, .int .i64 0] w1 fun r w' => ∃ ad cap, r = .returned (.agg #[.bool false, .slice ad 1 cap, .int .i64 0]) ∧ Lim w' ad 1 cap 18446744073709551616 1 ∧ Gr w1 w'))
    (ADD : Hid (∀ a' c' w1, Gr wq w1 → Lim w1 a' 1 c' 18446744073709551616 1 → Calls Tryz.prog 23 #[.agg #[.bool false, .slice aL nL cL, .int .i64 0], .agg #[.bool false, .slice a' 1 c', .int .i64 0]] w1 fun r w' => ∃ ad n cap, r = .returned (.tuple #[.agg #[.bool S, .slice ad n cap, .int .i64 E], .int .i64 GG]) ∧ Lim w' ad n cap 18446744073709551616 X ∧ Gr w1 w'))
    (HL : wq.heap[bL]? = some (.cells #[.bool false, .slice aL nL cL, .int .i64 0] 24)) :
    Code.wp Tryz.prog (Code.region 19 #[{ dst := some 175, op := Op.load 24 (Operand.tmp 23), type := 24, pos := "law.go:162", after := #[], guard := none }, { dst := some 176, op := Op.call { callee := Callee.value (Operand.func 20), args := #[Operand.const (Value.bool false), Operand.const (Value.int IntKind.u64 1), Operand.const (Value.int IntKind.i64 0)], argTypes := #[4, 41, 3] }, type := 24, pos := "law.go:162", after := #[], guard := none }, { dst := some 177, op := Op.call { callee := Callee.value (Operand.func 23), args := #[Operand.tmp 175, Operand.tmp 176], argTypes := #[24, 24] }, type := 32, pos := "law.go:162", after := #[{ on := 0, ground := Ground.data }, { on := 1, ground := Ground.data }, { on := 1, ground := Ground.chain }], guard := none }, { dst := some 174, op := Op.move (Operand.tmp 177), type := 32, pos := "law.go:162", after := #[{ on := 2, ground := Ground.data }], guard := none }, { dst := some 178, op := Op.extract (Operand.tmp 174) 0, type := 24, pos := "law.go:162", after := #[{ on := 3, ground := Ground.data }], guard := none }, { dst := some 179, op := Op.extract (Operand.tmp 174) 1, type := 28, pos := "law.go:162", after := #[{ on := 3, ground := Ground.data }, { on := 7, ground := Ground.gcOnly Departure.lateStores }], guard := none }, { dst := some 25, op := Op.alloc 24, type := 0, pos := "law.go:162", after := #[], guard := none }, { dst := none, op := Op.store 24 (Operand.tmp 25) (Operand.tmp 178), type := 0, pos := "law.go:162", after := #[{ on := 6, ground := Ground.data }, { on := 4, ground := Ground.data }, { on := 2, ground := Ground.chain }, { on := 0, ground := Ground.phase }, { on := 1, ground := Ground.phase }, { on := 2, ground := Ground.phase }, { on := 3, ground := Ground.phase }, { on := 4, ground := Ground.phase }, { on := 5, ground := Ground.textOnly Departure.lateStores }, { on := 6, ground := Ground.phase }], guard := none }, { dst := some 26, op := Op.assign (Operand.tmp 179), type := 28, pos := "law.go:162", after := #[{ on := 5, ground := Ground.data }, { on := 7, ground := Ground.chain }, { on := 0, ground := Ground.phase }, { on := 1, ground := Ground.phase }, { on := 2, ground := Ground.phase }, { on := 3, ground := Ground.phase }, { on := 4, ground := Ground.phase }, { on := 5, ground := Ground.phase }, { on := 6, ground := Ground.phase }, { on := 7, ground := Ground.phase }], guard := none }] true) (R19 t0 t1 t2 t3 t4 t5 t6 t7 t8 t9 t10 t11 t12 t13 t14 t15 t16 t17 t18 t19 t20 t21 t22 t24 t25 t26 t27 t28 t29 t30 t31 t32 t33 t34 t35 t36 t37 t38 t39 t40 t41 t42 t43 t44 t45 t46 t47 t48 t49 t50 t51 t52 t53 t54 t55 t56 t57 t58 t59 t60 t61 t62 t63 t64 t65 t66 t67 t68 t69 t70 t71 t72 t73 t74 t75 t76 t77 t78 t79 t80 t81 t82 t83 t84 t85 t86 t87 t88 t89 t90 t91 t92 t93 t94 t95 t96 t97 t98 t99 t100 t101 t102 t103 t104 t105 t106 t107 t108 t109 t110 t111 t112 t113 t114 t115 t116 t117 t118 t119 t120 t121 t122 t123 t124 t125 t126 t127 t128 t129 t130 t131 t132 t133 t134 t135 t136 t137 t138 t139 t140 t141 t142 t143 t144 t145 t146 t147 t148 t149 t150 t151 t152 t153 t154 t155 t156 t157 t158 t159 t160 t161 t162 t163 t164 t165 t166 t167 t168 t169 t170 t171 t172 t173 t174 t175 t176 t177 t178 t179 t180 t181 t182 t183 t184 t185 t186 t187 t188 t189 t190 t191 t192 t193 t194 t195 t196 t197 t198 t199 t200 t201 t202 t203 t204 t205 t206 t207 t208 t209 t210 t211 t212 t213 t214 t215 t216 t217 t218 t219 t220 t221 t222 t223 t224 t225 t226 t227 t228 t229 t230 t231 t232 t233 t234 t235 t236 t237 t238 t239 t240 t241 t242 t243 t244 t245 t246 t247 t248 t249 t250 t251 t252 t253 t254 t255 t256 t257 t258 t259 t260 t261 t262 t263 t264 t265 t266 t267 t268 t269 t270 t271 t272 t273 t274 t275 t276 t277 t278 t279 t280 t281 t282 t283 t284 t285 t286 t287 t288 t289 t290 t291 t292 t293 t294 t295 t296 t297 t298 t299 t300 t301 t302 t303 t304 t305 t306 t307 t308 t309 t310 t311 t312 t313 t314 t315 t316 t317 t318 t319 t320 t321 t322 t323 t324 t325 t326 t327 t328 t329 t330 t331 t332 t333 t334 t335 t336 t337 t338 t339 t340 t341 t342 t343 t344 t345 t346 t347 t348 t349 t350 t351 aL nL cL bL S X E GG wq) { tmps := #[t0, t1, t2, t3, t4, t5, t6, t7, t8, t9, t10, t11, t12, t13, t14, t15, t16, t17, t18, t19, t20, t21, t22, .pointer (some ⟨bL, 0, none⟩), t24, t25, t26, t27, t28, t29, t30, t31, t32, t33, t34, t35, t36, t37, t38, t39, t40, t41, t42, t43, t44, t45, t46, t47, t48, t49, t50, t51, t52, t53, t54, t55, t56, t57, t58, t59, t60, t61, t62, t63, t64, t65, t66, t67, t68, t69, t70, t71, t72, t73, t74, t75, t76, t77, t78, t79, t80, t81, t82, t83, t84, t85, t86, t87, t88, t89, t90, t91, t92, t93, t94, t95, t96, t97, t98, t99, t100, t101, t102, t103, t104, t105, t106, t107, t108, t109, t110, t111, t112, t113, t114, t115, t116, t117, t118, t119, t120, t121, t122, t123, t124, t125, t126, t127, t128, t129, t130, t131, t132, t133, t134, t135, t136, t137, t138, t139, t140, t141, t142, t143, t144, t145, t146, t147, t148, t149, t150, t151, t152, t153, t154, t155, t156, t157, t158, t159, t160, t161, t162, t163, t164, t165, t166, t167, t168, t169, t170, t171, t172, t173, t174, t175, t176, t177, t178, t179, t180, t181, t182, t183, t184, t185, t186, t187, t188, t189, t190, t191, t192, t193, t194, t195, t196, t197, t198, t199, t200, t201, t202, t203, t204, t205, t206, t207, t208, t209, t210, t211, t212, t213, t214, t215, t216, t217, t218, t219, t220, t221, t222, t223, t224, t225, t226, t227, t228, t229, t230, t231, t232, t233, t234, t235, t236, t237, t238, t239, t240, t241, t242, t243, t244, t245, t246, t247, t248, t249, t250, t251, t252, t253, t254, t255, t256, t257, t258, t259, t260, t261, t262, t263, t264, t265, t266, t267, t268, t269, t270, t271, t272, t273, t274, t275, t276, t277, t278, t279, t280, t281, t282, t283, t284, t285, t286, t287, t288, t289, t290, t291, t292, t293, t294, t295, t296, t297, t298, t299, t300, t301, t302, t303, t304, t305, t306, t307, t308, t309, t310, t311, t312, t313, t314, t315, t316, t317, t318, t319, t320, t321, t322, t323, t324, t325, t326, t327, t328, t329, t330, t331, t332, t333, t334, t335, t336, t337, t338, t339, t340, t341, t342, t343, t344, t345, t346, t347, t348, t349, t350, t351], defers := [] } wq := by
  obtain ⟨qL0, qL1, qL2⟩ := cells_ofT HL
  have bLlt : bL < wq.heap.size := lt_of_cell' qL0
  have hS0 : (wq.drew.cell? ⟨bL, 0, none⟩ = some (.bool false) ∧ wq.drew.cell? ⟨bL, 1, none⟩ = some (.slice aL nL cL) ∧ wq.drew.cell? ⟨bL, 2, none⟩ = some (.int .i64 0)) ∧ Gr wq wq.drew := ⟨⟨qL0, qL1, qL2⟩, (Gr.refl wq).drew⟩
  clear HL qL0 qL1 qL2
  refine wp_region_held_drew (S := fun w' => (w'.cell? ⟨bL, 0, none⟩ = some (.bool false) ∧ w'.cell? ⟨bL, 1, none⟩ = some (.slice aL nL cL) ∧ w'.cell? ⟨bL, 2, none⟩ = some (.int .i64 0)) ∧ Gr wq w') (by kernel_rfl) hS0 (fun hHeld => ?_)
  refine wpAnyH_take (i := 0) (oi := ({ dst := some 175, op := Op.load 24 (Operand.tmp 23), type := 24, pos := "law.go:162", after := #[], guard := none } : Oper)) (v := ?_) rfl (by kernel_rfl) (by kernel_rfl) (by kernel_rfl) (fun _ _ _ h => h) (Or.inl ⟨by rfl, ?_⟩) (by with_reducible assumption) ?_
  rotate_left
  · intro w hSw
    (try dsimp only at hSw)
    first | (go_simp; done) | (go_simp; with_reducible rfl)
  (try simp only [Act.put, List.setIfInBounds_toArray, List.set_cons_zero, List.set_cons_succ])
  refine wpAnyH_ready (rs := [1, 6]) (by kernel_rfl) (by simp) ?_
  refine AllReadyH.cons (o := ({ dst := some 176, op := Op.call { callee := Callee.value (Operand.func 20), args := #[Operand.const (Value.bool false), Operand.const (Value.int IntKind.u64 1), Operand.const (Value.int IntKind.i64 0)], argTypes := #[4, 41, 3] }, type := 24, pos := "law.go:162", after := #[], guard := none } : Oper)) rfl (fun K hK => ?_) ?_
  · go_simp
    refine (SM.out _).mono ?_
    rintro r w12 ⟨aS, cS, rfl, DS, g12⟩
    refine hK.out _ _ (keepB g12 hHeld) (fun hH2 => ?_)
    clear hK K
    (try simp only [Act.put, List.setIfInBounds_toArray, List.set_cons_zero, List.set_cons_succ])
    refine wpAnyH_ready (rs := [2, 6]) (by kernel_rfl) (by simp) ?_
    refine AllReadyH.cons (o := ({ dst := some 177, op := Op.call { callee := Callee.value (Operand.func 23), args := #[Operand.tmp 175, Operand.tmp 176], argTypes := #[24, 24] }, type := 32, pos := "law.go:162", after := #[{ on := 0, ground := Ground.data }, { on := 1, ground := Ground.data }, { on := 1, ground := Ground.chain }], guard := none } : Oper)) rfl (fun K hK => ?_) ?_
    · go_simp
      refine (ADD.out aS cS w12 hH2.2 DS).mono ?_
      rintro r w9 ⟨aN, nN, cN, rfl, DN, g9⟩
      refine hK.out _ _ (keepB g9 hH2) (fun hH3 => ?_)
      clear hK K
      (try simp only [Act.put, List.setIfInBounds_toArray, List.set_cons_zero, List.set_cons_succ])
      refine wpAnyH_take (i := 3) (oi := ({ dst := some 174, op := Op.move (Operand.tmp 177), type := 32, pos := "law.go:162", after := #[{ on := 2, ground := Ground.data }], guard := none } : Oper)) (v := ?_) rfl (by kernel_rfl) (by kernel_rfl) (by kernel_rfl) (fun _ _ _ h => h) (Or.inl ⟨by rfl, ?_⟩) (by with_reducible assumption) ?_
      rotate_left
      · intro w hSw
        (try dsimp only at hSw)
        first | (go_simp; done) | (go_simp; with_reducible rfl)
      (try simp only [Act.put, List.setIfInBounds_toArray, List.set_cons_zero, List.set_cons_succ])
      refine wpAnyH_take (i := 4) (oi := ({ dst := some 178, op := Op.extract (Operand.tmp 174) 0, type := 24, pos := "law.go:162", after := #[{ on := 3, ground := Ground.data }], guard := none } : Oper)) (v := ?_) rfl (by kernel_rfl) (by kernel_rfl) (by kernel_rfl) (fun _ _ _ h => h) (Or.inl ⟨by rfl, ?_⟩) (by with_reducible assumption) ?_
      rotate_left
      · intro w hSw
        (try dsimp only at hSw)
        first | (go_simp; done) | (go_simp; with_reducible rfl)
      (try simp only [Act.put, List.setIfInBounds_toArray, List.set_cons_zero, List.set_cons_succ])
      refine wpAnyH_take (i := 5) (oi := ({ dst := some 179, op := Op.extract (Operand.tmp 174) 1, type := 28, pos := "law.go:162", after := #[{ on := 3, ground := Ground.data }, { on := 7, ground := Ground.gcOnly Departure.lateStores }], guard := none } : Oper)) (v := ?_) rfl (by kernel_rfl) (by kernel_rfl) (by kernel_rfl) (fun _ _ _ h => h) (Or.inl ⟨by rfl, ?_⟩) (by with_reducible assumption) ?_
      rotate_left
      · intro w hSw
        (try dsimp only at hSw)
        first | (go_simp; done) | (go_simp; with_reducible rfl)
      (try simp only [Act.put, List.setIfInBounds_toArray, List.set_cons_zero, List.set_cons_succ])
      refine wpAnyH_ready (rs := [6]) (by kernel_rfl) (by simp) ?_
      refine AllReadyH.cons (o := ({ dst := some 25, op := Op.alloc 24, type := 0, pos := "law.go:162", after := #[], guard := none } : Oper)) rfl (fun K hK => ?_) AllReadyH.nil
      go_simp
      refine hK.out _ _ (keepBA hH3) (fun hH4 => ?_)
      clear hK K
      (try simp only [Act.put, List.setIfInBounds_toArray, List.set_cons_zero, List.set_cons_succ])
      refine wpAnyH_ready (rs := [7]) (by kernel_rfl) (by simp) ?_
      refine AllReadyH.cons (o := ({ dst := none, op := Op.store 24 (Operand.tmp 25) (Operand.tmp 178), type := 0, pos := "law.go:162", after := #[{ on := 6, ground := Ground.data }, { on := 4, ground := Ground.data }, { on := 2, ground := Ground.chain }, { on := 0, ground := Ground.phase }, { on := 1, ground := Ground.phase }, { on := 2, ground := Ground.phase }, { on := 3, ground := Ground.phase }, { on := 4, ground := Ground.phase }, { on := 5, ground := Ground.textOnly Departure.lateStores }, { on := 6, ground := Ground.phase }], guard := none } : Oper)) rfl (fun K hK => ?_) AllReadyH.nil
      go_simp
      refine hK.out _ _ (keepBA hH3) (fun hH9 => ?_)
      clear hK K
      (try simp only [Act.put, List.setIfInBounds_toArray, List.set_cons_zero, List.set_cons_succ])
      refine wpAnyH_take (i := 8) (oi := ({ dst := some 26, op := Op.assign (Operand.tmp 179), type := 28, pos := "law.go:162", after := #[{ on := 5, ground := Ground.data }, { on := 7, ground := Ground.chain }, { on := 0, ground := Ground.phase }, { on := 1, ground := Ground.phase }, { on := 2, ground := Ground.phase }, { on := 3, ground := Ground.phase }, { on := 4, ground := Ground.phase }, { on := 5, ground := Ground.phase }, { on := 6, ground := Ground.phase }, { on := 7, ground := Ground.phase }], guard := none } : Oper)) (v := ?_) rfl (by kernel_rfl) (by kernel_rfl) (by kernel_rfl) (fun _ _ _ h => h) (Or.inl ⟨by rfl, ?_⟩) (by with_reducible assumption) ?_
      rotate_left
      · intro w hSw
        (try dsimp only at hSw)
        first | (go_simp; done) | (go_simp; with_reducible rfl)
      (try simp only [Act.put, List.setIfInBounds_toArray, List.set_cons_zero, List.set_cons_succ])
      refine wpAnyH_done (by kernel_rfl) ?_ _
      exact ⟨aN, nN, cN, aS, cS, w9.heap.size, rfl, blk1 w9 _, DN.gr ((Gr.refl w9).alloc _), hH9.2, hH3.2.size⟩
    refine AllReadyH.cons (o := ({ dst := some 25, op := Op.alloc 24, type := 0, pos := "law.go:162", after := #[], guard := none } : Oper)) rfl (fun K hK => ?_) AllReadyH.nil
    go_simp
    refine hK.out _ _ (keepBA hH2) (fun hH5 => ?_)
    clear hK K
    (try simp only [Act.put, List.setIfInBounds_toArray, List.set_cons_zero, List.set_cons_succ])
    refine wpAnyH_ready (rs := [2]) (by kernel_rfl) (by simp) ?_
    refine AllReadyH.cons (o := ({ dst := some 177, op := Op.call { callee := Callee.value (Operand.func 23), args := #[Operand.tmp 175, Operand.tmp 176], argTypes := #[24, 24] }, type := 32, pos := "law.go:162", after := #[{ on := 0, ground := Ground.data }, { on := 1, ground := Ground.data }, { on := 1, ground := Ground.chain }], guard := none } : Oper)) rfl (fun K hK => ?_) AllReadyH.nil
    go_simp
    refine (ADD.out aS cS (w12.alloc (.cells #[.bool false, .slice none 0 0, .int .i64 0] 24)) hH5.2 (DS.gr ((Gr.refl w12).alloc _))).mono ?_
    rintro r w9 ⟨aN, nN, cN, rfl, DN, g9⟩
    refine hK.out _ _ (keepB g9 hH5) (fun hH3 => ?_)
    clear hK K
    (try simp only [Act.put, List.setIfInBounds_toArray, List.set_cons_zero, List.set_cons_succ])
    refine wpAnyH_take (i := 3) (oi := ({ dst := some 174, op := Op.move (Operand.tmp 177), type := 32, pos := "law.go:162", after := #[{ on := 2, ground := Ground.data }], guard := none } : Oper)) (v := ?_) rfl (by kernel_rfl) (by kernel_rfl) (by kernel_rfl) (fun _ _ _ h => h) (Or.inl ⟨by rfl, ?_⟩) (by with_reducible assumption) ?_
    rotate_left
    · intro w hSw
      (try dsimp only at hSw)
      first | (go_simp; done) | (go_simp; with_reducible rfl)
    (try simp only [Act.put, List.setIfInBounds_toArray, List.set_cons_zero, List.set_cons_succ])
    refine wpAnyH_take (i := 4) (oi := ({ dst := some 178, op := Op.extract (Operand.tmp 174) 0, type := 24, pos := "law.go:162", after := #[{ on := 3, ground := Ground.data }], guard := none } : Oper)) (v := ?_) rfl (by kernel_rfl) (by kernel_rfl) (by kernel_rfl) (fun _ _ _ h => h) (Or.inl ⟨by rfl, ?_⟩) (by with_reducible assumption) ?_
    rotate_left
    · intro w hSw
      (try dsimp only at hSw)
      first | (go_simp; done) | (go_simp; with_reducible rfl)
    (try simp only [Act.put, List.setIfInBounds_toArray, List.set_cons_zero, List.set_cons_succ])
    refine wpAnyH_take (i := 5) (oi := ({ dst := some 179, op := Op.extract (Operand.tmp 174) 1, type := 28, pos := "law.go:162", after := #[{ on := 3, ground := Ground.data }, { on := 7, ground := Ground.gcOnly Departure.lateStores }], guard := none } : Oper)) (v := ?_) rfl (by kernel_rfl) (by kernel_rfl) (by kernel_rfl) (fun _ _ _ h => h) (Or.inl ⟨by rfl, ?_⟩) (by with_reducible assumption) ?_
    rotate_left
    · intro w hSw
      (try dsimp only at hSw)
      first | (go_simp; done) | (go_simp; with_reducible rfl)
    (try simp only [Act.put, List.setIfInBounds_toArray, List.set_cons_zero, List.set_cons_succ])
    have P9 : (w9 : World).heap[w12.heap.size]? = some (Obj.cells #[.bool false, .slice none 0 0, .int .i64 0] 24) := g9.keepH (blk1 w12 (.cells #[.bool false, .slice none 0 0, .int .i64 0] 24))
    obtain ⟨f0, f1, f2⟩ := cells_ofT P9
    obtain ⟨z0, z1, z2⟩ := open_ofT P9
    refine wpAnyH_ready (rs := [7]) (by kernel_rfl) (by simp) ?_
    refine AllReadyH.cons (o := ({ dst := none, op := Op.store 24 (Operand.tmp 25) (Operand.tmp 178), type := 0, pos := "law.go:162", after := #[{ on := 6, ground := Ground.data }, { on := 4, ground := Ground.data }, { on := 2, ground := Ground.chain }, { on := 0, ground := Ground.phase }, { on := 1, ground := Ground.phase }, { on := 2, ground := Ground.phase }, { on := 3, ground := Ground.phase }, { on := 4, ground := Ground.phase }, { on := 5, ground := Ground.textOnly Departure.lateStores }, { on := 6, ground := Ground.phase }], guard := none } : Oper)) rfl (fun K hK => ?_) AllReadyH.nil
    go_simp
    refine hK.out _ _ (keepBS (Nat.ne_of_lt (Nat.lt_of_lt_of_le bLlt hH2.2.size)) hH2.2.size hH3) (fun hH9 => ?_)
    clear hK K
    (try simp only [Act.put, List.setIfInBounds_toArray, List.set_cons_zero, List.set_cons_succ])
    refine wpAnyH_take (i := 8) (oi := ({ dst := some 26, op := Op.assign (Operand.tmp 179), type := 28, pos := "law.go:162", after := #[{ on := 5, ground := Ground.data }, { on := 7, ground := Ground.chain }, { on := 0, ground := Ground.phase }, { on := 1, ground := Ground.phase }, { on := 2, ground := Ground.phase }, { on := 3, ground := Ground.phase }, { on := 4, ground := Ground.phase }, { on := 5, ground := Ground.phase }, { on := 6, ground := Ground.phase }, { on := 7, ground := Ground.phase }], guard := none } : Oper)) (v := ?_) rfl (by kernel_rfl) (by kernel_rfl) (by kernel_rfl) (fun _ _ _ h => h) (Or.inl ⟨by rfl, ?_⟩) (by with_reducible assumption) ?_
    rotate_left
    · intro w hSw
      (try dsimp only at hSw)
      first | (go_simp; done) | (go_simp; with_reducible rfl)
    (try simp only [Act.put, List.setIfInBounds_toArray, List.set_cons_zero, List.set_cons_succ])
    refine wpAnyH_done (by kernel_rfl) ?_ _
    exact ⟨aN, nN, cN, aS, cS, w12.heap.size, rfl, own24 P9 _ _ _, set3_lim DN P9 _ _ _, hH9.2, hH2.2.size⟩
  refine AllReadyH.cons (o := ({ dst := some 25, op := Op.alloc 24, type := 0, pos := "law.go:162", after := #[], guard := none } : Oper)) rfl (fun K hK => ?_) AllReadyH.nil
  go_simp
  refine hK.out _ _ (keepBA hHeld) (fun hH6 => ?_)
  clear hK K
  (try simp only [Act.put, List.setIfInBounds_toArray, List.set_cons_zero, List.set_cons_succ])
  refine wpAnyH_ready (rs := [1]) (by kernel_rfl) (by simp) ?_
  refine AllReadyH.cons (o := ({ dst := some 176, op := Op.call { callee := Callee.value (Operand.func 20), args := #[Operand.const (Value.bool false), Operand.const (Value.int IntKind.u64 1), Operand.const (Value.int IntKind.i64 0)], argTypes := #[4, 41, 3] }, type := 24, pos := "law.go:162", after := #[], guard := none } : Oper)) rfl (fun K hK => ?_) AllReadyH.nil
  go_simp
  refine (SM.out _).mono ?_
  rintro r w12 ⟨aS, cS, rfl, DS, g12⟩
  refine hK.out _ _ (keepB g12 hH6) (fun hH2 => ?_)
  clear hK K
  (try simp only [Act.put, List.setIfInBounds_toArray, List.set_cons_zero, List.set_cons_succ])
  refine wpAnyH_ready (rs := [2]) (by kernel_rfl) (by simp) ?_
  refine AllReadyH.cons (o := ({ dst := some 177, op := Op.call { callee := Callee.value (Operand.func 23), args := #[Operand.tmp 175, Operand.tmp 176], argTypes := #[24, 24] }, type := 32, pos := "law.go:162", after := #[{ on := 0, ground := Ground.data }, { on := 1, ground := Ground.data }, { on := 1, ground := Ground.chain }], guard := none } : Oper)) rfl (fun K hK => ?_) AllReadyH.nil
  go_simp
  refine (ADD.out aS cS w12 hH2.2 DS).mono ?_
  rintro r w9 ⟨aN, nN, cN, rfl, DN, g9⟩
  refine hK.out _ _ (keepB g9 hH2) (fun hH3 => ?_)
  clear hK K
  (try simp only [Act.put, List.setIfInBounds_toArray, List.set_cons_zero, List.set_cons_succ])
  refine wpAnyH_take (i := 3) (oi := ({ dst := some 174, op := Op.move (Operand.tmp 177), type := 32, pos := "law.go:162", after := #[{ on := 2, ground := Ground.data }], guard := none } : Oper)) (v := ?_) rfl (by kernel_rfl) (by kernel_rfl) (by kernel_rfl) (fun _ _ _ h => h) (Or.inl ⟨by rfl, ?_⟩) (by with_reducible assumption) ?_
  rotate_left
  · intro w hSw
    (try dsimp only at hSw)
    first | (go_simp; done) | (go_simp; with_reducible rfl)
  (try simp only [Act.put, List.setIfInBounds_toArray, List.set_cons_zero, List.set_cons_succ])
  refine wpAnyH_take (i := 4) (oi := ({ dst := some 178, op := Op.extract (Operand.tmp 174) 0, type := 24, pos := "law.go:162", after := #[{ on := 3, ground := Ground.data }], guard := none } : Oper)) (v := ?_) rfl (by kernel_rfl) (by kernel_rfl) (by kernel_rfl) (fun _ _ _ h => h) (Or.inl ⟨by rfl, ?_⟩) (by with_reducible assumption) ?_
  rotate_left
  · intro w hSw
    (try dsimp only at hSw)
    first | (go_simp; done) | (go_simp; with_reducible rfl)
  (try simp only [Act.put, List.setIfInBounds_toArray, List.set_cons_zero, List.set_cons_succ])
  refine wpAnyH_take (i := 5) (oi := ({ dst := some 179, op := Op.extract (Operand.tmp 174) 1, type := 28, pos := "law.go:162", after := #[{ on := 3, ground := Ground.data }, { on := 7, ground := Ground.gcOnly Departure.lateStores }], guard := none } : Oper)) (v := ?_) rfl (by kernel_rfl) (by kernel_rfl) (by kernel_rfl) (fun _ _ _ h => h) (Or.inl ⟨by rfl, ?_⟩) (by with_reducible assumption) ?_
  rotate_left
  · intro w hSw
    (try dsimp only at hSw)
    first | (go_simp; done) | (go_simp; with_reducible rfl)
  (try simp only [Act.put, List.setIfInBounds_toArray, List.set_cons_zero, List.set_cons_succ])
  have P9 : (w9 : World).heap[wq.heap.size]? = some (Obj.cells #[.bool false, .slice none 0 0, .int .i64 0] 24) := g9.keepH (g12.keepH (blk1 wq.drew (.cells #[.bool false, .slice none 0 0, .int .i64 0] 24)))
  obtain ⟨f0, f1, f2⟩ := cells_ofT P9
  obtain ⟨z0, z1, z2⟩ := open_ofT P9
  refine wpAnyH_ready (rs := [7]) (by kernel_rfl) (by simp) ?_
  refine AllReadyH.cons (o := ({ dst := none, op := Op.store 24 (Operand.tmp 25) (Operand.tmp 178), type := 0, pos := "law.go:162", after := #[{ on := 6, ground := Ground.data }, { on := 4, ground := Ground.data }, { on := 2, ground := Ground.chain }, { on := 0, ground := Ground.phase }, { on := 1, ground := Ground.phase }, { on := 2, ground := Ground.phase }, { on := 3, ground := Ground.phase }, { on := 4, ground := Ground.phase }, { on := 5, ground := Ground.textOnly Departure.lateStores }, { on := 6, ground := Ground.phase }], guard := none } : Oper)) rfl (fun K hK => ?_) AllReadyH.nil
  go_simp
  refine hK.out _ _ (keepBS (Nat.ne_of_lt (Nat.lt_of_lt_of_le bLlt (Nat.le_refl _))) (Nat.le_refl _) hH3) (fun hH9 => ?_)
  clear hK K
  (try simp only [Act.put, List.setIfInBounds_toArray, List.set_cons_zero, List.set_cons_succ])
  refine wpAnyH_take (i := 8) (oi := ({ dst := some 26, op := Op.assign (Operand.tmp 179), type := 28, pos := "law.go:162", after := #[{ on := 5, ground := Ground.data }, { on := 7, ground := Ground.chain }, { on := 0, ground := Ground.phase }, { on := 1, ground := Ground.phase }, { on := 2, ground := Ground.phase }, { on := 3, ground := Ground.phase }, { on := 4, ground := Ground.phase }, { on := 5, ground := Ground.phase }, { on := 6, ground := Ground.phase }, { on := 7, ground := Ground.phase }], guard := none } : Oper)) (v := ?_) rfl (by kernel_rfl) (by kernel_rfl) (by kernel_rfl) (fun _ _ _ h => h) (Or.inl ⟨by rfl, ?_⟩) (by with_reducible assumption) ?_
  rotate_left
  · intro w hSw
    (try dsimp only at hSw)
    first | (go_simp; done) | (go_simp; with_reducible rfl)
  (try simp only [Act.put, List.setIfInBounds_toArray, List.set_cons_zero, List.set_cons_succ])
  refine wpAnyH_done (by kernel_rfl) ?_ _
  exact ⟨aN, nN, cN, aS, cS, wq.heap.size, rfl, own24 P9 _ _ _, set3_lim DN P9 _ _ _, hH9.2, (Nat.le_refl _)⟩
end Go.Proofs.YtnmdnhmfmahjaaaGreatDoor
