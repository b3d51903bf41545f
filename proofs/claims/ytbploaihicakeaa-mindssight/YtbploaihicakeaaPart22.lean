/-
  The law's own world: a new item, its kind and where it is.
  The law's own world: what an item is.
  The law's own world: an item goes into its row, if nothing is in its place.
  The law's own world: its items, one behind the other, and what is answered.
  The law's own world: its hero is born, and gets gold.
  The law's own world: where its hero stands.
-/
import Derived.Test.YtbploaihicakeaaPart20
import Derived.Test.YtbploaihicakeaaPart10
import Derived.Deep.CutRange
import Derived.Deep.CutBlock
import Derived.Deep.RegionHeld3
namespace Go.Proofs.Ytbploaihicakeaa
open Go.RowKit

/-- Parts of a code: the first of two, the second, what a block or a loop holds. -/
def cfst : Code → Code
  | .seq a _ => a
  | c => c

def csnd : Code → Code
  | .seq _ b => b
  | c => c

def cin : Code → Code
  | .block _ b => b
  | .loop b => b
  | c => c

set_option maxRecDepth 100000 in
set_option maxHeartbeats 12800000 in
theorem told_new (a0 a1 : Int) (b o k nL cL : Nat) (wr : World) (_hb : b < wr.heap.size) (hlt1 : (k : Int) < (nL : Int)) (p0 : wr.cell? ⟨b, o + k * 4, none⟩ = some (.int .i64 a0)) (p1 : wr.cell? ⟨b, o + k * 4 + 1, none⟩ = some (.int .i64 a1)) (Q : Exit → Act → World → Prop) (t0 t1 t2 t3 t5 t6 t7 t8 t9 t10 t11 t12 t13 t14 t15 t16 t17 t19 t20 t21 t22 t23 t24 t25 t26 t27 t28 t29 t30 t31 t32 t33 t34 t35 t36 t37 t38 t39 t40 t41 t42 t43 t44 t45 t46 t47 t48 t49 t50 t51 t52 t53 t54 t55 t56 t57 t58 t59 t60 t61 t62 t63 t64 t65 t66 t67 t68 t69 t70 t71 t72 t73 t74 t75 t76 t77 t78 t79 t80 t81 t82 t83 t84 t85 t86 t87 t88 t89 t90 t91 t92 t93 t94 t95 t96 t97 t98 t99 t100 t101 t102 t103 t104 t105 t106 t107 t108 t109 t110 t111 t112 t113 t114 t115 t116 t117 t118 t119 t120 t121 t122 t123 t124 t125 t126 t127 t128 t129 t130 t131 t132 t133 t134 t135 t136 t137 t138 t139 t140 t141 t142 t143 t144 t145 t146 t147 t148 t149 t150 t151 t152 t153 t154 t155 t156 t157 t158 t159 t160 t161 t162 t163 t164 t165 t166 t167 t168 t169 t170 t171 t172 t173 t174 t175 t176 t177 t178 t179 t180 t181 t182 t183 t184 t185 t186 t187 t188 t189 t190 t191 t192 t193 t194 t195 t196 t197 t198 t199 t200 t201 t202 t203 t204 t205 t206 t207 t208 t209 t210 t211 t212 t213 t214 t215 t216 t217 t218 t219 t220 t221 t222 t223 t224 t225 : Value)
    (hQ : ∀ (X : Nat) (wc : World) (u105 u106 u107 u108 u109 u110 u111 u112 u113 u114 u115 u116 u117 u118 u119 : Value), Hid (Lie wc X 57 4 (Ints (Gd.row (1 + a0 % 4) (1 + a1 % 4) 0 0))) → Hid (wr.grownBy wc none) → Hid (wr.heap.size ≤ X) → Q .normal ⟨#[t0, t1, t2, t3, .slice (some ⟨b, o, none⟩) nL cL, t5, t6, t7, t8, t9, t10, t11, t12, t13, t14, t15, t16, t17, .int .i64 (k : Int), .pointer (some ⟨X, 0, none⟩), t20, t21, t22, t23, t24, t25, t26, t27, t28, t29, t30, t31, t32, t33, t34, t35, t36, t37, t38, t39, t40, t41, t42, t43, t44, t45, t46, t47, t48, t49, t50, t51, t52, t53, t54, t55, t56, t57, t58, t59, t60, t61, t62, t63, t64, t65, t66, t67, t68, t69, t70, t71, t72, t73, t74, t75, t76, t77, t78, t79, t80, t81, t82, t83, t84, t85, t86, t87, t88, t89, t90, t91, t92, t93, t94, t95, t96, t97, t98, t99, t100, t101, t102, t103, t104, u105, u106, u107, u108, u109, u110, u111, u112, u113, u114, u115, u116, u117, u118, u119, t120, t121, t122, t123, t124, t125, t126, t127, t128, t129, t130, t131, t132, t133, t134, t135, t136, t137, t138, t139, t140, t141, t142, t143, t144, t145, t146, t147, t148, t149, t150, t151, t152, t153, t154, t155, t156, t157, t158, t159, t160, t161, t162, t163, t164, t165, t166, t167, t168, t169, t170, t171, t172, t173, t174, t175, t176, t177, t178, t179, t180, t181, t182, t183, t184, t185, t186, t187, t188, t189, t190, t191, t192, t193, t194, t195, t196, t197, t198, t199, t200, t201, t202, t203, t204, t205, t206, t207, t208, t209, t210, t211, t212, t213, t214, t215, t216, t217, t218, t219, t220, t221, t222, t223, t224, t225], []⟩ wc) :
    Code.wp Try.prog (cfst (cin (cfst (csnd (cin (cin (csnd (cfst ((Try.f23.body.map (cdrop 12)).getD .skip))))))))) Q ⟨#[t0, t1, t2, t3, .slice (some ⟨b, o, none⟩) nL cL, t5, t6, t7, t8, t9, t10, t11, t12, t13, t14, t15, t16, t17, .int .i64 (k : Int), t19, t20, t21, t22, t23, t24, t25, t26, t27, t28, t29, t30, t31, t32, t33, t34, t35, t36, t37, t38, t39, t40, t41, t42, t43, t44, t45, t46, t47, t48, t49, t50, t51, t52, t53, t54, t55, t56, t57, t58, t59, t60, t61, t62, t63, t64, t65, t66, t67, t68, t69, t70, t71, t72, t73, t74, t75, t76, t77, t78, t79, t80, t81, t82, t83, t84, t85, t86, t87, t88, t89, t90, t91, t92, t93, t94, t95, t96, t97, t98, t99, t100, t101, t102, t103, t104, t105, t106, t107, t108, t109, t110, t111, t112, t113, t114, t115, t116, t117, t118, t119, t120, t121, t122, t123, t124, t125, t126, t127, t128, t129, t130, t131, t132, t133, t134, t135, t136, t137, t138, t139, t140, t141, t142, t143, t144, t145, t146, t147, t148, t149, t150, t151, t152, t153, t154, t155, t156, t157, t158, t159, t160, t161, t162, t163, t164, t165, t166, t167, t168, t169, t170, t171, t172, t173, t174, t175, t176, t177, t178, t179, t180, t181, t182, t183, t184, t185, t186, t187, t188, t189, t190, t191, t192, t193, t194, t195, t196, t197, t198, t199, t200, t201, t202, t203, t204, t205, t206, t207, t208, t209, t210, t211, t212, t213, t214, t215, t216, t217, t218, t219, t220, t221, t222, t223, t224, t225], []⟩ wr := by
  conv => arg 2; whnf
  obtain ⟨f4, hf4⟩ : ∃ f : Int → Int, Hid (∀ a, f a = a % 4) := ⟨fun a => a % 4, fun _ => rfl⟩
  have c4 : Hid (∀ a wq, Calls Try.prog 40 #[.int .i64 a, .int .i64 4] wq fun e w' => e = .returned (.int .i64 (f4 a)) ∧ w' = wq) := fun a wq => by
    rw [unhide hf4]
    exact within7_any a 4 wq (by omega) (by omega)
  have m00 : 0 ≤ f4 a0 := by rw [unhide hf4]; omega
  have m04 : f4 a0 < 4 := by rw [unhide hf4]; omega
  have m10 : 0 ≤ f4 a1 := by rw [unhide hf4]; omega
  have m14 : f4 a1 < 4 := by rw [unhide hf4]; omega
  have hv0 : IntKind.i64.wrap (1 + f4 a0) = 1 + f4 a0 := by rw [IntKind.wrap_i64]; omega
  have hv1 : IntKind.i64.wrap (1 + f4 a1) = 1 + f4 a1 := by rw [IntKind.wrap_i64]; omega
  rw [← unhide hf4 a0, ← unhide hf4 a1] at hQ
  have hQ' := hide hQ
  clear hQ
  go_region_held3 (fun x => x.cell? ⟨b, o + k * 4, none⟩ = some (.int .i64 a0) ∧ x.cell? ⟨b, o + k * 4 + 1, none⟩ = some (.int .i64 a1)) (go_keep) (first | (go_at_call 40; refine (unhide c4 _ _).mono ?_; rintro e wy ⟨rfl, hy⟩; subst wy))
  all_goals
    first
      | exact unhide hQ' _ _ _ _ _ _ _ _ _ _ _ _ _ _ _ _ _ (item_new (heap_alloc_new _ _)) (grown_alloc (grown_drew1 (World.grownBy.refl _ _)) _) (Nat.le_refl _)
      | (rw [hv0, hv1]
         exact unhide hQ' _ _ _ _ _ _ _ _ _ _ _ _ _ _ _ _ _ (item_new (blk_drew (heap_alloc_new _ _))) (grown_drew1 (World.grownBy_alloc _ _ none)) (Nat.le_refl _))

end Go.Proofs.Ytbploaihicakeaa

namespace Go.Proofs.Ytbploaihicakeaa
open Go.RowKit

set_option maxRecDepth 100000 in
set_option maxHeartbeats 12800000 in
theorem told_put (seat : Int) (s0 : 0 ≤ seat) (s4 : seat < 4) (kc : Nat) (hkc : kc < 384) (c : Nat → Int) (hkw : Gr.walkB (c kc) = true) (b o k nL cL gE gI B ob oo L cO X : Nat) (O : Nat → Nat) (hL0 : 0 < L) (hL4 : L ≤ 384) (hOw : ∀ i, i < L → O i < 384 ∧ Gr.walkB (c (O i)) = true) (a0 a1 a2 a3 wh : Int) (hwh : wh = 1 + a1 % 4) (wr wc : World) (hb : b < wr.heap.size) (hlt1 : (k : Int) < (nL : Int)) (q0 : wc.cell? ⟨b, o + k * 4, none⟩ = some (.int .i64 a0)) (q2 : wc.cell? ⟨b, o + k * 4 + 2, none⟩ = some (.int .i64 a2)) (q3 : wc.cell? ⟨b, o + k * 4 + 3, none⟩ = some (.int .i64 a3)) (hOx : Hid (Gd.Open wc ob oo L O B gE gI)) (hI : Hid (Lie wc X 57 4 (Ints (Gd.row (1 + a0 % 4) wh 0 0)))) (hgx : Hid (wr.grownBy wc none)) (hXn : Hid (wr.heap.size ≤ X)) (Q : Exit → Act → World → Prop) (t0 t1 t3 t5 t6 t7 t8 t9 t10 t11 t12 t13 t15 t17 t20 t21 t22 t23 t24 t25 t26 t27 t28 t29 t30 t31 t32 t33 t34 t35 t36 t37 t38 t39 t40 t41 t42 t43 t44 t45 t46 t47 t48 t49 t50 t51 t52 t53 t54 t55 t56 t57 t58 t59 t60 t61 t62 t63 t64 t65 t66 t67 t68 t69 t70 t71 t72 t73 t74 t75 t76 t77 t78 t79 t80 t81 t82 t83 t84 t85 t86 t87 t88 t89 t90 t91 t92 t93 t94 t95 t96 t97 t98 t99 t100 t101 t102 t103 t104 t105 t106 t107 t108 t109 t110 t111 t112 t113 t114 t115 t116 t117 t118 t119 t120 t122 t123 t124 t125 t126 t127 t128 t129 t130 t131 t132 t133 t134 t135 t136 t137 t138 t139 t140 t141 t142 t143 t144 t145 t146 t147 t148 t149 t150 t151 t152 t153 t154 t155 t156 t157 t158 t159 t160 t161 t162 t163 t164 t165 t166 t167 t168 t169 t170 t171 t172 t173 t174 t175 t176 t177 t178 t179 t180 t181 t182 t183 t184 t185 t186 t187 t188 t189 t190 t191 t192 t193 t194 t195 t196 t197 t198 t199 t200 t201 t202 t203 t204 t205 t206 t207 t208 t209 t210 t211 t212 t213 t214 t215 t216 t217 t218 t219 t220 t221 t222 t223 t224 t225 : Value)
    (hQ : ∀ (kd a b' : Int) (w2 : World) (u20 u122 u123 u124 u125 u126 u127 u128 u129 u130 u131 u132 u133 u134 u135 u136 u137 u138 u139 u140 u141 u142 u143 u144 u145 u146 u147 u148 u149 u150 u151 u152 u153 u154 u155 u156 u157 u158 u159 u160 u161 u162 u163 u164 u165 u166 u167 u168 u169 u170 u171 u172 u173 u174 u175 u176 u177 u178 u179 u180 u181 u182 u183 u184 u185 u186 u187 u188 u189 u190 u191 u192 u193 u194 u195 u196 u197 u198 : Value), Hid (Lie w2 X 57 4 (Ints (Gd.row kd wh a b'))) → Hid (wr.grownBy w2 none) → Hid (Gd.Fit c kd wh a b') → Hid (a0 = 0 → a1 = 0 → a3 = 0 → kd = 1 ∧ wh = 1 ∧ a = (kc : Int) % 24 ∧ b' = (kc : Int) / 24) → Q .normal ⟨#[t0, t1, .int .i64 seat, t3, .slice (some ⟨b, o, none⟩) nL cL, t5, t6, t7, t8, t9, t10, t11, t12, t13, .slice (some ⟨ob, oo, none⟩) L cO, t15, .int .i64 (kc : Int), t17, .int .i64 (k : Int), .pointer (some ⟨X, 0, none⟩), u20, t21, t22, t23, t24, t25, t26, t27, t28, t29, t30, t31, t32, t33, t34, t35, t36, t37, t38, t39, t40, t41, t42, t43, t44, t45, t46, t47, t48, t49, t50, t51, t52, t53, t54, t55, t56, t57, t58, t59, t60, t61, t62, t63, t64, t65, t66, t67, t68, t69, t70, t71, t72, t73, t74, t75, t76, t77, t78, t79, t80, t81, t82, t83, t84, t85, t86, t87, t88, t89, t90, t91, t92, t93, t94, t95, t96, t97, t98, t99, t100, t101, t102, t103, t104, t105, t106, t107, t108, t109, t110, t111, t112, t113, t114, t115, t116, t117, t118, t119, t120, .int .i64 wh, u122, u123, u124, u125, u126, u127, u128, u129, u130, u131, u132, u133, u134, u135, u136, u137, u138, u139, u140, u141, u142, u143, u144, u145, u146, u147, u148, u149, u150, u151, u152, u153, u154, u155, u156, u157, u158, u159, u160, u161, u162, u163, u164, u165, u166, u167, u168, u169, u170, u171, u172, u173, u174, u175, u176, u177, u178, u179, u180, u181, u182, u183, u184, u185, u186, u187, u188, u189, u190, u191, u192, u193, u194, u195, u196, u197, u198, t199, t200, t201, t202, t203, t204, t205, t206, t207, t208, t209, t210, t211, t212, t213, t214, t215, t216, t217, t218, t219, t220, t221, t222, t223, t224, t225], []⟩ w2) :
    Code.wp Try.prog (csnd (cfst (csnd (cin (cfst (csnd (cin (cin (csnd (cfst ((Try.f23.body.map (cdrop 12)).getD .skip))))))))))) Q ⟨#[t0, t1, .int .i64 seat, t3, .slice (some ⟨b, o, none⟩) nL cL, t5, t6, t7, t8, t9, t10, t11, t12, t13, .slice (some ⟨ob, oo, none⟩) L cO, t15, .int .i64 (kc : Int), t17, .int .i64 (k : Int), .pointer (some ⟨X, 0, none⟩), t20, t21, t22, t23, t24, t25, t26, t27, t28, t29, t30, t31, t32, t33, t34, t35, t36, t37, t38, t39, t40, t41, t42, t43, t44, t45, t46, t47, t48, t49, t50, t51, t52, t53, t54, t55, t56, t57, t58, t59, t60, t61, t62, t63, t64, t65, t66, t67, t68, t69, t70, t71, t72, t73, t74, t75, t76, t77, t78, t79, t80, t81, t82, t83, t84, t85, t86, t87, t88, t89, t90, t91, t92, t93, t94, t95, t96, t97, t98, t99, t100, t101, t102, t103, t104, t105, t106, t107, t108, t109, t110, t111, t112, t113, t114, t115, t116, t117, t118, t119, t120, .int .i64 wh, t122, t123, t124, t125, t126, t127, t128, t129, t130, t131, t132, t133, t134, t135, t136, t137, t138, t139, t140, t141, t142, t143, t144, t145, t146, t147, t148, t149, t150, t151, t152, t153, t154, t155, t156, t157, t158, t159, t160, t161, t162, t163, t164, t165, t166, t167, t168, t169, t170, t171, t172, t173, t174, t175, t176, t177, t178, t179, t180, t181, t182, t183, t184, t185, t186, t187, t188, t189, t190, t191, t192, t193, t194, t195, t196, t197, t198, t199, t200, t201, t202, t203, t204, t205, t206, t207, t208, t209, t210, t211, t212, t213, t214, t215, t216, t217, t218, t219, t220, t221, t222, t223, t224, t225], []⟩ wc := by
  conv => arg 2; whnf
  obtain ⟨f4, hf4⟩ : ∃ f : Int → Int, Hid (∀ a, f a = a % 4) := ⟨fun a => a % 4, fun _ => rfl⟩
  have c4 : Hid (∀ a wq, Calls Try.prog 40 #[.int .i64 a, .int .i64 4] wq fun e w' => e = .returned (.int .i64 (f4 a)) ∧ w' = wq) := fun a wq => by
    rw [unhide hf4]
    exact within7_any a 4 wq (by omega) (by omega)
  rw [← unhide hf4 a0] at hI
  rw [← unhide hf4 a1] at hwh
  have hOw' := hide hOw
  have hQ' := hide hQ
  clear hOw hQ
  have m00 : 0 ≤ f4 a0 := by rw [unhide hf4]; omega
  have m04 : f4 a0 < 4 := by rw [unhide hf4]; omega
  have m10 : 0 ≤ f4 a1 := by rw [unhide hf4]; omega
  have m14 : f4 a1 < 4 := by rw [unhide hf4]; omega
  have hne : X ≠ b := by have := unhide hXn; omega
  have hne2 : b ≠ X := by have := unhide hXn; omega
  have hwm : Hid (a1 = 0 → wh = 1) := fun h => by
    rw [unhide hf4] at hwh
    omega
  have hw1 : 1 ≤ wh := by omega
  have hw4 : wh ≤ 4 := by omega
  obtain ⟨x0, x1, x2, x3⟩ := item_cells (unhide hI)
  have fX := (unhide hI).free
  clear hwh x1
  rcases (show wh = 1 ∨ wh = 2 ∨ wh = 3 ∨ wh = 4 by omega) with rfl | rfl | rfl | rfl
  · obtain ⟨J, hJ⟩ : ∃ J : Nat, a2 % (L : Int) = (J : Int) := ⟨(a2 % (L : Int)).toNat, (Int.toNat_of_nonneg (Int.emod_nonneg _ (by omega))).symm⟩
    have hJL : J < L := by
      have := Int.emod_lt_of_pos a2 (b := (L : Int)) (by omega)
      omega
    have cJ : Hid (∀ wq, Calls Try.prog 40 #[.int .i64 a2, .int .i64 (L : Int)] wq fun e w' => e = .returned (.int .i64 (J : Int)) ∧ w' = wq) := fun wq => by
      have h := within7_any a2 (L : Int) wq (by omega) (by omega)
      rw [hJ] at h
      exact h
    have qJ := (unhide hOx).cell J hJL
    have hqw0 := unhide hOw' J hJL
    obtain ⟨q, hq⟩ : ∃ q, O J = q := ⟨_, rfl⟩
    rw [hq] at qJ hqw0
    have hqw := hide hqw0
    have hJi : (J : Int) < (L : Int) := by omega
    have hkd : Hid (1 ≤ 1 + f4 a0 ∧ 1 + f4 a0 ≤ 4) := by
      show _ ∧ _
      omega
    have hkz : Hid (a0 = 0 → 1 + f4 a0 = 1) := fun h => by
      rw [unhide hf4, h]
      rfl
    have hgq : Hid (∀ v1 v2, wr.grownBy ((wc.setCell ⟨X, 2, none⟩ v1).setCell ⟨X, 3, none⟩ v2) none) := fun v1 v2 => grown_own (unhide hgx) (grown_trans (grown_set0 wc X 2 v1) (grown_set0 _ X 3 v2)) (fun n e => by cases e; exact unhide hXn)
    have hkw' := hide (And.intro hkc hkw)
    have hz : (0 : Int).tmod 2 = 0 := rfl
    have hz' := hide hz
    have hk3 : (kc : Int) < 384 := by omega
    have hq3 : (q : Int) < 384 := by
      have := hqw0.1
      omega
    clear hJL hq hqw0 hJ hkc hkw hz m00 m04 m10 m14
    by_cases hev : a3.tmod 2 = 0
    · have hq1 : (kc : Int).tmod 24 = (kc : Int) % 24 := Int.tmod_eq_emod_of_nonneg (by omega)
      have hq2 : (kc : Int).tdiv 24 = (kc : Int) / 24 := Int.tdiv_eq_ediv_of_nonneg (by omega)
      go_wp2_with fail
      refine (unhide cJ _).mono ?_
      rintro e wy ⟨rfl, hy⟩
      subst wy
      go_wp2_with fail
      exact unhide hQ' _ _ _ _ _ _ _ _ _ _ _ _ _ _ _ _ _ _ _ _ _ _ _ _ _ _ _ _ _ _ _ _ _ _ _ _ _ _ _ _ _ _ _ _ _ _ _ _ _ _ _ _ _ _ _ _ _ _ _ _ _ _ _ _ _ _ _ _ _ _ _ _ _ _ _ _ _ _ _ _ _ _ (item_b (item_a (unhide hI))) (unhide hgq _ _) (Gd.fit_cell (unhide hkd).1 (unhide hkd).2 (unhide hkw').1 (unhide hkw').2) (fun h0 _ _ => ⟨unhide hkz h0, by simp, by simp, by simp⟩)
    · have hq1 : (q : Int).tmod 24 = (q : Int) % 24 := Int.tmod_eq_emod_of_nonneg (by omega)
      have hq2 : (q : Int).tdiv 24 = (q : Int) / 24 := Int.tdiv_eq_ediv_of_nonneg (by omega)
      have hev' : (a3.tmod 2 == 0) = false := by simp [hev]
      have hevh := hide hev
      clear hev
      go_wp2_with fail
      refine (unhide cJ _).mono ?_
      rintro e wy ⟨rfl, hy⟩
      subst wy
      go_wp2_with fail
      exact unhide hQ' _ _ _ _ _ _ _ _ _ _ _ _ _ _ _ _ _ _ _ _ _ _ _ _ _ _ _ _ _ _ _ _ _ _ _ _ _ _ _ _ _ _ _ _ _ _ _ _ _ _ _ _ _ _ _ _ _ _ _ _ _ _ _ _ _ _ _ _ _ _ _ _ _ _ _ _ _ _ _ _ _ _ (item_b (item_a (unhide hI))) (unhide hgq _ _) (Gd.fit_cell (unhide hkd).1 (unhide hkd).2 (unhide hqw).1 (unhide hqw).2) (fun _ _ h3 => absurd (by rw [h3]; exact unhide hz') (unhide hevh))
  · have hno : Hid (a1 ≠ 0) := fun h => absurd (unhide hwm h) (by omega)
    have n20 : 0 ≤ f4 a2 ∧ f4 a2 < 4 := by rw [unhide hf4]; omega
    have n30 : 0 ≤ f4 a3 ∧ f4 a3 < 4 := by rw [unhide hf4]; omega
    have hft : Hid (∀ a, 0 ≤ a → a < 4 → Gd.Fit c (1 + f4 a0) 2 a (f4 a3)) := fun a h1 h2 => ⟨by omega, by omega, .inr (.inl ⟨rfl, h1, h2, n30.1, n30.2⟩)⟩
    have hft2 := hide (unhide hft _ n20.1 n20.2)
    have hft3 := hide (unhide hft _ s0 s4)
    have hlb : Hid (b < wc.heap.size) := Nat.lt_of_lt_of_le hb (unhide hgx).size
    clear n20 n30 m00 m04 m10 m14 hft hkc hkw
    go_upto_region 28 with fail
    go_cut [] from 122 to 198 (fun wx => Hid (Lie wx X 57 4 (Ints (Gd.row (1 + f4 a0) 2 (f4 a2) (f4 a3)))) ∧ Hid (wc.grownBy wx (some X)))
    case first =>
      go_region_held3 (fun x => x.cell? ⟨b, o + k * 4 + 2, none⟩ = some (.int .i64 a2) ∧ x.cell? ⟨b, o + k * 4 + 3, none⟩ = some (.int .i64 a3)) (go_keep) (first | (go_at_call 40; refine (unhide c4 _ _).mono ?_; rintro e wy ⟨rfl, hy⟩; subst wy))
      all_goals
        go_wp2_with fail
        go_meet
        first
          | exact ⟨(item_b (item_a (unhide hI))).on (grown_drew1 (World.grownBy.refl _ _)), grown_drew1 (grown_trans (grown_set0 wc X 2 _) (grown_set0 _ X 3 _))⟩
          | exact ⟨(item_a (item_b (unhide hI))).on (grown_drew1 (World.grownBy.refl _ _)), grown_drew1 (grown_trans (grown_set0 wc X 3 _) (grown_set0 _ X 2 _))⟩
          | exact ⟨item_b (item_a ((unhide hI).on (grown_drew1 (World.grownBy.refl _ _)))), grown_trans (grown_trans (grown_drew1 (World.grownBy.refl _ _)) (grown_set0 _ X 2 _)) (grown_set0 _ X 3 _)⟩
    case rest =>
      obtain ⟨hIn, hgn⟩ := hcut
      have z2 := (grown_cell (unhide hgn) b _ (unhide hlb) (by simpa using hne)).trans q2
      obtain ⟨y0, y1, y2, y3⟩ := item_cells (unhide hIn)
      have fY := (unhide hIn).free
      have hgm : Hid (wr.grownBy wc none) := grown_own (unhide hgx) (unhide hgn) (fun n e => by cases e; exact unhide hXn)
      have hgq : Hid (∀ v1, wr.grownBy (wc.setCell ⟨X, 2, none⟩ v1) none) := fun v1 => grown_own (unhide hgm) (grown_set0 wc X 2 v1) (fun n e => by cases e; exact unhide hXn)
      clear q0 q2 q3 x0 x2 x3 fX
      by_cases hev : a2.tmod 2 = 0
      · go_wp2_with fail
        exact unhide hQ' _ _ _ _ _ _ _ _ _ _ _ _ _ _ _ _ _ _ _ _ _ _ _ _ _ _ _ _ _ _ _ _ _ _ _ _ _ _ _ _ _ _ _ _ _ _ _ _ _ _ _ _ _ _ _ _ _ _ _ _ _ _ _ _ _ _ _ _ _ _ _ _ _ _ _ _ _ _ _ _ _ _ (item_a (unhide hIn)) (unhide hgq _) (unhide hft3) (fun _ h _ => absurd h (unhide hno))
      · have hev' : (a2.tmod 2 == 0) = false := by simp [hev]
        clear hev
        go_wp2_with fail
        exact unhide hQ' _ _ _ _ _ _ _ _ _ _ _ _ _ _ _ _ _ _ _ _ _ _ _ _ _ _ _ _ _ _ _ _ _ _ _ _ _ _ _ _ _ _ _ _ _ _ _ _ _ _ _ _ _ _ _ _ _ _ _ _ _ _ _ _ _ _ _ _ _ _ _ _ _ _ _ _ _ _ _ _ _ _ (unhide hIn) (unhide hgm) (unhide hft2) (fun _ h _ => absurd h (unhide hno))
  · have hno : Hid (a1 ≠ 0) := fun h => absurd (unhide hwm h) (by omega)
    obtain ⟨n0, hn0⟩ : ∃ m, a0 % 2 = m := ⟨_, rfl⟩
    have b0 : 0 ≤ n0 := by omega
    have b1 : n0 < 2 := by omega
    have c2 : Hid (∀ wq, Calls Try.prog 40 #[.int .i64 a0, .int .i64 2] wq fun e w' => e = .returned (.int .i64 n0) ∧ w' = wq) := fun wq => by
      have h := within7_any a0 2 wq (by omega) (by omega)
      rw [hn0] at h
      exact h
    have hft : Hid (∀ v, v = n0 → Gd.Fit c (2 + n0) 3 seat v) := fun v hv => ⟨by omega, by omega, .inr (.inr (.inl ⟨rfl, s0, s4, by omega⟩))⟩
    have hgq : Hid (∀ v1 v2 v3, wr.grownBy (((wc.setCell ⟨X, 0, none⟩ v1).setCell ⟨X, 2, none⟩ v2).setCell ⟨X, 3, none⟩ v3) none) := fun v1 v2 v3 => grown_own (unhide hgx) (grown_trans (grown_trans (grown_set0 wc X 0 v1) (grown_set0 _ X 2 v2)) (grown_set0 _ X 3 v3)) (fun n e => by cases e; exact unhide hXn)
    clear hn0 m00 m04 m10 m14 hkc hkw
    go_wp2_with fail
    refine (unhide c2 _).mono ?_
    rintro e wy ⟨rfl, hy⟩
    subst wy
    go_wp2_with fail
    exact unhide hQ' _ _ _ _ _ _ _ _ _ _ _ _ _ _ _ _ _ _ _ _ _ _ _ _ _ _ _ _ _ _ _ _ _ _ _ _ _ _ _ _ _ _ _ _ _ _ _ _ _ _ _ _ _ _ _ _ _ _ _ _ _ _ _ _ _ _ _ _ _ _ _ _ _ _ _ _ _ _ _ _ _ _ (item_b (item_a (item_k (unhide hI)))) (unhide hgq _ _ _) (unhide hft _ (by omega)) (fun _ h _ => absurd h (unhide hno))
  · have hno : Hid (a1 ≠ 0) := fun h => absurd (unhide hwm h) (by omega)
    obtain ⟨n2, hn2⟩ : ∃ m, a2 % 3 = m := ⟨_, rfl⟩
    have b0 : 0 ≤ n2 := by omega
    have b1 : n2 < 3 := by omega
    have c3 : Hid (∀ wq, Calls Try.prog 40 #[.int .i64 a2, .int .i64 3] wq fun e w' => e = .returned (.int .i64 n2) ∧ w' = wq) := fun wq => by
      have h := within7_any a2 3 wq (by omega) (by omega)
      rw [hn2] at h
      exact h
    have hft : Hid (Gd.Fit c (1 + f4 a0) 4 n2 0) := ⟨by omega, by omega, .inr (.inr (.inr ⟨rfl, b0, b1, rfl⟩))⟩
    have hgq : Hid (∀ v1, wr.grownBy (wc.setCell ⟨X, 2, none⟩ v1) none) := fun v1 => grown_own (unhide hgx) (grown_set0 wc X 2 v1) (fun n e => by cases e; exact unhide hXn)
    clear hn2 m00 m04 m10 m14 hkc hkw
    go_wp2_with fail
    refine (unhide c3 _).mono ?_
    rintro e wy ⟨rfl, hy⟩
    subst wy
    go_wp2_with fail
    exact unhide hQ' _ _ _ _ _ _ _ _ _ _ _ _ _ _ _ _ _ _ _ _ _ _ _ _ _ _ _ _ _ _ _ _ _ _ _ _ _ _ _ _ _ _ _ _ _ _ _ _ _ _ _ _ _ _ _ _ _ _ _ _ _ _ _ _ _ _ _ _ _ _ _ _ _ _ _ _ _ _ _ _ _ _ (item_a (unhide hI)) (unhide hgq _) (unhide hft) (fun _ h _ => absurd h (unhide hno))

end Go.Proofs.Ytbploaihicakeaa

namespace Go.Proofs.Ytbploaihicakeaa
open Go.RowKit

set_option maxRecDepth 100000 in
set_option maxHeartbeats 12800000 in
theorem told_tail (w : World) (k R B gC gE gI ob oo L X nL kc : Nat) (O : Nat → Nat) (s g c : Nat → Int) (E I M : Nat → Nat → Int) (kd wh a b' a0 a1 a3 : Int) (hw1 : 1 ≤ wh) (wr wc : World) (HL : Hid (k < min nL 20)) (hlt2 : (k : Int) < 20) (hX : Hid (Gd.Laid w wr R B gC gE gI s g c E I)) (hO : Hid (Gd.Open wr ob oo L O B gE gI)) (hOk : Hid (Gd.Ok c 40 I)) (hKn : Hid (Gd.Known k kc M I)) (he : Hid (M k 0 = a0 ∧ M k 1 = a1 ∧ M k 3 = a3)) (hXn : Hid (wr.heap.size ≤ X)) (hI2 : Hid (Lie wc X 57 4 (Ints (Gd.row kd wh a b')))) (hg2 : Hid (wr.grownBy wc none)) (hfit : Hid (Gd.Fit c kd wh a b')) (hex : Hid (a0 = 0 → a1 = 0 → a3 = 0 → kd = 1 ∧ wh = 1 ∧ a = (kc : Int) % 24 ∧ b' = (kc : Int) / 24)) (Q : Exit → Act → World → Prop) (t0 t1 t2 t3 t4 t5 t6 t7 t8 t9 t10 t11 t12 t14 t15 t16 t17 t20 t21 t22 t23 t24 t25 t26 t27 t28 t29 t30 t31 t32 t33 t34 t35 t36 t37 t38 t39 t40 t41 t42 t43 t44 t45 t46 t47 t48 t49 t50 t51 t52 t53 t54 t55 t56 t57 t58 t59 t60 t61 t62 t63 t64 t65 t66 t67 t68 t69 t70 t71 t72 t73 t74 t75 t76 t77 t78 t79 t80 t81 t82 t83 t84 t85 t86 t87 t88 t89 t90 t91 t92 t93 t94 t95 t96 t97 t98 t99 t100 t101 t102 t103 t104 t105 t106 t107 t108 t109 t110 t111 t112 t113 t114 t115 t116 t117 t118 t119 t120 t121 t122 t123 t124 t125 t126 t127 t128 t129 t130 t131 t132 t133 t134 t135 t136 t137 t138 t139 t140 t141 t142 t143 t144 t145 t146 t147 t148 t149 t150 t151 t152 t153 t154 t155 t156 t157 t158 t159 t160 t161 t162 t163 t164 t165 t166 t167 t168 t169 t170 t171 t172 t173 t174 t175 t176 t177 t178 t179 t180 t181 t182 t183 t184 t185 t186 t187 t188 t189 t190 t191 t192 t193 t194 t195 t196 t197 t198 t199 t200 t201 t202 t203 t204 t205 t206 t207 t208 t209 t210 t211 t212 t213 t214 t215 t216 t217 t218 t219 t220 t221 t222 t223 t224 t225 : Value)
    (hQ : ∀ (J : Nat → Nat → Int) (w2 : World) (u199 u200 u201 u202 u203 u204 u205 u206 u207 u208 u209 u210 u211 u212 u213 u214 u215 u216 u217 u218 u219 u220 u221 u222 u223 u224 : Value), Hid (Gd.Laid w w2 R B gC gE gI s g c E J) → Hid (Gd.Open w2 ob oo L O B gE gI) → Hid (Gd.Ok c 40 J) → Hid (Gd.Known (k + 1) kc M J) → Q .normal ⟨#[t0, t1, t2, t3, t4, t5, t6, t7, t8, t9, t10, t11, t12, .pointer (some ⟨B, 0, none⟩), t14, t15, t16, t17, .int .i64 (k : Int), .pointer (some ⟨X, 0, none⟩), t20, t21, t22, t23, t24, t25, t26, t27, t28, t29, t30, t31, t32, t33, t34, t35, t36, t37, t38, t39, t40, t41, t42, t43, t44, t45, t46, t47, t48, t49, t50, t51, t52, t53, t54, t55, t56, t57, t58, t59, t60, t61, t62, t63, t64, t65, t66, t67, t68, t69, t70, t71, t72, t73, t74, t75, t76, t77, t78, t79, t80, t81, t82, t83, t84, t85, t86, t87, t88, t89, t90, t91, t92, t93, t94, t95, t96, t97, t98, t99, t100, t101, t102, t103, t104, t105, t106, t107, t108, t109, t110, t111, t112, t113, t114, t115, t116, t117, t118, t119, t120, t121, t122, t123, t124, t125, t126, t127, t128, t129, t130, t131, t132, t133, t134, t135, t136, t137, t138, t139, t140, t141, t142, t143, t144, t145, t146, t147, t148, t149, t150, t151, t152, t153, t154, t155, t156, t157, t158, t159, t160, t161, t162, t163, t164, t165, t166, t167, t168, t169, t170, t171, t172, t173, t174, t175, t176, t177, t178, t179, t180, t181, t182, t183, t184, t185, t186, t187, t188, t189, t190, t191, t192, t193, t194, t195, t196, t197, t198, u199, u200, u201, u202, u203, u204, u205, u206, u207, u208, u209, u210, u211, u212, u213, u214, u215, u216, u217, u218, u219, u220, u221, u222, u223, u224, t225], []⟩ w2) :
    Code.wp Try.prog (csnd (csnd (cin (cfst (csnd (cin (cin (csnd (cfst ((Try.f23.body.map (cdrop 12)).getD .skip)))))))))) Q ⟨#[t0, t1, t2, t3, t4, t5, t6, t7, t8, t9, t10, t11, t12, .pointer (some ⟨B, 0, none⟩), t14, t15, t16, t17, .int .i64 (k : Int), .pointer (some ⟨X, 0, none⟩), t20, t21, t22, t23, t24, t25, t26, t27, t28, t29, t30, t31, t32, t33, t34, t35, t36, t37, t38, t39, t40, t41, t42, t43, t44, t45, t46, t47, t48, t49, t50, t51, t52, t53, t54, t55, t56, t57, t58, t59, t60, t61, t62, t63, t64, t65, t66, t67, t68, t69, t70, t71, t72, t73, t74, t75, t76, t77, t78, t79, t80, t81, t82, t83, t84, t85, t86, t87, t88, t89, t90, t91, t92, t93, t94, t95, t96, t97, t98, t99, t100, t101, t102, t103, t104, t105, t106, t107, t108, t109, t110, t111, t112, t113, t114, t115, t116, t117, t118, t119, t120, t121, t122, t123, t124, t125, t126, t127, t128, t129, t130, t131, t132, t133, t134, t135, t136, t137, t138, t139, t140, t141, t142, t143, t144, t145, t146, t147, t148, t149, t150, t151, t152, t153, t154, t155, t156, t157, t158, t159, t160, t161, t162, t163, t164, t165, t166, t167, t168, t169, t170, t171, t172, t173, t174, t175, t176, t177, t178, t179, t180, t181, t182, t183, t184, t185, t186, t187, t188, t189, t190, t191, t192, t193, t194, t195, t196, t197, t198, t199, t200, t201, t202, t203, t204, t205, t206, t207, t208, t209, t210, t211, t212, t213, t214, t215, t216, t217, t218, t219, t220, t221, t222, t223, t224, t225], []⟩ wc := by
  conv => arg 2; whnf
  have hQ' := hide hQ
  clear hQ
  have fX := (unhide hI2).free
  obtain ⟨m, hm⟩ : ∃ m : Nat, m = 2 * k := ⟨_, rfl⟩
  have hm2 := hide hm
  have hm40 : Hid (m < 40) := by
    show m < 40
    have := unhide HL
    omega
  have hmk : (2 * (k : Int)) % 40 = (m : Int) := by omega
  have hmt : (2 * (k : Int)).tmod 40 = (m : Int) := by rw [Int.tmod_eq_emod_of_nonneg (by omega)]; exact hmk
  have hmi : (m : Int) < 40 := by omega
  have hex2 : Hid (M k 0 = 0 → M k 1 = 0 → M k 3 = 0 → kd = 1 ∧ wh = 1 ∧ a = (kc : Int) % 24 ∧ b' = (kc : Int) / 24) := by
    obtain ⟨e0, e1, e3⟩ := unhide he
    intro h0 h1 h3
    exact unhide hex (by rw [← e0]; exact h0) (by rw [← e1]; exact h1) (by rw [← e3]; exact h3)
  have hwne : Hid (wh ≠ 0) := by
    show wh ≠ 0
    omega
  clear hm hex he
  by_cases h4 : kd = 4
  · by_cases hw : wh = 1
    · have hpl := hide ((unhide hfit).placed (fun _ => hw))
      subst h4
      subst hw
      have hexz : Hid (¬ (M k 0 = 0 ∧ M k 1 = 0 ∧ M k 3 = 0)) := fun ⟨h0, h1, h3⟩ => absurd (unhide hex2 h0 h1 h3).1 (by omega)
      clear hfit hex2
      have hXz := hide ((unhide hX).on (unhide hg2))
      have hOz := hide ((unhide hO).on (unhide hg2))
      obtain ⟨x0, x1, x2, x3⟩ := item_cells (unhide hI2)
      have q6 := (unhide hXz).hold.box.eleven.2.2.2.2.2.2.1
      have fI := (unhide hXz).hold.lists.items.free
      obtain ⟨u0, u1, u2, u3⟩ := (unhide hXz).hold.lists.its.row (unhide hm40)
      have cin := hide (refIn7_same gI 40 40 I 1 a b' wc (unhide hXz).hold.lists.its)
      obtain ⟨f, hf⟩ : ∃ f, Gd.find I 40 1 a b' = f := ⟨_, rfl⟩
      rw [hf] at cin
      have hf' := hide hf
      clear hf
      go_wp2_with fail
      refine (unhide cin).mono ?_
      rintro e wy ⟨rfl, hy⟩
      subst wy
      clear cin
      by_cases hneg : f < 0
      · have hfin : Hid (Gd.Laid w _ R B gC gE gI s g c E _) := (unhide hXz).put m 4 1 a b'
        have hopn := hide ((unhide hOz).put m (.int .i64 4) (.int .i64 1) (.int .i64 a) (.int .i64 b'))
        have hok := hide (Gd.ok_tell (m := m) (unhide hOk) (unhide hpl) (by rw [unhide hf']; exact hneg))
        have hkn := hide (Gd.known_yes (kd := 4) (wh := 1) (a := a) (b := b') (unhide hKn) (unhide hm2) (fun h0 h1 h3 => (unhide hexz ⟨h0, h1, h3⟩).elim))
        go_wp2_with fail
        exact unhide hQ' _ _ _ _ _ _ _ _ _ _ _ _ _ _ _ _ _ _ _ _ _ _ _ _ _ _ _ _ hfin hopn hok hkn
      · have hkn := hide (Gd.known_no (unhide hKn) (by rw [unhide hf']; exact hneg) (unhide hwne))
        go_wp2_with fail
        exact unhide hQ' _ _ _ _ _ _ _ _ _ _ _ _ _ _ _ _ _ _ _ _ _ _ _ _ _ _ _ _ hXz hOz hOk hkn
    · subst h4
      have hpl := hide ((unhide hfit).mend hw)
      have hexz : Hid (¬ (M k 0 = 0 ∧ M k 1 = 0 ∧ M k 3 = 0)) := fun ⟨h0, h1, h3⟩ => absurd (unhide hex2 h0 h1 h3).1 (by omega)
      have hwb : (wh == 1) = false := by simp [hw]
      obtain ⟨x0, x1, x2, x3⟩ := item_cells (unhide hI2)
      have hIz := hide (item_k (a' := 1) (unhide hI2))
      have hgz : Hid (wr.grownBy (wc.setCell ⟨X, 0, none⟩ (.int .i64 1)) none) := grown_own (unhide hg2) (grown_set0 wc X 0 _) (fun n e => by cases e; exact unhide hXn)
      clear hfit hex2
      go_upto_region 38 with fail
      generalize wc.setCell ⟨X, 0, none⟩ (.int .i64 1) = wz at hIz hgz ⊢
      clear x0 x1 x2 x3
      have hXz := hide ((unhide hX).on (unhide hgz))
      have hOz := hide ((unhide hO).on (unhide hgz))
      obtain ⟨x0, x1, x2, x3⟩ := item_cells (unhide hIz)
      have q6 := (unhide hXz).hold.box.eleven.2.2.2.2.2.2.1
      have fI := (unhide hXz).hold.lists.items.free
      obtain ⟨u0, u1, u2, u3⟩ := (unhide hXz).hold.lists.its.row (unhide hm40)
      have cin := hide (refIn7_same gI 40 40 I wh a b' wz (unhide hXz).hold.lists.its)
      obtain ⟨f, hf⟩ : ∃ f, Gd.find I 40 wh a b' = f := ⟨_, rfl⟩
      rw [hf] at cin
      have hf' := hide hf
      clear hf
      go_wp2_with fail
      refine (unhide cin).mono ?_
      rintro e wy ⟨rfl, hy⟩
      subst wy
      clear cin
      by_cases hneg : f < 0
      · have hfin : Hid (Gd.Laid w _ R B gC gE gI s g c E _) := (unhide hXz).put m 1 wh a b'
        have hopn := hide ((unhide hOz).put m (.int .i64 1) (.int .i64 wh) (.int .i64 a) (.int .i64 b'))
        have hok := hide (Gd.ok_tell (m := m) (unhide hOk) (unhide hpl) (by rw [unhide hf']; exact hneg))
        have hkn := hide (Gd.known_yes (kd := 1) (wh := wh) (a := a) (b := b') (unhide hKn) (unhide hm2) (fun h0 h1 h3 => (unhide hexz ⟨h0, h1, h3⟩).elim))
        go_wp2_with fail
        exact unhide hQ' _ _ _ _ _ _ _ _ _ _ _ _ _ _ _ _ _ _ _ _ _ _ _ _ _ _ _ _ hfin hopn hok hkn
      · have hkn := hide (Gd.known_no (unhide hKn) (by rw [unhide hf']; exact hneg) (unhide hwne))
        go_wp2_with fail
        exact unhide hQ' _ _ _ _ _ _ _ _ _ _ _ _ _ _ _ _ _ _ _ _ _ _ _ _ _ _ _ _ hXz hOz hOk hkn
  · have hpl := hide ((unhide hfit).placed (fun e => absurd e h4))
    have hkb : (kd == 4) = false := by simp [h4]
    clear hfit
    have hXz := hide ((unhide hX).on (unhide hg2))
    have hOz := hide ((unhide hO).on (unhide hg2))
    obtain ⟨x0, x1, x2, x3⟩ := item_cells (unhide hI2)
    have q6 := (unhide hXz).hold.box.eleven.2.2.2.2.2.2.1
    have fI := (unhide hXz).hold.lists.items.free
    obtain ⟨u0, u1, u2, u3⟩ := (unhide hXz).hold.lists.its.row (unhide hm40)
    have cin := hide (refIn7_same gI 40 40 I wh a b' wc (unhide hXz).hold.lists.its)
    obtain ⟨f, hf⟩ : ∃ f, Gd.find I 40 wh a b' = f := ⟨_, rfl⟩
    rw [hf] at cin
    have hf' := hide hf
    clear hf
    go_wp2_with fail
    refine (unhide cin).mono ?_
    rintro e wy ⟨rfl, hy⟩
    subst wy
    clear cin
    by_cases hneg : f < 0
    · have hfin : Hid (Gd.Laid w _ R B gC gE gI s g c E _) := (unhide hXz).put m kd wh a b'
      have hopn := hide ((unhide hOz).put m (.int .i64 kd) (.int .i64 wh) (.int .i64 a) (.int .i64 b'))
      have hok := hide (Gd.ok_tell (m := m) (unhide hOk) (unhide hpl) (by rw [unhide hf']; exact hneg))
      have hkn := hide (Gd.known_yes (unhide hKn) (unhide hm2) (unhide hex2))
      go_wp2_with fail
      exact unhide hQ' _ _ _ _ _ _ _ _ _ _ _ _ _ _ _ _ _ _ _ _ _ _ _ _ _ _ _ _ hfin hopn hok hkn
    · have hkn := hide (Gd.known_no (unhide hKn) (by rw [unhide hf']; exact hneg) (unhide hwne))
      go_wp2_with fail
      exact unhide hQ' _ _ _ _ _ _ _ _ _ _ _ _ _ _ _ _ _ _ _ _ _ _ _ _ _ _ _ _ hXz hOz hOk hkn

end Go.Proofs.Ytbploaihicakeaa

namespace Go.Proofs.Ytbploaihicakeaa
open Go.RowKit

set_option maxRecDepth 100000 in
set_option maxHeartbeats 12800000 in
theorem world_items (seat : Int) (s0 : 0 ≤ seat) (s4 : seat < 4) (kc : Nat) (hkc : kc < 384) (s g c : Nat → Int) (E : Nat → Nat → Int) (hkw : Gr.walkB (c kc) = true) (aL : Option Addr) (nL cL : Nat) (M : Nat → Nat → Int) (R B gC gE gI ob oo L cO : Nat) (O : Nat → Nat) (hL0 : 0 < L) (hL4 : L ≤ 384) (hOw : ∀ i, i < L → O i < 384 ∧ Gr.walkB (c (O i)) = true) (w x : World)
    (hM : Gd.Some w aL (min nL 20) M) (hX : Gd.Laid w x R B gC gE gI s g c E (fun _ _ => 0)) (hO : Gd.Open x ob oo L O B gE gI) (Q : Ending → World → Prop) (hQ : ∀ e w', Gd.Tells w s g c E kc nL M e w' → Q e w') (t0 t1 t3 t5 t6 t7 t8 t9 t10 t11 t15 t17 t18 t19 t20 t21 t22 t23 t24 t25 t26 t27 t28 t29 t30 t31 t32 t33 t34 t35 t36 t37 t38 t39 t40 t41 t42 t43 t44 t45 t46 t47 t48 t49 t50 t51 t52 t53 t54 t55 t56 t57 t58 t59 t60 t61 t62 t63 t64 t65 t66 t67 t68 t69 t70 t71 t72 t73 t74 t75 t76 t77 t78 t79 t80 t81 t82 t83 t84 t85 t86 t87 t88 t89 t90 t91 t92 t93 t94 t95 t96 t97 t98 t99 t100 t101 t102 t103 t104 t105 t106 t107 t108 t109 t110 t111 t112 t113 t114 t115 t116 t117 t118 t119 t120 t121 t122 t123 t124 t125 t126 t127 t128 t129 t130 t131 t132 t133 t134 t135 t136 t137 t138 t139 t140 t141 t142 t143 t144 t145 t146 t147 t148 t149 t150 t151 t152 t153 t154 t155 t156 t157 t158 t159 t160 t161 t162 t163 t164 t165 t166 t167 t168 t169 t170 t171 t172 t173 t174 t175 t176 t177 t178 t179 t180 t181 t182 t183 t184 t185 t186 t187 t188 t189 t190 t191 t192 t193 t194 t195 t196 t197 t198 t199 t200 t201 t202 t203 t204 t205 t206 t207 t208 t209 t210 t211 t212 t213 t214 t215 t216 t217 t218 t219 t220 t221 t222 t223 t224 t225 : Value) :
    Code.wp Try.prog ((Try.f23.body.map (cdrop 12)).getD .skip) (bodyPost Try.prog Try.f23 Q) ⟨#[t0, t1, .int .i64 seat, t3, .slice aL nL cL, t5, t6, t7, t8, t9, t10, t11, .pointer (some ⟨R, 0, none⟩), .pointer (some ⟨B, 0, none⟩), .slice (some ⟨ob, oo, none⟩) L cO, t15, .int .i64 (kc : Int), t17, t18, t19, t20, t21, t22, t23, t24, t25, t26, t27, t28, t29, t30, t31, t32, t33, t34, t35, t36, t37, t38, t39, t40, t41, t42, t43, t44, t45, t46, t47, t48, t49, t50, t51, t52, t53, t54, t55, t56, t57, t58, t59, t60, t61, t62, t63, t64, t65, t66, t67, t68, t69, t70, t71, t72, t73, t74, t75, t76, t77, t78, t79, t80, t81, t82, t83, t84, t85, t86, t87, t88, t89, t90, t91, t92, t93, t94, t95, t96, t97, t98, t99, t100, t101, t102, t103, t104, t105, t106, t107, t108, t109, t110, t111, t112, t113, t114, t115, t116, t117, t118, t119, t120, t121, t122, t123, t124, t125, t126, t127, t128, t129, t130, t131, t132, t133, t134, t135, t136, t137, t138, t139, t140, t141, t142, t143, t144, t145, t146, t147, t148, t149, t150, t151, t152, t153, t154, t155, t156, t157, t158, t159, t160, t161, t162, t163, t164, t165, t166, t167, t168, t169, t170, t171, t172, t173, t174, t175, t176, t177, t178, t179, t180, t181, t182, t183, t184, t185, t186, t187, t188, t189, t190, t191, t192, t193, t194, t195, t196, t197, t198, t199, t200, t201, t202, t203, t204, t205, t206, t207, t208, t209, t210, t211, t212, t213, t214, t215, t216, t217, t218, t219, t220, t221, t222, t223, t224, t225], []⟩ x := by
  conv => arg 2; whnf
  have hX' := hide hX
  have hO' := hide hO
  have hM' := hide hM
  have hOw' := hide hOw
  have hQ' := hide hQ
  clear hX hO hM hOw hQ
  go_wp2_with fail
  go_loopw [18] (fun vi wr => ∃ (k : Nat) (I : Nat → Nat → Int), k ≤ min nL 20 ∧ vi = .int .i64 (k : Int) ∧ Hid (Gd.Laid w wr R B gC gE gI s g c E I) ∧ Hid (Gd.Open wr ob oo L O B gE gI) ∧ Hid (Gd.Ok c 40 I) ∧ Hid (Gd.Known k kc M I)) (fun vi _ => 30 - (intOf vi).toNat)
  case atStart => exact ⟨0, _, by omega, rfl, hX', hO', Gd.ok_none c, fun _ => rfl, fun h => absurd h (by omega)⟩
  case round =>
    clear hX' hO'
    obtain ⟨k, I, hk, rfl, hX, hO, hOk, hKn⟩ := hrel
    by_cases hlt : k < min nL 20
    · have hg0 := (unhide hX).grown
      obtain ⟨b, o, rfl, hb, p0, p1, p2, p3⟩ := ((unhide hM').on hg0).row hlt
      have hlt1 : (k : Int) < (nL : Int) := by omega
      have hlt2 : (k : Int) < 20 := by omega
      have HL := hide hlt
      obtain ⟨a0, e0⟩ : ∃ a, M k 0 = a := ⟨_, rfl⟩
      obtain ⟨a1, e1⟩ : ∃ a, M k 1 = a := ⟨_, rfl⟩
      obtain ⟨a2, e2⟩ : ∃ a, M k 2 = a := ⟨_, rfl⟩
      obtain ⟨a3, e3⟩ : ∃ a, M k 3 = a := ⟨_, rfl⟩
      rw [e0] at p0
      rw [e1] at p1
      rw [e2] at p2
      rw [e3] at p3
      have he := hide (And.intro e0 (And.intro e1 e3))
      clear hlt hk hg0 e0 e1 e2 e3
      go_upto_region 20 with fail
      refine told_new a0 a1 b o k nL cL wr hb hlt1 p0 p1 _ _ _ _ _ _ _ _ _ _ _ _ _ _ _ _ _ _ _ _ _ _ _ _ _ _ _ _ _ _ _ _ _ _ _ _ _ _ _ _ _ _ _ _ _ _ _ _ _ _ _ _ _ _ _ _ _ _ _ _ _ _ _ _ _ _ _ _ _ _ _ _ _ _ _ _ _ _ _ _ _ _ _ _ _ _ _ _ _ _ _ _ _ _ _ _ _ _ _ _ _ _ _ _ _ _ _ _ _ _ _ _ _ _ _ _ _ _ _ _ _ _ _ _ _ _ _ _ _ _ _ _ _ _ _ _ _ _ _ _ _ _ _ _ _ _ _ _ _ _ _ _ _ _ _ _ _ _ _ _ _ _ _ _ _ _ _ _ _ _ _ _ _ _ _ _ _ _ _ _ _ _ _ _ _ _ _ _ _ _ _ _ _ _ _ _ _ _ _ _ _ _ _ _ _ _ _ _ _ _ _ _ _ _ _ _ _ _ _ _ _ _ _ _ _ ?_
      intro X wc v105 v106 v107 v108 v109 v110 v111 v112 v113 v114 v115 v116 v117 v118 v119 hI hgx hXn
      have q0 := (grown_cell (unhide hgx) b _ hb (by simp)).trans p0
      have q2 := (grown_cell (unhide hgx) b _ hb (by simp)).trans p2
      have q3 := (grown_cell (unhide hgx) b _ hb (by simp)).trans p3
      have hOx := hide ((unhide hO).on (unhide hgx))
      obtain ⟨wh, hwh⟩ : ∃ wh, wh = 1 + a1 % 4 := ⟨_, rfl⟩
      have hw1 : 1 ≤ wh := by omega
      rw [← hwh] at hI
      have x1 := (item_cells (unhide hI)).2.1
      have hwh' := hide hwh
      clear p0 p1 p2 p3 hwh
      go_upto_block 4 with fail
      rename_i hKK
      have hK0 := hide hKK
      clear hKK
      refine told_put seat s0 s4 kc hkc c hkw b o k nL cL gE gI B ob oo L cO X O hL0 hL4 (unhide hOw') a0 a1 a2 a3 wh (unhide hwh') wr wc hb hlt1 q0 q2 q3 hOx hI hgx hXn _ _ _ _ _ _ _ _ _ _ _ _ _ _ _ _ _ _ _ _ _ _ _ _ _ _ _ _ _ _ _ _ _ _ _ _ _ _ _ _ _ _ _ _ _ _ _ _ _ _ _ _ _ _ _ _ _ _ _ _ _ _ _ _ _ _ _ _ _ _ _ _ _ _ _ _ _ _ _ _ _ _ _ _ _ _ _ _ _ _ _ _ _ _ _ _ _ _ _ _ _ _ _ _ _ _ _ _ _ _ _ _ _ _ _ _ _ _ _ _ _ _ _ _ _ _ _ _ _ _ _ _ _ _ _ _ _ _ _ _ _ _ _ _ _ _ _ _ _ _ _ _ _ _ _ _ _ _ _ _ _ _ _ _ _ _ _ _ _ _ _ _ _ _ _ _ _ _ _ _ _ _ _ _ _ _ _ _ _ _ _ _ _ _ _ _ _ _ _ _ _ _ _ _ _ _ _ _ _ _ _ _ _ _ _ _ _ _ _ _ ?_
      intro kd a b' w2 v20 v122 v123 v124 v125 v126 v127 v128 v129 v130 v131 v132 v133 v134 v135 v136 v137 v138 v139 v140 v141 v142 v143 v144 v145 v146 v147 v148 v149 v150 v151 v152 v153 v154 v155 v156 v157 v158 v159 v160 v161 v162 v163 v164 v165 v166 v167 v168 v169 v170 v171 v172 v173 v174 v175 v176 v177 v178 v179 v180 v181 v182 v183 v184 v185 v186 v187 v188 v189 v190 v191 v192 v193 v194 v195 v196 v197 v198 hI2 hg2 hfit hex
      refine unhide hK0 _ _ (told_tail w k R B gC gE gI ob oo L X nL kc O s g c E I M kd wh a b' a0 a1 a3 hw1 wr w2 HL hlt2 hX hO hOk hKn he hXn hI2 hg2 hfit hex _ _ _ _ _ _ _ _ _ _ _ _ _ _ _ _ _ _ _ _ _ _ _ _ _ _ _ _ _ _ _ _ _ _ _ _ _ _ _ _ _ _ _ _ _ _ _ _ _ _ _ _ _ _ _ _ _ _ _ _ _ _ _ _ _ _ _ _ _ _ _ _ _ _ _ _ _ _ _ _ _ _ _ _ _ _ _ _ _ _ _ _ _ _ _ _ _ _ _ _ _ _ _ _ _ _ _ _ _ _ _ _ _ _ _ _ _ _ _ _ _ _ _ _ _ _ _ _ _ _ _ _ _ _ _ _ _ _ _ _ _ _ _ _ _ _ _ _ _ _ _ _ _ _ _ _ _ _ _ _ _ _ _ _ _ _ _ _ _ _ _ _ _ _ _ _ _ _ _ _ _ _ _ _ _ _ _ _ _ _ _ _ _ _ _ _ _ _ _ _ _ _ _ _ _ _ _ _ _ _ _ _ _ _ _ _ _ _ _ _ _ _ _ _ ?_)
      intro J w3 v199 v200 v201 v202 v203 v204 v205 v206 v207 v208 v209 v210 v211 v212 v213 v214 v215 v216 v217 v218 v219 v220 v221 v222 v223 v224 hX3 hO3 hOk3 hKn3
      clear hX hO hOk hKn hI hI2 hgx hg2 hfit hex q0 q2 q3 x1 hOx
      go_wp2
      go_roundw
      case rel => exact ⟨k + 1, _, by have := unhide HL; omega, by go_num, hX3, hO3, hOk3, hKn3⟩
      case measure => simp [intOf]; omega
    · have hkk : min nL 20 = k := by omega
      obtain ⟨b0, b1, b2, b3, b4, b5, b6, b7, b8, b9, b10⟩ := (unhide hX).hold.box.eleven
      have fz := (unhide hX).res.free
      obtain ⟨z0, z1, z2, z3, z4, z5, z6, z7, z8, z9, z10⟩ := Gd.res_cells (unhide hX).res
      have hfin := hide (fun vs => (unhide hX).worlds vs)
      by_cases hn : nL ≤ 20
      · have hge : ¬ (k : Int) < (nL : Int) := by omega
        have hkk' := hide hkk
        clear hlt hk hkk hn
        go_wp2
        refine bodyPost_ret (v := .agg (Gd.world s gC gE gI 384 32 40 g)) (by simp [results, Try.results23, go_sem, Gd.world, z0, z1, z2, z3, z4, z5, z6, z7, z8, z9, z10]) rfl ?_
        exact unhide hQ' _ _ ⟨I, unhide hfin [_, _, _, _, _, _, _, _, _, _, _], hOk, by rw [unhide hkk']; exact unhide hKn, _, _, _, _, _, rfl⟩
      · have hlt1 : (k : Int) < (nL : Int) := by omega
        have hge : ¬ (k : Int) < 20 := by omega
        have hkk' := hide hkk
        clear hlt hk hkk hn
        go_wp2
        refine bodyPost_ret (v := .agg (Gd.world s gC gE gI 384 32 40 g)) (by simp [results, Try.results23, go_sem, Gd.world, z0, z1, z2, z3, z4, z5, z6, z7, z8, z9, z10]) rfl ?_
        exact unhide hQ' _ _ ⟨I, unhide hfin [_, _, _, _, _, _, _, _, _, _, _], hOk, by rw [unhide hkk']; exact unhide hKn, _, _, _, _, _, rfl⟩

end Go.Proofs.Ytbploaihicakeaa

namespace Go.Proofs.Ytbploaihicakeaa
open Go.RowKit

/-- The law's hero: its seat, where it stands, what it has left. -/
def Gd.folk (st : Int) (kc : Nat) (h : Int) : Nat → Int
  | 0 => 1
  | 2 => st
  | 3 => (kc : Int) % 24
  | 4 => (kc : Int) / 24
  | 5 => 1 + h
  | 6 => 20
  | 7 => 5
  | 8 => 1
  | _ => 0

theorem folk_cells {x : World} {X : Nat} {T : TypeId} {st h : Int} {kc : Nat} (hA : Lie x X T 11 (Ints (Gd.folk st kc h))) :
    x.cell? ⟨X, 0, none⟩ = some (.int .i64 1) ∧ x.cell? ⟨X, 1, none⟩ = some (.int .i64 0) ∧ x.cell? ⟨X, 2, none⟩ = some (.int .i64 st) ∧ x.cell? ⟨X, 3, none⟩ = some (.int .i64 ((kc : Int) % 24)) ∧ x.cell? ⟨X, 4, none⟩ = some (.int .i64 ((kc : Int) / 24)) ∧ x.cell? ⟨X, 5, none⟩ = some (.int .i64 (1 + h)) ∧ x.cell? ⟨X, 6, none⟩ = some (.int .i64 20) ∧ x.cell? ⟨X, 7, none⟩ = some (.int .i64 5) ∧ x.cell? ⟨X, 8, none⟩ = some (.int .i64 1) ∧ x.cell? ⟨X, 9, none⟩ = some (.int .i64 0) ∧ x.cell? ⟨X, 10, none⟩ = some (.int .i64 0) :=
  ⟨hA.cell (by omega), hA.cell (by omega), hA.cell (by omega), hA.cell (by omega), hA.cell (by omega), hA.cell (by omega), hA.cell (by omega), hA.cell (by omega), hA.cell (by omega), hA.cell (by omega), hA.cell (by omega)⟩

theorem folk_made {x : World} {X : Nat} {T : TypeId} {st h : Int} {kc : Nat} (hA : Lie x X T 11 (fun j => #[.int .i64 1, .int .i64 0, .int .i64 0, .int .i64 0, .int .i64 0, .int .i64 20, .int .i64 20, .int .i64 5, .int .i64 1, .int .i64 0, Value.int .i64 0][j]?.getD undef)) :
    Lie ((((x.setCell ⟨X, 2, none⟩ (.int .i64 st)).setCell ⟨X, 3, none⟩ (.int .i64 ((kc : Int) % 24))).setCell ⟨X, 4, none⟩ (.int .i64 ((kc : Int) / 24))).setCell ⟨X, 5, none⟩ (.int .i64 (1 + h))) X T 11 (Ints (Gd.folk st kc h)) :=
  ((((hA.store 2 _).store 3 _).store 4 _).store 5 _).congr fun j hj => by
    rcases (show j = 0 ∨ j = 1 ∨ j = 2 ∨ j = 3 ∨ j = 4 ∨ j = 5 ∨ j = 6 ∨ j = 7 ∨ j = 8 ∨ j = 9 ∨ j = 10 by omega) with rfl | rfl | rfl | rfl | rfl | rfl | rfl | rfl | rfl | rfl | rfl <;> rfl

theorem Gd.Laid.ents {w x y : World} {R B gC gE gI : Nat} {s g c : Nat → Int} {E I F : Nat → Nat → Int} (h : Gd.Laid w x R B gC gE gI s g c E I) (hg : x.grownBy y (some gE)) (hE : Lie y gE 36 352 (En.flat F)) : Gd.Laid w y R B gC gE gI s g c F I := by
  have h1 := h.lE
  have h2 := h.at_
  exact { h with hold := h.hold.ents hg hE, res := h.res.grown hg (by simp; omega), grown := grown_own h.grown hg (fun n e => by cases e; omega) }

theorem Gd.Laid.gold {w x : World} {R B gC gE gI : Nat} {s g c : Nat → Int} {E I : Nat → Nat → Int} (h : Gd.Laid w x R B gC gE gI s g c E I) (k : Nat) (hk : k < 4) (v : Int) : Gd.Laid w (x.setCell ⟨B, 7 + k, none⟩ (.int .i64 v)) R B gC gE gI s (Gd.give g k v) c E I := by
  have h1 := h.lB
  have h2 := h.at_
  have r := grown_set0 x B (7 + k) (.int .i64 v)
  exact { h with hold := h.hold.gold k hk v, res := h.res.grown r (by simp; omega), grown := grown_own h.grown r (fun n e => by cases e; omega) }

set_option maxRecDepth 100000 in
set_option maxHeartbeats 12800000 in
theorem world_born (sn : Nat) (hsn : sn < 4) (at_ gold : Int) (kc : Nat) (hkc : kc < 384) (s c : Nat → Int) (hkw : Gr.walkB (c kc) = true) (aL : Option Addr) (nL cL : Nat) (M : Nat → Nat → Int) (R B gC gE gI ob oo L cO : Nat) (O : Nat → Nat) (hL0 : 0 < L) (hL4 : L ≤ 384) (hOw : ∀ i, i < L → O i < 384 ∧ Gr.walkB (c (O i)) = true) (w x : World)
    (hM : Gd.Some w aL (min nL 20) M) (hX : Gd.Laid w x R B gC gE gI s (fun _ => 0) c (fun _ _ => 0) (fun _ _ => 0)) (hO : Gd.Open x ob oo L O B gE gI) (Q : Ending → World → Prop) (hQ : ∀ e w', Gd.Tells w s (Gd.give (fun _ => 0) sn (gold % 1000)) c (En.put (fun _ _ => 0) (at_ % 32).toNat (Gd.folk (sn : Int) kc (at_ % 20))) kc nL M e w' → Q e w') (t0 t1 t6 t7 t8 t9 t10 t11 t15 t17 t18 t19 t20 t21 t22 t23 t24 t25 t26 t27 t28 t29 t30 t31 t32 t33 t34 t35 t36 t37 t38 t39 t40 t41 t42 t43 t44 t45 t46 t47 t48 t49 t50 t51 t52 t53 t54 t55 t56 t57 t58 t59 t60 t61 t62 t63 t64 t65 t66 t67 t68 t69 t70 t71 t72 t73 t74 t75 t76 t77 t78 t79 t80 t81 t82 t83 t84 t85 t86 t87 t88 t89 t90 t91 t92 t93 t94 t95 t96 t97 t98 t99 t100 t101 t102 t103 t104 t105 t106 t107 t108 t109 t110 t111 t112 t113 t114 t115 t116 t117 t118 t119 t120 t121 t122 t123 t124 t125 t126 t127 t128 t129 t130 t131 t132 t133 t134 t135 t136 t137 t138 t139 t140 t141 t142 t143 t144 t145 t146 t147 t148 t149 t150 t151 t152 t153 t154 t155 t156 t157 t158 t159 t160 t161 t162 t163 t164 t165 t166 t167 t168 t169 t170 t171 t172 t173 t174 t175 t176 t177 t178 t179 t180 t181 t182 t183 t184 t185 t186 t187 t188 t189 t190 t191 t192 t193 t194 t195 t196 t197 t198 t199 t200 t201 t202 t203 t204 t205 t206 t207 t208 t209 t210 t211 t212 t213 t214 t215 t216 t217 t218 t219 t220 t221 t222 t223 t224 t225 : Value) :
    Code.wp Try.prog ((Try.f23.body.map (cdrop 8)).getD .skip) (bodyPost Try.prog Try.f23 Q) ⟨#[t0, t1, .int .i64 (sn : Int), .int .i64 at_, .slice aL nL cL, .int .i64 gold, t6, t7, t8, t9, t10, t11, .pointer (some ⟨R, 0, none⟩), .pointer (some ⟨B, 0, none⟩), .slice (some ⟨ob, oo, none⟩) L cO, t15, .int .i64 (kc : Int), t17, t18, t19, t20, t21, t22, t23, t24, t25, t26, t27, t28, t29, t30, t31, t32, t33, t34, t35, t36, t37, t38, t39, t40, t41, t42, t43, t44, t45, t46, t47, t48, t49, t50, t51, t52, t53, t54, t55, t56, t57, t58, t59, t60, t61, t62, t63, t64, t65, t66, t67, t68, t69, t70, t71, t72, t73, t74, t75, t76, t77, t78, t79, t80, t81, t82, t83, t84, t85, t86, t87, t88, t89, t90, t91, t92, t93, t94, t95, t96, t97, t98, t99, t100, t101, t102, t103, t104, t105, t106, t107, t108, t109, t110, t111, t112, t113, t114, t115, t116, t117, t118, t119, t120, t121, t122, t123, t124, t125, t126, t127, t128, t129, t130, t131, t132, t133, t134, t135, t136, t137, t138, t139, t140, t141, t142, t143, t144, t145, t146, t147, t148, t149, t150, t151, t152, t153, t154, t155, t156, t157, t158, t159, t160, t161, t162, t163, t164, t165, t166, t167, t168, t169, t170, t171, t172, t173, t174, t175, t176, t177, t178, t179, t180, t181, t182, t183, t184, t185, t186, t187, t188, t189, t190, t191, t192, t193, t194, t195, t196, t197, t198, t199, t200, t201, t202, t203, t204, t205, t206, t207, t208, t209, t210, t211, t212, t213, t214, t215, t216, t217, t218, t219, t220, t221, t222, t223, t224, t225], []⟩ x := by
  conv => arg 2; whnf
  have hX' := hide hX
  have hO' := hide hO
  have hM' := hide hM
  have hOw' := hide hOw
  obtain ⟨h20, e20⟩ : ∃ v, at_ % 20 = v := ⟨_, rfl⟩
  obtain ⟨r, er⟩ : ∃ r : Nat, (at_ % 32).toNat = r := ⟨_, rfl⟩
  obtain ⟨gd, egd⟩ : ∃ v, gold % 1000 = v := ⟨_, rfl⟩
  have i32 : at_ % 32 = (r : Int) := by omega
  have r32 : (r : Int) < 32 := by omega
  have b20 : 0 ≤ h20 := by omega
  have b20' : h20 < 20 := by omega
  rw [e20, er, egd] at hQ
  have hQ' := hide hQ
  have c20 : Hid (∀ wq, Calls Try.prog 40 #[.int .i64 at_, .int .i64 20] wq fun e w' => e = .returned (.int .i64 h20) ∧ w' = wq) := fun wq => by
    have h := within7_any at_ 20 wq (by omega) (by omega)
    rw [e20] at h
    exact h
  have c32 : Hid (∀ wq, Calls Try.prog 40 #[.int .i64 at_, .int .i64 32] wq fun e w' => e = .returned (.int .i64 (r : Int)) ∧ w' = wq) := fun wq => by
    have h := within7_any at_ 32 wq (by omega) (by omega)
    rw [i32] at h
    exact h
  have cgd : Hid (∀ wq, Calls Try.prog 40 #[.int .i64 gold, .int .i64 1000] wq fun e w' => e = .returned (.int .i64 gd) ∧ w' = wq) := fun wq => by
    have h := within7_any gold 1000 wq (by omega) (by omega)
    rw [egd] at h
    exact h
  have cst : Hid (Calls Try.prog 25 #[.int .i64 1] x fun e w' => e = .returned (.agg #[.int .i64 1, .int .i64 0, .int .i64 0, .int .i64 0, .int .i64 0, .int .i64 20, .int .i64 20, .int .i64 5, .int .i64 1, .int .i64 0, .int .i64 0]) ∧ x.grownBy w' none) := entRefStats_any 1 x
  have hrr : Hid (r < 32) := by
    show r < 32
    omega
  have hkc' := hide hkc
  have hq1 : (kc : Int).tmod 24 = (kc : Int) % 24 := Int.tmod_eq_emod_of_nonneg (by omega)
  have hq2 : (kc : Int).tdiv 24 = (kc : Int) / 24 := Int.tdiv_eq_ediv_of_nonneg (by omega)
  clear hX hO hM hOw hQ e20 er egd i32 hkc
  go_wp2_with fail
  refine (unhide cst).mono ?_
  rintro e w1 ⟨rfl, hg1⟩
  have hX1 := hide ((unhide hX').on hg1)
  have hO1 := hide ((unhide hO').on hg1)
  clear cst hX' hO' hg1
  go_upto_region 14 with fail
  have hN0 := (Arr.lit (heap_alloc_new w1 (.cells #[.int .i64 1, .int .i64 0, .int .i64 0, .int .i64 0, .int .i64 0, .int .i64 20, .int .i64 20, .int .i64 5, .int .i64 1, .int .i64 0, .int .i64 0] 36))).lie
  have hgN := World.grownBy_alloc w1 (.cells #[.int .i64 1, .int .i64 0, .int .i64 0, .int .i64 0, .int .i64 0, .int .i64 20, .int .i64 20, .int .i64 5, .int .i64 1, .int .i64 0, .int .i64 0] 36) none
  obtain ⟨X, hXe⟩ : ∃ X, w1.heap.size = X := ⟨_, rfl⟩
  have hXn : Hid (w1.heap.size ≤ X) := Nat.le_of_eq hXe
  rw [hXe] at hN0 ⊢
  generalize w1.alloc (.cells #[.int .i64 1, .int .i64 0, .int .i64 0, .int .i64 0, .int .i64 0, .int .i64 20, .int .i64 20, .int .i64 5, .int .i64 1, .int .i64 0, .int .i64 0] 36) = w2 at hN0 hgN ⊢
  have hN := hide hN0
  have hg2 := hide hgN
  have y6 : w2.cell? ⟨X, 6, none⟩ = some (.int .i64 20) := (unhide hN).cell (by show (6 : Nat) < 11; omega)
  have y2 : w2.cell? ⟨X, 2, none⟩ = some (.int .i64 0) := (unhide hN).cell (by show (2 : Nat) < 11; omega)
  have y3 : w2.cell? ⟨X, 3, none⟩ = some (.int .i64 0) := (unhide hN).cell (by show (3 : Nat) < 11; omega)
  have y4 : w2.cell? ⟨X, 4, none⟩ = some (.int .i64 0) := (unhide hN).cell (by show (4 : Nat) < 11; omega)
  have y5 : w2.cell? ⟨X, 5, none⟩ = some (.int .i64 20) := (unhide hN).cell (by show (5 : Nat) < 11; omega)
  have fX := (unhide hN).free
  have hk3 : (kc : Int) < 384 := by
    have := unhide hkc'
    omega
  clear hXe hN0 hgN
  go_wp2_with fail
  refine (unhide c20 _).mono ?_
  rintro e wy ⟨rfl, hy⟩
  subst wy
  go_upto_region 15 with fail
  have hN3 := hide (folk_made (st := (sn : Int)) (h := h20) (kc := kc) (unhide hN))
  have hg3 : Hid (w1.grownBy ((((w2.setCell ⟨X, 2, none⟩ (.int .i64 (sn : Int))).setCell ⟨X, 3, none⟩ (.int .i64 ((kc : Int) % 24))).setCell ⟨X, 4, none⟩ (.int .i64 ((kc : Int) / 24))).setCell ⟨X, 5, none⟩ (.int .i64 (1 + h20))) none) := grown_own (unhide hg2) (grown_sets (g := X) [.int .i64 (sn : Int), .int .i64 ((kc : Int) % 24), .int .i64 ((kc : Int) / 24), .int .i64 (1 + h20)] 2 w2 (World.grownBy.refl _ _)) (fun n e => by cases e; exact unhide hXn)
  generalize (((w2.setCell ⟨X, 2, none⟩ (.int .i64 (sn : Int))).setCell ⟨X, 3, none⟩ (.int .i64 ((kc : Int) % 24))).setCell ⟨X, 4, none⟩ (.int .i64 ((kc : Int) / 24))).setCell ⟨X, 5, none⟩ (.int .i64 (1 + h20)) = w3 at hN3 hg3 ⊢
  have hX3 := hide ((unhide hX1).on (unhide hg3))
  have hO3 := hide ((unhide hO1).on (unhide hg3))
  have hne : X ≠ gE := by
    have h1 := (unhide hX1).hold.lists.ents.lt
    have h2 := unhide hXn
    omega
  have hne2 : gE ≠ X := hne.symm
  have hb1 : B ≠ gE := (unhide hX1).hold.bE
  have hb2 : gE ≠ B := hb1.symm
  clear y2 y3 y4 y5 y6 fX hX1 hO1 hN hg2 hg3 hXn hq1 hq2 c20 hk3
  obtain ⟨z0, z1, z2, z3, z4, z5, z6, z7, z8, z9, z10⟩ := folk_cells (unhide hN3)
  have b5 := (unhide hX3).hold.box.eleven.2.2.2.2.2.1
  have fE := (unhide hX3).hold.lists.ents.free
  have hrow : Hid (∀ j, j < 11 → w3.cell? ⟨gE, r * 11 + j, none⟩ = some (.int .i64 0)) := fun j hj => (unhide hX3).hold.lists.ents.cell (by have := unhide hrr; omega)
  have r0 := unhide hrow 0 (by omega)
  have r1 := unhide hrow 1 (by omega)
  have r2 := unhide hrow 2 (by omega)
  have r3 := unhide hrow 3 (by omega)
  have r4 := unhide hrow 4 (by omega)
  have r5 := unhide hrow 5 (by omega)
  have r6 := unhide hrow 6 (by omega)
  have r7 := unhide hrow 7 (by omega)
  have r8 := unhide hrow 8 (by omega)
  have r9 := unhide hrow 9 (by omega)
  have r10 := unhide hrow 10 (by omega)
  rw [Nat.add_zero] at r0
  clear hrow
  go_cut [] from 21 (fun wx => Hid (Lie wx gE 36 352 (En.flat (En.put (fun _ _ => 0) r (Gd.folk (sn : Int) kc h20)))) ∧ Hid (w3.grownBy wx (some gE)))
  case first =>
    have hst : Hid (∀ y : World, Own y gE 32 (fun _ _ => 0) → Lie (y.setCells gE (r * 11) (En.cells (Gd.folk (sn : Int) kc h20)).toList) gE 36 352 (En.flat (En.put (fun _ _ => 0) r (Gd.folk (sn : Int) kc h20)))) := fun y hy => (hy.store r (Gd.folk (sn : Int) kc h20)).lie (by omega)
    have hstg : Hid (∀ y : World, w3.grownBy y none → w3.grownBy (y.setCells gE (r * 11) (En.cells (Gd.folk (sn : Int) kc h20)).toList) (some gE)) := fun y hy => grown_sets _ _ y (grown_some hy)
    go_region_held3 (fun x => x.cell? ⟨B, 5, none⟩ = some (.slice (some ⟨gE, 0, none⟩) 32 32) ∧ x.cell? ⟨X, 0, none⟩ = some (.int .i64 1) ∧ x.cell? ⟨X, 1, none⟩ = some (.int .i64 0) ∧ x.cell? ⟨X, 2, none⟩ = some (.int .i64 (sn : Int)) ∧ x.cell? ⟨X, 3, none⟩ = some (.int .i64 ((kc : Int) % 24)) ∧ x.cell? ⟨X, 4, none⟩ = some (.int .i64 ((kc : Int) / 24)) ∧ x.cell? ⟨X, 5, none⟩ = some (.int .i64 (1 + h20)) ∧ x.cell? ⟨X, 6, none⟩ = some (.int .i64 20) ∧ x.cell? ⟨X, 7, none⟩ = some (.int .i64 5) ∧ x.cell? ⟨X, 8, none⟩ = some (.int .i64 1) ∧ x.cell? ⟨X, 9, none⟩ = some (.int .i64 0) ∧ x.cell? ⟨X, 10, none⟩ = some (.int .i64 0)) (go_keep) (first | (go_at_call 40; refine (unhide c32 _).mono ?_; rintro e wy ⟨rfl, hy⟩; subst wy))
    all_goals
      go_wp2_with fail
      go_meet
      first
        | exact ⟨(unhide hst w3 (unhide hX3).hold.lists.own).on (grown_drew1 (World.grownBy.refl _ _)), grown_drew1 (unhide hstg w3 (World.grownBy.refl _ _))⟩
        | exact ⟨unhide hst _ ((unhide hX3).on (grown_drew1 (World.grownBy.refl _ _))).hold.lists.own, unhide hstg _ (grown_drew1 (World.grownBy.refl _ _))⟩
  case rest =>
    obtain ⟨hEn, hgn⟩ := hcut
    have hX4 := hide ((unhide hX3).ents (unhide hgn) (unhide hEn))
    have hO4 := hide ((unhide hO3).grown (unhide hgn) (by simpa using (unhide hO3).nE.symm))
    clear hEn hgn hX3 hO3 hN3 hne hne2 hb1 hb2 c32 b5 fE r0 r1 r2 r3 r4 r5 r6 r7 r8 r9 r10 z0 z1 z2 z3 z4 z5 z6 z7 z8 z9 z10 r32 b20 b20'
    go_upto_region 16 with fail
    rename_i hKK
    have hK0 := hide hKK
    clear hKK
    have fB := (unhide hX4).hold.box.free
    have q7 : wc.cell? ⟨B, 7 + sn, none⟩ = some (.int .i64 0) := by rw [(unhide hX4).hold.box.cell (show 7 + sn < 11 by omega), Gd.box_gold _ _ _ _ _ _ _ _ _ hsn]
    have hs4 : (sn : Int) < 4 := by omega
    have hX5 := hide ((unhide hX4).gold sn hsn gd)
    have hO5 := hide ((unhide hO4).grown (grown_set0 wc B (7 + sn) (.int .i64 gd)) (by simpa using (unhide hO4).nB.symm))
    go_wp2_with fail
    refine (unhide cgd _).mono ?_
    rintro e wy ⟨rfl, hy⟩
    subst wy
    go_wp2_with fail
    exact unhide hK0 _ _ (world_items (sn : Int) (by omega) (by omega) kc (unhide hkc') s _ c _ hkw aL nL cL M R B gC gE gI ob oo L cO O hL0 hL4 (unhide hOw') w _ (unhide hM') (unhide hX5) (unhide hO5) Q (unhide hQ') _ _ _ _ _ _ _ _ _ _ _ _ _ _ _ _ _ _ _ _ _ _ _ _ _ _ _ _ _ _ _ _ _ _ _ _ _ _ _ _ _ _ _ _ _ _ _ _ _ _ _ _ _ _ _ _ _ _ _ _ _ _ _ _ _ _ _ _ _ _ _ _ _ _ _ _ _ _ _ _ _ _ _ _ _ _ _ _ _ _ _ _ _ _ _ _ _ _ _ _ _ _ _ _ _ _ _ _ _ _ _ _ _ _ _ _ _ _ _ _ _ _ _ _ _ _ _ _ _ _ _ _ _ _ _ _ _ _ _ _ _ _ _ _ _ _ _ _ _ _ _ _ _ _ _ _ _ _ _ _ _ _ _ _ _ _ _ _ _ _ _ _ _ _ _ _ _ _ _ _ _ _ _ _ _ _ _ _ _ _ _ _ _ _ _ _ _ _ _ _ _ _ _ _ _ _ _ _ _ _ _ _ _ _ _ _ _ _ _ _)

end Go.Proofs.Ytbploaihicakeaa

namespace Go.Proofs.Ytbploaihicakeaa
open Go.RowKit

theorem Gr.findFrom_pos (c : Nat → Int) (v : Int) : ∀ (n m : Nat), 0 ≤ Gr.findFrom c v n m → ∃ k : Nat, m ≤ k ∧ k < m + n ∧ Gr.findFrom c v n m = (k : Int) ∧ c k = v
  | 0, m, h => by simp [Gr.findFrom] at h
  | n + 1, m, h => by
    unfold Gr.findFrom at h ⊢
    by_cases e : c m = v
    · rw [if_pos e]
      exact ⟨m, Nat.le_refl _, by omega, rfl, e⟩
    · rw [if_neg e] at h ⊢
      obtain ⟨k, h1, h2, h3, h4⟩ := Gr.findFrom_pos c v n (m + 1) h
      exact ⟨k, by omega, by omega, h3, h4⟩

theorem Gr.find_pos {c : Nat → Int} {v : Int} (h : 0 ≤ Gr.find 384 c v) : ∃ k : Nat, k < 384 ∧ Gr.find 384 c v = (k : Int) ∧ c k = v := by
  obtain ⟨k, _, h2, h3, h4⟩ := Gr.findFrom_pos c v _ _ h
  exact ⟨k, by omega, h3, h4⟩

set_option maxRecDepth 100000 in
set_option maxHeartbeats 12800000 in
theorem world_seat (seat at_ gold : Int) (s c : Nat → Int) (h5 : ∀ i, 0 ≤ c i ∧ c i ≤ 5) (aL : Option Addr) (nL cL : Nat) (M : Nat → Nat → Int) (R B gC gE gI ob oo L cO : Nat) (O : Nat → Nat) (hL0 : 0 < L) (hL4 : L ≤ 384) (hOw : ∀ i, i < L → O i < 384 ∧ Gr.walkB (c (O i)) = true) (w x : World)
    (hM : Gd.Some w aL (min nL 20) M) (hX : Gd.Laid w x R B gC gE gI s (fun _ => 0) c (fun _ _ => 0) (fun _ _ => 0)) (hO : Gd.Open x ob oo L O B gE gI) (Q : Ending → World → Prop) (hQ : ∀ kc : Nat, kc < 384 → Gr.walkB (c kc) = true → (at_.tmod 3 = 0 → 0 ≤ Gr.find 384 c 5 → Gr.find 384 c 5 = (kc : Int)) → ∀ e w', Gd.Tells w s (Gd.give (fun _ => 0) (seat % 4).toNat (gold % 1000)) c (En.put (fun _ _ => 0) (at_ % 32).toNat (Gd.folk (seat % 4) kc (at_ % 20))) kc nL M e w' → Q e w') (t0 t1 t6 t7 t8 t9 t10 t11 t15 t16 t17 t18 t19 t20 t21 t22 t23 t24 t25 t26 t27 t28 t29 t30 t31 t32 t33 t34 t35 t36 t37 t38 t39 t40 t41 t42 t43 t44 t45 t46 t47 t48 t49 t50 t51 t52 t53 t54 t55 t56 t57 t58 t59 t60 t61 t62 t63 t64 t65 t66 t67 t68 t69 t70 t71 t72 t73 t74 t75 t76 t77 t78 t79 t80 t81 t82 t83 t84 t85 t86 t87 t88 t89 t90 t91 t92 t93 t94 t95 t96 t97 t98 t99 t100 t101 t102 t103 t104 t105 t106 t107 t108 t109 t110 t111 t112 t113 t114 t115 t116 t117 t118 t119 t120 t121 t122 t123 t124 t125 t126 t127 t128 t129 t130 t131 t132 t133 t134 t135 t136 t137 t138 t139 t140 t141 t142 t143 t144 t145 t146 t147 t148 t149 t150 t151 t152 t153 t154 t155 t156 t157 t158 t159 t160 t161 t162 t163 t164 t165 t166 t167 t168 t169 t170 t171 t172 t173 t174 t175 t176 t177 t178 t179 t180 t181 t182 t183 t184 t185 t186 t187 t188 t189 t190 t191 t192 t193 t194 t195 t196 t197 t198 t199 t200 t201 t202 t203 t204 t205 t206 t207 t208 t209 t210 t211 t212 t213 t214 t215 t216 t217 t218 t219 t220 t221 t222 t223 t224 t225 : Value) :
    Code.wp Try.prog ((Try.f23.body.map (cdrop 5)).getD .skip) (bodyPost Try.prog Try.f23 Q) ⟨#[t0, t1, .int .i64 seat, .int .i64 at_, .slice aL nL cL, .int .i64 gold, t6, t7, t8, t9, t10, t11, .pointer (some ⟨R, 0, none⟩), .pointer (some ⟨B, 0, none⟩), .slice (some ⟨ob, oo, none⟩) L cO, t15, t16, t17, t18, t19, t20, t21, t22, t23, t24, t25, t26, t27, t28, t29, t30, t31, t32, t33, t34, t35, t36, t37, t38, t39, t40, t41, t42, t43, t44, t45, t46, t47, t48, t49, t50, t51, t52, t53, t54, t55, t56, t57, t58, t59, t60, t61, t62, t63, t64, t65, t66, t67, t68, t69, t70, t71, t72, t73, t74, t75, t76, t77, t78, t79, t80, t81, t82, t83, t84, t85, t86, t87, t88, t89, t90, t91, t92, t93, t94, t95, t96, t97, t98, t99, t100, t101, t102, t103, t104, t105, t106, t107, t108, t109, t110, t111, t112, t113, t114, t115, t116, t117, t118, t119, t120, t121, t122, t123, t124, t125, t126, t127, t128, t129, t130, t131, t132, t133, t134, t135, t136, t137, t138, t139, t140, t141, t142, t143, t144, t145, t146, t147, t148, t149, t150, t151, t152, t153, t154, t155, t156, t157, t158, t159, t160, t161, t162, t163, t164, t165, t166, t167, t168, t169, t170, t171, t172, t173, t174, t175, t176, t177, t178, t179, t180, t181, t182, t183, t184, t185, t186, t187, t188, t189, t190, t191, t192, t193, t194, t195, t196, t197, t198, t199, t200, t201, t202, t203, t204, t205, t206, t207, t208, t209, t210, t211, t212, t213, t214, t215, t216, t217, t218, t219, t220, t221, t222, t223, t224, t225], []⟩ x := by
  conv => arg 2; whnf
  obtain ⟨sn, hsn⟩ : ∃ sn : Nat, seat % 4 = (sn : Int) := ⟨(seat % 4).toNat, by omega⟩
  have hsn4 : sn < 4 := by omega
  rw [hsn, Int.toNat_natCast] at hQ
  have cS : Hid (∀ wq, Calls Try.prog 40 #[.int .i64 seat, .int .i64 4] wq fun e w' => e = .returned (.int .i64 (sn : Int)) ∧ w' = wq) := fun wq => by
    have h := within7_any seat 4 wq (by omega) (by omega)
    rw [hsn] at h
    exact h
  obtain ⟨J, hJ⟩ : ∃ J : Nat, at_ % (L : Int) = (J : Int) := ⟨(at_ % (L : Int)).toNat, (Int.toNat_of_nonneg (Int.emod_nonneg _ (by omega))).symm⟩
  have hJL : J < L := by
    have := Int.emod_lt_of_pos at_ (b := (L : Int)) (by omega)
    omega
  have cJ : Hid (∀ wq, Calls Try.prog 40 #[.int .i64 at_, .int .i64 (L : Int)] wq fun e w' => e = .returned (.int .i64 (J : Int)) ∧ w' = wq) := fun wq => by
    have h := within7_any at_ (L : Int) wq (by omega) (by omega)
    rw [hJ] at h
    exact h
  have qJ := hO.cell J hJL
  have hqw0 := hOw J hJL
  obtain ⟨q, hq⟩ : ∃ q, O J = q := ⟨_, rfl⟩
  rw [hq] at qJ hqw0
  have hqw := hide hqw0
  have hJi : (J : Int) < (L : Int) := by omega
  have b4 := hX.hold.box.eleven.2.2.2.2.1
  have cF := hide (refFind_any x.heap.size (some ⟨gC, 0, none⟩) 384 384 c 5 x hX.hold.lists.vec (fun i => ⟨(h5 i).1, by have := (h5 i).2; omega⟩))
  have hfp := @Gr.find_pos c 5
  obtain ⟨f, hf⟩ : ∃ f, Gr.find 384 c 5 = f := ⟨_, rfl⟩
  rw [hf] at cF hQ hfp
  have hX' := hide hX
  have hO' := hide hO
  have hM' := hide hM
  have hOw' := hide hOw
  have hQ' := hide hQ
  have hfp' := hide hfp
  clear hX hO hM hOw hQ hq hqw0 hJ hf hsn hfp hJL
  go_wp2_with fail
  refine (unhide cS _).mono ?_
  rintro e wy ⟨rfl, hy⟩
  subst wy
  go_wp2_with fail
  refine (unhide cJ _).mono ?_
  rintro e wy ⟨rfl, hy⟩
  subst wy
  clear cS cJ
  go_upto_region 11 with fail
  rename_i K1 h1 K2 h2
  have hK0 := hide h1
  clear h1
  by_cases h3 : at_.tmod 3 = 0
  · go_wp2_with fail
    refine (unhide cF).mono ?_
    rintro e wy ⟨rfl, hy⟩
    subst wy
    by_cases hpos : 0 ≤ f
    · obtain ⟨kc, hk, rfl, hc⟩ := unhide hfp' hpos
      have hkw : Hid (Gr.walkB (c kc) = true) := by
        show Gr.walkB (c kc) = true
        rw [hc]
        rfl
      have hk' := hide hk
      clear hfp' hc hk
      go_wp2_with fail
      refine (unhide cF).mono ?_
      rintro e wy ⟨rfl, hy⟩
      subst wy
      go_wp2_with fail
      exact unhide hK0 _ _ (world_born sn hsn4 at_ gold kc (unhide hk') s c (unhide hkw) aL nL cL M R B gC gE gI ob oo L cO O hL0 hL4 (unhide hOw') w _ (unhide hM') (unhide hX') (unhide hO') Q (unhide hQ' kc (unhide hk') (unhide hkw) (fun _ _ => rfl)) _ _ _ _ _ _ _ _ _ _ _ _ _ _ _ _ _ _ _ _ _ _ _ _ _ _ _ _ _ _ _ _ _ _ _ _ _ _ _ _ _ _ _ _ _ _ _ _ _ _ _ _ _ _ _ _ _ _ _ _ _ _ _ _ _ _ _ _ _ _ _ _ _ _ _ _ _ _ _ _ _ _ _ _ _ _ _ _ _ _ _ _ _ _ _ _ _ _ _ _ _ _ _ _ _ _ _ _ _ _ _ _ _ _ _ _ _ _ _ _ _ _ _ _ _ _ _ _ _ _ _ _ _ _ _ _ _ _ _ _ _ _ _ _ _ _ _ _ _ _ _ _ _ _ _ _ _ _ _ _ _ _ _ _ _ _ _ _ _ _ _ _ _ _ _ _ _ _ _ _ _ _ _ _ _ _ _ _ _ _ _ _ _ _ _ _ _ _ _ _ _ _ _ _ _ _ _ _ _ _ _ _ _ _ _ _ _ _)
    · have hneg : ¬ 0 ≤ f := hpos
      clear hfp'
      go_wp2_with fail
      exact unhide hK0 _ _ (world_born sn hsn4 at_ gold q (unhide hqw).1 s c (unhide hqw).2 aL nL cL M R B gC gE gI ob oo L cO O hL0 hL4 (unhide hOw') w _ (unhide hM') (unhide hX') (unhide hO') Q (unhide hQ' q (unhide hqw).1 (unhide hqw).2 (fun _ h => absurd h (by omega))) _ _ _ _ _ _ _ _ _ _ _ _ _ _ _ _ _ _ _ _ _ _ _ _ _ _ _ _ _ _ _ _ _ _ _ _ _ _ _ _ _ _ _ _ _ _ _ _ _ _ _ _ _ _ _ _ _ _ _ _ _ _ _ _ _ _ _ _ _ _ _ _ _ _ _ _ _ _ _ _ _ _ _ _ _ _ _ _ _ _ _ _ _ _ _ _ _ _ _ _ _ _ _ _ _ _ _ _ _ _ _ _ _ _ _ _ _ _ _ _ _ _ _ _ _ _ _ _ _ _ _ _ _ _ _ _ _ _ _ _ _ _ _ _ _ _ _ _ _ _ _ _ _ _ _ _ _ _ _ _ _ _ _ _ _ _ _ _ _ _ _ _ _ _ _ _ _ _ _ _ _ _ _ _ _ _ _ _ _ _ _ _ _ _ _ _ _ _ _ _ _ _ _ _ _ _ _ _ _ _ _ _ _ _ _ _ _ _)
  · have h3' : (at_.tmod 3 == 0) = false := by simp [h3]
    have h3h := hide h3
    clear h3
    go_wp2_with fail
    exact unhide hK0 _ _ (world_born sn hsn4 at_ gold q (unhide hqw).1 s c (unhide hqw).2 aL nL cL M R B gC gE gI ob oo L cO O hL0 hL4 (unhide hOw') w x (unhide hM') (unhide hX') (unhide hO') Q (unhide hQ' q (unhide hqw).1 (unhide hqw).2 (fun h _ => absurd h (unhide h3h))) _ _ _ _ _ _ _ _ _ _ _ _ _ _ _ _ _ _ _ _ _ _ _ _ _ _ _ _ _ _ _ _ _ _ _ _ _ _ _ _ _ _ _ _ _ _ _ _ _ _ _ _ _ _ _ _ _ _ _ _ _ _ _ _ _ _ _ _ _ _ _ _ _ _ _ _ _ _ _ _ _ _ _ _ _ _ _ _ _ _ _ _ _ _ _ _ _ _ _ _ _ _ _ _ _ _ _ _ _ _ _ _ _ _ _ _ _ _ _ _ _ _ _ _ _ _ _ _ _ _ _ _ _ _ _ _ _ _ _ _ _ _ _ _ _ _ _ _ _ _ _ _ _ _ _ _ _ _ _ _ _ _ _ _ _ _ _ _ _ _ _ _ _ _ _ _ _ _ _ _ _ _ _ _ _ _ _ _ _ _ _ _ _ _ _ _ _ _ _ _ _ _ _ _ _ _ _ _ _ _ _ _ _ _ _ _ _ _)

end Go.Proofs.Ytbploaihicakeaa
