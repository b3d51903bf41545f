/-
  The document's Make, said again: corridors.
-/
import Derived.Test.YthofgjphoahkfaaGenRefStairs
namespace Go.Proofs.Ythofgjphoahkfaa
open Go.RowKit

structure RefCor (w : World) (B G X Y : Nat) (d : Gn.Dice) (c : Nat → Int) (wr : World) : Prop where
  cells : Arr wr G 5 384 (Byts c)
  xs : Arr wr X 48 6 (fun j => .int .i64 (Gn.mx d j))
  ys : Arr wr Y 48 6 (fun j => .int .i64 (Gn.my d j))
  res : Arr wr B 28 3 (fun _ => .slice none 0 0)
  grown : w.grownBy wr none
  o0 : w.heap.size ≤ B
  o1 : B < G
  o2 : G < X
  o3 : X < Y

theorem RefCor.on {w : World} {B G X Y : Nat} {d : Gn.Dice} {c : Nat → Int} {wr wx : World} (h : RefCor w B G X Y d c wr) (hg : wr.grownBy wx none) : RefCor w B G X Y d c wx :=
  ⟨h.cells.grown hg (by simp), h.xs.grown hg (by simp), h.ys.grown hg (by simp), h.res.grown hg (by simp), grown_none h.grown hg, h.o0, h.o1, h.o2, h.o3⟩

theorem RefCor.dig {w : World} {B G X Y : Nat} {d : Gn.Dice} {c c' : Nat → Int} {wr wx : World} (h : RefCor w B G X Y d c wr) (hA : Arr wx G 5 384 (Byts c')) (hg : wr.grownBy wx (some G)) : RefCor w B G X Y d c' wx := by
  have h0 := h.o0
  have h1 := h.o1
  have h2 := h.o2
  have h3 := h.o3
  exact ⟨hA, h.xs.grown hg (by simp; omega), h.ys.grown hg (by simp; omega), h.res.grown hg (by simp; omega), grown_own h.grown hg (fun n e => by cases e; omega), h0, h1, h2, h3⟩

set_option maxRecDepth 100000 in
set_option maxHeartbeats 8000000 in
theorem ref_corr (s f : Int) (d : Gn.Dice) (hd : ∀ a b n, Gn.D s f a b n = d a b n) (hFr : Gn.Fair d) (h1f : 1 ≤ f) (h3f : f ≤ 3) (w : World) (B G X Y : Nat) (wr : World)
    (hC : RefCor w B G X Y d (Gn.dug d 0) wr) (t2 t3 t8 t9 t10 t11 t12 t13 t14 t15 t16 t17 t18 t19 t20 t21 t22 t23 t24 t25 t26 t27 t28 t29 t30 t31 t32 t33 t34 t35 t36 t37 t38 t39 t40 t41 t42 t43 t44 t45 t46 t47 t48 t49 t50 t51 t52 t53 t54 t55 t56 t57 t58 t59 t60 t61 t62 t63 t64 t65 t66 t67 t68 t69 t70 t71 t72 t73 t74 t75 t76 t77 t78 t79 t80 t81 t82 t83 t84 t85 t86 t87 t88 t89 t90 t91 t92 t93 t94 t95 t96 t97 t98 t99 t100 t101 t102 t103 t104 t105 t106 t107 t108 t109 t110 t111 t112 t113 t114 t115 t116 t117 t118 t119 t120 t121 t122 t123 t124 t125 t126 t127 t128 t129 t130 t131 t132 t133 t134 t135 t136 t137 t138 t139 t140 t141 t142 t143 t144 t145 t146 t147 t148 t149 t150 t151 t152 t153 t154 t155 t156 t157 t158 t159 t160 t161 t162 t163 t164 t165 t166 t167 t168 t169 t170 t171 t172 t173 t174 t175 t176 t177 t178 t179 t180 t181 t182 t183 t184 t185 t186 t187 t188 t189 t190 t191 t192 t193 t194 t195 t196 t197 t198 t199 t200 t201 t202 t203 t204 t205 t206 t207 t208 t209 t210 t211 t212 t213 t214 t215 t216 t217 t218 t219 t220 t221 t222 t223 t224 t225 t226 t227 t228 t229 t230 t231 t232 t233 t234 t235 t236 t237 t238 t239 t240 t241 t242 t243 t244 t245 t246 t247 t248 t249 t250 t251 t252 t253 t254 t255 t256 t257 t258 t259 t260 t261 t262 t263 t264 t265 t266 t267 t268 t269 t270 t271 t272 t273 t274 t275 t276 t277 t278 t279 t280 t281 t282 t283 t284 t285 t286 t287 t288 t289 t290 t291 t292 t293 t294 t295 t296 t297 t298 t299 t300 t301 t302 t303 t304 t305 t306 t307 t308 t309 t310 t311 t312 t313 t314 t315 t316 t317 t318 t319 t320 t321 t322 t323 t324 t325 : Value) :
    Code.wp Try.prog ((Try.f8.body.map (cdrop 4)).getD .skip) (bodyPost Try.prog Try.f8 (RefDone w d f)) ⟨#[.int .i64 s, .int .i64 f, t2, t3, .pointer (some ⟨B, 0, none⟩), .slice (some ⟨G, 0, none⟩) 384 384, .pointer (some ⟨X, 0, none⟩), .pointer (some ⟨Y, 0, none⟩), t8, t9, t10, t11, t12, t13, t14, t15, t16, t17, t18, t19, t20, t21, t22, t23, t24, t25, t26, t27, t28, t29, t30, t31, t32, t33, t34, t35, t36, t37, t38, t39, t40, t41, t42, t43, t44, t45, t46, t47, t48, t49, t50, t51, t52, t53, t54, t55, t56, t57, t58, t59, t60, t61, t62, t63, t64, t65, t66, t67, t68, t69, t70, t71, t72, t73, t74, t75, t76, t77, t78, t79, t80, t81, t82, t83, t84, t85, t86, t87, t88, t89, t90, t91, t92, t93, t94, t95, t96, t97, t98, t99, t100, t101, t102, t103, t104, t105, t106, t107, t108, t109, t110, t111, t112, t113, t114, t115, t116, t117, t118, t119, t120, t121, t122, t123, t124, t125, t126, t127, t128, t129, t130, t131, t132, t133, t134, t135, t136, t137, t138, t139, t140, t141, t142, t143, t144, t145, t146, t147, t148, t149, t150, t151, t152, t153, t154, t155, t156, t157, t158, t159, t160, t161, t162, t163, t164, t165, t166, t167, t168, t169, t170, t171, t172, t173, t174, t175, t176, t177, t178, t179, t180, t181, t182, t183, t184, t185, t186, t187, t188, t189, t190, t191, t192, t193, t194, t195, t196, t197, t198, t199, t200, t201, t202, t203, t204, t205, t206, t207, t208, t209, t210, t211, t212, t213, t214, t215, t216, t217, t218, t219, t220, t221, t222, t223, t224, t225, t226, t227, t228, t229, t230, t231, t232, t233, t234, t235, t236, t237, t238, t239, t240, t241, t242, t243, t244, t245, t246, t247, t248, t249, t250, t251, t252, t253, t254, t255, t256, t257, t258, t259, t260, t261, t262, t263, t264, t265, t266, t267, t268, t269, t270, t271, t272, t273, t274, t275, t276, t277, t278, t279, t280, t281, t282, t283, t284, t285, t286, t287, t288, t289, t290, t291, t292, t293, t294, t295, t296, t297, t298, t299, t300, t301, t302, t303, t304, t305, t306, t307, t308, t309, t310, t311, t312, t313, t314, t315, t316, t317, t318, t319, t320, t321, t322, t323, t324, t325], []⟩ wr := by
  conv => arg 2; whnf
  have hd' := hide hd
  have hFr' := hide hFr
  have hC' := hide hC
  clear hd hFr hC
  go_wp2_with fail
  go_loopw [15] (fun vi wr => ∃ j k : Nat, k ≤ 5 ∧ j = k + 1 ∧ vi = .int .i64 (j : Int) ∧ RefCor w B G X Y d (Gn.dug d k) wr) (fun vi _ => 6 - (intOf vi).toNat)
  case atStart => exact ⟨1, 0, by omega, rfl, rfl, unhide hC'⟩
  case round =>
    clear hC'
    rename_i hKK
    have hK0 := hide hKK
    clear hKK
    obtain ⟨j, k, hk, hj, rfl, hC⟩ := hrel
    have hC1 := hide hC
    clear hC
    by_cases hlt : k < 5
    · have hlt' : (j : Int) < 6 := by omega
      have hjk : (j : Int) - 1 = (k : Int) := by omega
      have hk2 : (k : Int) < 6 := by omega
      have hwr : IntKind.i64.wrap ((j : Int) - 1) = (k : Int) := by rw [hjk, IntKind.wrap_i64]; omega
      have hwr2 : IntKind.i64.wrap (k : Int) = (k : Int) := by rw [IntKind.wrap_i64]; omega
      obtain ⟨D0, hD0⟩ : ∃ x, x = d (j : Int) 4 2 := ⟨_, rfl⟩
      obtain ⟨x0, hx0⟩ : ∃ x, x = Gn.mx d k := ⟨_, rfl⟩
      obtain ⟨y0, hy0⟩ : ∃ x, x = Gn.my d k := ⟨_, rfl⟩
      obtain ⟨tx, hx1⟩ : ∃ x, x = Gn.mx d j := ⟨_, rfl⟩
      obtain ⟨ty, hy1⟩ : ∃ x, x = Gn.my d j := ⟨_, rfl⟩
      have b0 := Gn.mid_bd (unhide hFr') k
      have b1 := Gn.mid_bd (unhide hFr') j
      rw [← hx0, ← hy0] at b0
      rw [← hx1, ← hy1] at b1
      obtain ⟨a1, a2, a3, a4⟩ := b0
      obtain ⟨a5, a6, a7, a8⟩ := b1
      have keep : Hid (∀ x c, RefCor w B G X Y d c x → (x.cell? ⟨X, j, none⟩ = some (.int .i64 tx) ∧ x.cell? ⟨Y, j, none⟩ = some (.int .i64 ty))) := fun x c hx => by
        rw [hx1, hy1]
        exact ⟨hx.xs.cell (by omega), hx.ys.cell (by omega)⟩
      have p1 : wr.cell? ⟨X, k, none⟩ = some (.int .i64 x0) := by rw [hx0]; exact (unhide hC1).xs.cell (by omega)
      have p2 : wr.cell? ⟨Y, k, none⟩ = some (.int .i64 y0) := by rw [hy0]; exact (unhide hC1).ys.cell (by omega)
      obtain ⟨c0, hc0⟩ : ∃ c0 : Nat, y0 * 24 + x0 = (c0 : Int) := ⟨(y0 * 24 + x0).toNat, by omega⟩
      have hdr : Hid (∀ n, RefCor w B G X Y d (Gn.dug d k) (wr.drewN n)) := fun n => (unhide hC1).on (grown_drew (World.grownBy.refl _ none) n)
      have hdg : Hid (∀ n, Calls Try.prog 22 #[.slice (some ⟨G, 0, none⟩) 384 384, .int .i64 x0, .int .i64 y0, .bool false] (wr.drewN n) fun e w' => e = .returned (.bool (Gn.digAt (Gn.dug d k, false) c0).2) ∧ Arr w' G 5 384 (Byts (Gn.digAt (Gn.dug d k, false) c0).1) ∧ (wr.drewN n).grownBy w' (some G)) :=
        fun n => refDig_any G (Gn.dug d k, false) x0 y0 c0 (wr.drewN n) (unhide hdr n).cells (Gn.dug_5 d k) (by omega) hc0
      obtain ⟨FIN, hFIN⟩ : ∃ F, F = Gn.digRun tx ty (D0 == 0) (Gn.steps x0 y0 tx ty) (Gn.dug d k, false) x0 y0 := ⟨_, rfl⟩
      have hdug : Hid (Gn.dug d j = FIN.1) := by
        show Gn.dug d j = FIN.1
        rw [hFIN, hx0, hy0, hx1, hy1, hD0, hj]
        rfl
      have hFIN' := hide hFIN
      have hdie := hide (fun x => refD_any s f (j : Int) 4 2 x (by omega))
      have hD0' := hide hD0
      have hc0' := hide hc0
      have h5' : Hid (∀ i, 0 ≤ Gn.dug d k i ∧ Gn.dug d k i ≤ 5) := Gn.dug_5 d k
      have hj' := hide hj
      clear hD0 hx0 hy0 hx1 hy1 hFIN hj hlt hk
      go_wp2_with fail
      go_quiet (fail)
      go_wp2_with fail
      refine (unhide hdg _).mono ?_
      rintro e wd ⟨rfl, hAd, hgd⟩
      have hC2 := hide ((unhide hdr _).dig hAd hgd)
      clear hAd hgd hdg hdr p1 p2
      go_wp2_with fail
      have hdie2 := unhide hdie wd
      rw [unhide hd', ← unhide hD0'] at hdie2
      refine hdie2.mono ?_
      rintro e we ⟨rfl, hge⟩
      have hC3 := hide ((unhide hC2).on hge)
      clear hge hC2 hdie2 hdie hC1
      clear wd
      obtain ⟨first, hfst⟩ : ∃ b, (D0 == 0) = b := ⟨_, rfl⟩
      have hFIN2 : Hid (Gn.digRun tx ty first (Gn.steps x0 y0 tx ty) (Gn.dug d k, false) x0 y0 = FIN) := by
        rw [← hfst]
        exact (unhide hFIN').symm
      clear hFIN'
      go_wp2_with fail
      go_loopw [16, 17, 18] (fun vx vy vd wr => ∃ (x y : Int) (st : (Nat → Int) × Bool) (c0 : Nat), vx = .int .i64 x ∧ vy = .int .i64 y ∧ vd = .bool (Gn.digAt st c0).2 ∧ ((1 ≤ x ∧ x ≤ 22) ∧ 1 ≤ y ∧ y ≤ 14) ∧ y * 24 + x = (c0 : Int) ∧ (∀ i, 0 ≤ st.1 i ∧ st.1 i ≤ 5) ∧ Gn.digRun tx ty first (Gn.steps x y tx ty) st x y = FIN ∧ RefCor w B G X Y d (Gn.digAt st c0).1 wr) (fun vx vy _ _ => Gn.steps (intOf vx) (intOf vy) tx ty)
      case atStart => exact ⟨x0, y0, (Gn.dug d k, false), c0, rfl, rfl, rfl, ⟨⟨a1, a2⟩, a3, a4⟩, unhide hc0', unhide h5', unhide hFIN2, unhide hC3⟩
      case round =>
        clear hC3 hFIN2 hfst
        obtain ⟨x, y, st, q0, rfl, rfl, rfl, ⟨⟨e1, e2⟩, e3, e4⟩, hq0, h5, hrun, hC⟩ := hrel
        have hC1 := hide hC
        have hrun' := hide hrun
        have h5s := hide h5
        have hq0' := hide hq0
        obtain ⟨p1, p2⟩ := unhide keep _ _ hC
        obtain ⟨dr, hdr⟩ : ∃ b, b = (Gn.digAt st q0).2 := ⟨_, rfl⟩
        rw [← hdr]
        have hdr' := hide hdr
        clear hC hrun h5 hq0 hdr
        by_cases hx : x = tx
        · by_cases hy : y = ty
          · have hend : Hid (FIN = Gn.digAt st q0) := by
              have h := unhide hrun'
              rw [Gn.run_end hx hy (unhide hq0')] at h
              exact h.symm
            have hfin : Hid (RefCor w B G X Y d (Gn.dug d j) wr) := by rw [unhide hdug, unhide hend]; exact unhide hC1
            have hx' : (x != tx) = false := by simpa using hx
            have hy' : (y != ty) = false := by simpa using hy
            clear hx hy
            go_wp2
            go_roundw
            case rel => exact ⟨j + 1, j, by omega, rfl, by go_num, unhide hfin⟩
            case measure => simp [intOf]; omega
          · have hne : Hid (¬ (x = tx ∧ y = ty)) := fun h => hy h.2
            have hnt : Hid (y ≠ ty) := hy
            have hx' : (x != tx) = false := by simpa using hx
            have hy' : (y != ty) = true := by simpa using hy
            have hyq : (y == ty) = false := by simpa using hy
            clear hx hy
            cases first with
            | true =>
              have ew : Gn.way x y tx ty true = false := by unfold Gn.way; rw [hyq, hx']; rfl
              have eX : Gn.stepX x y tx ty true = x := by unfold Gn.stepX; rw [ew]; rfl
              have eY : Gn.stepY x y tx ty true = Gn.to1 y ty := by unfold Gn.stepY; rw [ew]; rfl
              have hrun2 : Hid (Gn.digRun tx ty true (Gn.steps (x) (Gn.to1 y ty) tx ty) (Gn.digAt st q0) (x) (Gn.to1 y ty) = FIN) := by
                have h := unhide hrun'
                rw [Gn.run_on (c := q0) (unhide hne) (unhide hq0'), eX, eY] at h
                exact h
              have hbd2 : (1 ≤ (x) ∧ (x) ≤ 22) ∧ 1 ≤ (Gn.to1 y ty) ∧ (Gn.to1 y ty) ≤ 14 := by
                have h := Gn.step_bd x y tx ty true ⟨⟨e1, e2⟩, e3, e4⟩ ⟨⟨a5, a6⟩, a7, a8⟩
                rw [eX, eY] at h
                exact h
              have hless : Gn.steps (x) (Gn.to1 y ty) tx ty + 1 = Gn.steps x y tx ty := by
                have h := Gn.step_less x y tx ty true (unhide hne)
                rw [eX, eY] at h
                exact h
              obtain ⟨z, hz⟩ : ∃ z, z = Gn.to1 y ty := ⟨_, rfl⟩
              rw [← hz] at hrun2 hbd2 hless
              have htw := toward_any y ty wr (unhide hnt) (by omega) (by omega)
              rw [← hz] at htw
              have htw' := hide htw
              obtain ⟨c1, hc1⟩ : ∃ c1 : Nat, z * 24 + x = (c1 : Int) := ⟨(z * 24 + x).toNat, by omega⟩
              have hdg := hide (refDig_any G (Gn.digAt st q0) x z c1 wr (unhide hC1).cells (Gn.digAt_5 (unhide h5s)) hbd2 hc1)
              rw [← unhide hdr'] at hdg
              have hc1' := hide hc1
              have hless' := hide hless
              obtain ⟨⟨g1, g2⟩, g3, g4⟩ := hbd2
              clear eX eY ew hz htw hc1 hless
              go_wp2_with fail
              refine (unhide htw').mono ?_
              rintro e w' ⟨rfl, hw⟩
              subst w'
              go_wp2_with fail
              refine (unhide hdg).mono ?_
              rintro e wy ⟨rfl, hAy, hgy⟩
              have hC2 := hide ((unhide hC1).dig hAy hgy)
              clear hAy hgy hdg htw' hC1
              go_wp2
              go_roundw
              case rel => exact ⟨x, z, Gn.digAt st q0, c1, rfl, rfl, rfl, ⟨⟨g1, g2⟩, g3, g4⟩, unhide hc1', Gn.digAt_5 (unhide h5s), unhide hrun2, unhide hC2⟩
              case measure => have := unhide hless'; simp [intOf]; omega
            | false =>
              have ew : Gn.way x y tx ty false = false := by unfold Gn.way; rw [hyq]; rfl
              have eX : Gn.stepX x y tx ty false = x := by unfold Gn.stepX; rw [ew]; rfl
              have eY : Gn.stepY x y tx ty false = Gn.to1 y ty := by unfold Gn.stepY; rw [ew]; rfl
              have hrun2 : Hid (Gn.digRun tx ty false (Gn.steps (x) (Gn.to1 y ty) tx ty) (Gn.digAt st q0) (x) (Gn.to1 y ty) = FIN) := by
                have h := unhide hrun'
                rw [Gn.run_on (c := q0) (unhide hne) (unhide hq0'), eX, eY] at h
                exact h
              have hbd2 : (1 ≤ (x) ∧ (x) ≤ 22) ∧ 1 ≤ (Gn.to1 y ty) ∧ (Gn.to1 y ty) ≤ 14 := by
                have h := Gn.step_bd x y tx ty false ⟨⟨e1, e2⟩, e3, e4⟩ ⟨⟨a5, a6⟩, a7, a8⟩
                rw [eX, eY] at h
                exact h
              have hless : Gn.steps (x) (Gn.to1 y ty) tx ty + 1 = Gn.steps x y tx ty := by
                have h := Gn.step_less x y tx ty false (unhide hne)
                rw [eX, eY] at h
                exact h
              obtain ⟨z, hz⟩ : ∃ z, z = Gn.to1 y ty := ⟨_, rfl⟩
              rw [← hz] at hrun2 hbd2 hless
              have htw := toward_any y ty wr (unhide hnt) (by omega) (by omega)
              rw [← hz] at htw
              have htw' := hide htw
              obtain ⟨c1, hc1⟩ : ∃ c1 : Nat, z * 24 + x = (c1 : Int) := ⟨(z * 24 + x).toNat, by omega⟩
              have hdg := hide (refDig_any G (Gn.digAt st q0) x z c1 wr (unhide hC1).cells (Gn.digAt_5 (unhide h5s)) hbd2 hc1)
              rw [← unhide hdr'] at hdg
              have hc1' := hide hc1
              have hless' := hide hless
              obtain ⟨⟨g1, g2⟩, g3, g4⟩ := hbd2
              clear eX eY ew hz htw hc1 hless
              go_wp2_with fail
              refine (unhide htw').mono ?_
              rintro e w' ⟨rfl, hw⟩
              subst w'
              go_wp2_with fail
              refine (unhide hdg).mono ?_
              rintro e wy ⟨rfl, hAy, hgy⟩
              have hC2 := hide ((unhide hC1).dig hAy hgy)
              clear hAy hgy hdg htw' hC1
              go_wp2
              go_roundw
              case rel => exact ⟨x, z, Gn.digAt st q0, c1, rfl, rfl, rfl, ⟨⟨g1, g2⟩, g3, g4⟩, unhide hc1', Gn.digAt_5 (unhide h5s), unhide hrun2, unhide hC2⟩
              case measure => have := unhide hless'; simp [intOf]; omega
        · have hne : Hid (¬ (x = tx ∧ y = ty)) := fun h => hx h.1
          have hx' : (x != tx) = true := by simpa using hx
          have hnx := hide hx
          clear hx
          cases first with
          | true =>
            have hnt : Hid (x ≠ tx) := hnx
            have ew : Gn.way x y tx ty true = true := by unfold Gn.way; rw [hx', Bool.true_and, Bool.or_true]
            have eX : Gn.stepX x y tx ty true = Gn.to1 x tx := by unfold Gn.stepX; rw [ew]; rfl
            have eY : Gn.stepY x y tx ty true = y := by unfold Gn.stepY; rw [ew]; rfl
            have hrun2 : Hid (Gn.digRun tx ty true (Gn.steps (Gn.to1 x tx) (y) tx ty) (Gn.digAt st q0) (Gn.to1 x tx) (y) = FIN) := by
              have h := unhide hrun'
              rw [Gn.run_on (c := q0) (unhide hne) (unhide hq0'), eX, eY] at h
              exact h
            have hbd2 : (1 ≤ (Gn.to1 x tx) ∧ (Gn.to1 x tx) ≤ 22) ∧ 1 ≤ (y) ∧ (y) ≤ 14 := by
              have h := Gn.step_bd x y tx ty true ⟨⟨e1, e2⟩, e3, e4⟩ ⟨⟨a5, a6⟩, a7, a8⟩
              rw [eX, eY] at h
              exact h
            have hless : Gn.steps (Gn.to1 x tx) (y) tx ty + 1 = Gn.steps x y tx ty := by
              have h := Gn.step_less x y tx ty true (unhide hne)
              rw [eX, eY] at h
              exact h
            obtain ⟨z, hz⟩ : ∃ z, z = Gn.to1 x tx := ⟨_, rfl⟩
            rw [← hz] at hrun2 hbd2 hless
            have htw := toward_any x tx wr (unhide hnt) (by omega) (by omega)
            rw [← hz] at htw
            have htw' := hide htw
            obtain ⟨c1, hc1⟩ : ∃ c1 : Nat, y * 24 + z = (c1 : Int) := ⟨(y * 24 + z).toNat, by omega⟩
            have hdg := hide (refDig_any G (Gn.digAt st q0) z y c1 wr (unhide hC1).cells (Gn.digAt_5 (unhide h5s)) hbd2 hc1)
            rw [← unhide hdr'] at hdg
            have hc1' := hide hc1
            have hless' := hide hless
            obtain ⟨⟨g1, g2⟩, g3, g4⟩ := hbd2
            clear eX eY ew hz htw hc1 hless
            go_wp2_with fail
            refine (unhide htw').mono ?_
            rintro e w' ⟨rfl, hw⟩
            subst w'
            go_wp2_with fail
            refine (unhide hdg).mono ?_
            rintro e wy ⟨rfl, hAy, hgy⟩
            have hC2 := hide ((unhide hC1).dig hAy hgy)
            clear hAy hgy hdg htw' hC1
            go_wp2
            go_roundw
            case rel => exact ⟨z, y, Gn.digAt st q0, c1, rfl, rfl, rfl, ⟨⟨g1, g2⟩, g3, g4⟩, unhide hc1', Gn.digAt_5 (unhide h5s), unhide hrun2, unhide hC2⟩
            case measure => have := unhide hless'; simp [intOf]; omega
          | false =>
            by_cases hy : y = ty
            · have hnt : Hid (x ≠ tx) := hnx
              have hyq : (y == ty) = true := by simpa using hy
              clear hy
              have ew : Gn.way x y tx ty false = true := by unfold Gn.way; rw [hyq]; rfl
              have eX : Gn.stepX x y tx ty false = Gn.to1 x tx := by unfold Gn.stepX; rw [ew]; rfl
              have eY : Gn.stepY x y tx ty false = y := by unfold Gn.stepY; rw [ew]; rfl
              have hrun2 : Hid (Gn.digRun tx ty false (Gn.steps (Gn.to1 x tx) (y) tx ty) (Gn.digAt st q0) (Gn.to1 x tx) (y) = FIN) := by
                have h := unhide hrun'
                rw [Gn.run_on (c := q0) (unhide hne) (unhide hq0'), eX, eY] at h
                exact h
              have hbd2 : (1 ≤ (Gn.to1 x tx) ∧ (Gn.to1 x tx) ≤ 22) ∧ 1 ≤ (y) ∧ (y) ≤ 14 := by
                have h := Gn.step_bd x y tx ty false ⟨⟨e1, e2⟩, e3, e4⟩ ⟨⟨a5, a6⟩, a7, a8⟩
                rw [eX, eY] at h
                exact h
              have hless : Gn.steps (Gn.to1 x tx) (y) tx ty + 1 = Gn.steps x y tx ty := by
                have h := Gn.step_less x y tx ty false (unhide hne)
                rw [eX, eY] at h
                exact h
              obtain ⟨z, hz⟩ : ∃ z, z = Gn.to1 x tx := ⟨_, rfl⟩
              rw [← hz] at hrun2 hbd2 hless
              have htw := toward_any x tx wr (unhide hnt) (by omega) (by omega)
              rw [← hz] at htw
              have htw' := hide htw
              obtain ⟨c1, hc1⟩ : ∃ c1 : Nat, y * 24 + z = (c1 : Int) := ⟨(y * 24 + z).toNat, by omega⟩
              have hdg := hide (refDig_any G (Gn.digAt st q0) z y c1 wr (unhide hC1).cells (Gn.digAt_5 (unhide h5s)) hbd2 hc1)
              rw [← unhide hdr'] at hdg
              have hc1' := hide hc1
              have hless' := hide hless
              obtain ⟨⟨g1, g2⟩, g3, g4⟩ := hbd2
              clear eX eY ew hz htw hc1 hless
              go_wp2_with fail
              refine (unhide htw').mono ?_
              rintro e w' ⟨rfl, hw⟩
              subst w'
              go_wp2_with fail
              refine (unhide hdg).mono ?_
              rintro e wy ⟨rfl, hAy, hgy⟩
              have hC2 := hide ((unhide hC1).dig hAy hgy)
              clear hAy hgy hdg htw' hC1
              go_wp2
              go_roundw
              case rel => exact ⟨z, y, Gn.digAt st q0, c1, rfl, rfl, rfl, ⟨⟨g1, g2⟩, g3, g4⟩, unhide hc1', Gn.digAt_5 (unhide h5s), unhide hrun2, unhide hC2⟩
              case measure => have := unhide hless'; simp [intOf]; omega
            · have hnt : Hid (y ≠ ty) := hy
              have hyq : (y == ty) = false := by simpa using hy
              clear hy
              have ew : Gn.way x y tx ty false = false := by unfold Gn.way; rw [hyq]; rfl
              have eX : Gn.stepX x y tx ty false = x := by unfold Gn.stepX; rw [ew]; rfl
              have eY : Gn.stepY x y tx ty false = Gn.to1 y ty := by unfold Gn.stepY; rw [ew]; rfl
              have hrun2 : Hid (Gn.digRun tx ty false (Gn.steps (x) (Gn.to1 y ty) tx ty) (Gn.digAt st q0) (x) (Gn.to1 y ty) = FIN) := by
                have h := unhide hrun'
                rw [Gn.run_on (c := q0) (unhide hne) (unhide hq0'), eX, eY] at h
                exact h
              have hbd2 : (1 ≤ (x) ∧ (x) ≤ 22) ∧ 1 ≤ (Gn.to1 y ty) ∧ (Gn.to1 y ty) ≤ 14 := by
                have h := Gn.step_bd x y tx ty false ⟨⟨e1, e2⟩, e3, e4⟩ ⟨⟨a5, a6⟩, a7, a8⟩
                rw [eX, eY] at h
                exact h
              have hless : Gn.steps (x) (Gn.to1 y ty) tx ty + 1 = Gn.steps x y tx ty := by
                have h := Gn.step_less x y tx ty false (unhide hne)
                rw [eX, eY] at h
                exact h
              obtain ⟨z, hz⟩ : ∃ z, z = Gn.to1 y ty := ⟨_, rfl⟩
              rw [← hz] at hrun2 hbd2 hless
              have htw := toward_any y ty wr (unhide hnt) (by omega) (by omega)
              rw [← hz] at htw
              have htw' := hide htw
              obtain ⟨c1, hc1⟩ : ∃ c1 : Nat, z * 24 + x = (c1 : Int) := ⟨(z * 24 + x).toNat, by omega⟩
              have hdg := hide (refDig_any G (Gn.digAt st q0) x z c1 wr (unhide hC1).cells (Gn.digAt_5 (unhide h5s)) hbd2 hc1)
              rw [← unhide hdr'] at hdg
              have hc1' := hide hc1
              have hless' := hide hless
              obtain ⟨⟨g1, g2⟩, g3, g4⟩ := hbd2
              clear eX eY ew hz htw hc1 hless
              go_wp2_with fail
              refine (unhide htw').mono ?_
              rintro e w' ⟨rfl, hw⟩
              subst w'
              go_wp2_with fail
              refine (unhide hdg).mono ?_
              rintro e wy ⟨rfl, hAy, hgy⟩
              have hC2 := hide ((unhide hC1).dig hAy hgy)
              clear hAy hgy hdg htw' hC1
              go_wp2
              go_roundw
              case rel => exact ⟨x, z, Gn.digAt st q0, c1, rfl, rfl, rfl, ⟨⟨g1, g2⟩, g3, g4⟩, unhide hc1', Gn.digAt_5 (unhide h5s), unhide hrun2, unhide hC2⟩
              case measure => have := unhide hless'; simp [intOf]; omega
    · have hge : ¬ (j : Int) < 6 := by omega
      obtain rfl : k = 5 := by omega
      clear hk hlt hj
      go_wp2_with fail
      exact unhide hK0 _ _ (ref_stairs s f d (unhide hd') (unhide hFr') h1f h3f w B G X Y wr (unhide hC1).cells (unhide hC1).xs (unhide hC1).ys (unhide hC1).res (unhide hC1).grown (unhide hC1).o0 (unhide hC1).o1 _ _ _ _ _ _ _ _ _ _ _ _ _ _ _ _ _ _ _ _ _ _ _ _ _ _ _ _ _ _ _ _ _ _ _ _ _ _ _ _ _ _ _ _ _ _ _ _ _ _ _ _ _ _ _ _ _ _ _ _ _ _ _ _ _ _ _ _ _ _ _ _ _ _ _ _ _ _ _ _ _ _ _ _ _ _ _ _ _ _ _ _ _ _ _ _ _ _ _ _ _ _ _ _ _ _ _ _ _ _ _ _ _ _ _ _ _ _ _ _ _ _ _ _ _ _ _ _ _ _ _ _ _ _ _ _ _ _ _ _ _ _ _ _ _ _ _ _ _ _ _ _ _ _ _ _ _ _ _ _ _ _ _ _ _ _ _ _ _ _ _ _ _ _ _ _ _ _ _ _ _ _ _ _ _ _ _ _ _ _ _ _ _ _ _ _ _ _ _ _ _ _ _ _ _ _ _ _ _ _ _ _ _ _ _ _ _ _ _ _ _ _ _ _ _ _ _ _ _ _ _ _ _ _ _ _ _ _ _ _ _ _ _ _ _ _ _ _ _ _ _ _ _ _ _ _ _ _ _ _ _ _ _ _ _ _ _ _ _ _ _ _ _ _ _ _ _ _ _ _ _ _ _ _ _ _ _ _ _ _ _ _ _ _ _ _ _ _ _ _ _ _ _ _ _ _ _ _ _ _ _ _ _ _ _ _ _ _ _ _)

end Go.Proofs.Ythofgjphoahkfaa
