/-
  The document's Make, said again: corridors.
  The document's Make, said again: rooms, and all of it.
  A floor that the document makes: its cells, and that what can be walked on hangs together.
  Items, as numbers: what lies where, what a hero does to them, and that each stays in one place of its own.
-/
import Derived.Test.YtbploaihicakeaaPart12
import Derived.Test.YtbploaihicakeaaPart09
import Derived.Test.YtbploaihicakeaaPart08
import Derived.Test.YtbploaihicakeaaPart01
namespace Go.Proofs.Ytbploaihicakeaa
open Go.RowKit

structure RefCor (w : World) (B G X Y : Nat) (d : Gn.Dice) (c : Nat → Int) (wr : World) : Prop where
  cells : Arr wr G 5 384 (Byts c)
  xs : Arr wr X 79 6 (fun j => .int .i64 (Gn.mx d j))
  ys : Arr wr Y 79 6 (fun j => .int .i64 (Gn.my d j))
  res : Arr wr B 68 3 (fun _ => .slice none 0 0)
  grown : w.grownBy wr none
  o0 : w.heap.size ≤ B
  o1 : B < G
  o2 : G < X
  o3 : X < Y

theorem RefCor.on {w : World} {B G X Y : Nat} {d : Gn.Dice} {c : Nat → Int} {wr wx : World} (h : RefCor w B G X Y d c wr) (hg : wr.grownBy wx none) : RefCor w B G X Y d c wx :=
  ⟨h.cells.grown hg (by simp), h.xs.grown hg (by simp), h.ys.grown hg (by simp), h.res.grown hg (by simp), grown_none h.grown hg, h.o0, h.o1, h.o2, h.o3⟩

theorem RefCor.dig {w : World} {B G X Y : Nat} {d : Gn.Dice} {c c' : Nat → Int} {wr wx : World} (h : RefCor w B G X Y d c wr) (hA : Arr wx G 5 384 (Byts c')) (hg : wr.grownBy wx (some G)) : RefCor w B G X Y d c' wx := by
  have h0 := h.o0
  have h1 := h.o1
  have h2 := h.o2
  have h3 := h.o3
  exact ⟨hA, h.xs.grown hg (by simp; omega), h.ys.grown hg (by simp; omega), h.res.grown hg (by simp; omega), grown_own h.grown hg (fun n e => by cases e; omega), h0, h1, h2, h3⟩

set_option maxRecDepth 100000 in
set_option maxHeartbeats 8000000 in
theorem ref_corr (s f : Int) (d : Gn.Dice) (hd : ∀ a b n, Gn.D s f a b n = d a b n) (hFr : Gn.Fair d) (h1f : 1 ≤ f) (h3f : f ≤ 3) (w : World) (B G X Y : Nat) (wr : World)
    (hC : RefCor w B G X Y d (Gn.dug d 0) wr) (t2 t3 t8 t9 t10 t11 t12 t13 t14 t15 t16 t17 t18 t19 t20 t21 t22 t23 t24 t25 t26 t27 t28 t29 t30 t31 t32 t33 t34 t35 t36 t37 t38 t39 t40 t41 t42 t43 t44 t45 t46 t47 t48 t49 t50 t51 t52 t53 t54 t55 t56 t57 t58 t59 t60 t61 t62 t63 t64 t65 t66 t67 t68 t69 t70 t71 t72 t73 t74 t75 t76 t77 t78 t79 t80 t81 t82 t83 t84 t85 t86 t87 t88 t89 t90 t91 t92 t93 t94 t95 t96 t97 t98 t99 t100 t101 t102 t103 t104 t105 t106 t107 t108 t109 t110 t111 t112 t113 t114 t115 t116 t117 t118 t119 t120 t121 t122 t123 t124 t125 t126 t127 t128 t129 t130 t131 t132 t133 t134 t135 t136 t137 t138 t139 t140 t141 t142 t143 t144 t145 t146 t147 t148 t149 t150 t151 t152 t153 t154 t155 t156 t157 t158 t159 t160 t161 t162 t163 t164 t165 t166 t167 t168 t169 t170 t171 t172 t173 t174 t175 t176 t177 t178 t179 t180 t181 t182 t183 t184 t185 t186 t187 t188 t189 t190 t191 t192 t193 t194 t195 t196 t197 t198 t199 t200 t201 t202 t203 t204 t205 t206 t207 t208 t209 t210 t211 t212 t213 t214 t215 t216 t217 t218 t219 t220 t221 t222 t223 t224 t225 t226 t227 t228 t229 t230 t231 t232 t233 t234 t235 t236 t237 t238 t239 t240 t241 t242 t243 t244 t245 t246 t247 t248 t249 t250 t251 t252 t253 t254 t255 t256 t257 t258 t259 t260 t261 t262 t263 t264 t265 t266 t267 t268 t269 t270 t271 t272 t273 t274 t275 t276 t277 t278 t279 t280 t281 t282 t283 t284 t285 t286 t287 t288 t289 t290 t291 t292 t293 t294 t295 t296 t297 t298 t299 t300 t301 t302 t303 t304 t305 t306 t307 t308 t309 t310 t311 t312 t313 t314 t315 t316 t317 t318 t319 t320 t321 t322 t323 t324 t325 : Value) :
    Code.wp Try.prog ((Try.f41.body.map (cdrop 4)).getD .skip) (bodyPost Try.prog Try.f41 (RefDone w d f)) ⟨#[.int .i64 s, .int .i64 f, t2, t3, .pointer (some ⟨B, 0, none⟩), .slice (some ⟨G, 0, none⟩) 384 384, .pointer (some ⟨X, 0, none⟩), .pointer (some ⟨Y, 0, none⟩), t8, t9, t10, t11, t12, t13, t14, t15, t16, t17, t18, t19, t20, t21, t22, t23, t24, t25, t26, t27, t28, t29, t30, t31, t32, t33, t34, t35, t36, t37, t38, t39, t40, t41, t42, t43, t44, t45, t46, t47, t48, t49, t50, t51, t52, t53, t54, t55, t56, t57, t58, t59, t60, t61, t62, t63, t64, t65, t66, t67, t68, t69, t70, t71, t72, t73, t74, t75, t76, t77, t78, t79, t80, t81, t82, t83, t84, t85, t86, t87, t88, t89, t90, t91, t92, t93, t94, t95, t96, t97, t98, t99, t100, t101, t102, t103, t104, t105, t106, t107, t108, t109, t110, t111, t112, t113, t114, t115, t116, t117, t118, t119, t120, t121, t122, t123, t124, t125, t126, t127, t128, t129, t130, t131, t132, t133, t134, t135, t136, t137, t138, t139, t140, t141, t142, t143, t144, t145, t146, t147, t148, t149, t150, t151, t152, t153, t154, t155, t156, t157, t158, t159, t160, t161, t162, t163, t164, t165, t166, t167, t168, t169, t170, t171, t172, t173, t174, t175, t176, t177, t178, t179, t180, t181, t182, t183, t184, t185, t186, t187, t188, t189, t190, t191, t192, t193, t194, t195, t196, t197, t198, t199, t200, t201, t202, t203, t204, t205, t206, t207, t208, t209, t210, t211, t212, t213, t214, t215, t216, t217, t218, t219, t220, t221, t222, t223, t224, t225, t226, t227, t228, t229, t230, t231, t232, t233, t234, t235, t236, t237, t238, t239, t240, t241, t242, t243, t244, t245, t246, t247, t248, t249, t250, t251, t252, t253, t254, t255, t256, t257, t258, t259, t260, t261, t262, t263, t264, t265, t266, t267, t268, t269, t270, t271, t272, t273, t274, t275, t276, t277, t278, t279, t280, t281, t282, t283, t284, t285, t286, t287, t288, t289, t290, t291, t292, t293, t294, t295, t296, t297, t298, t299, t300, t301, t302, t303, t304, t305, t306, t307, t308, t309, t310, t311, t312, t313, t314, t315, t316, t317, t318, t319, t320, t321, t322, t323, t324, t325], []⟩ wr := by
  conv => arg 2; whnf
  have hd' := hide hd
  have hFr' := hide hFr
  have hC' := hide hC
  clear hd hFr hC
  go_wp2_with fail
  go_loopw [15] (fun vi wr => ∃ j k : Nat, k ≤ 5 ∧ j = k + 1 ∧ vi = .int .i64 (j : Int) ∧ RefCor w B G X Y d (Gn.dug d k) wr) (fun vi _ => 6 - (intOf vi).toNat)
  case atStart => exact ⟨1, 0, by omega, rfl, rfl, unhide hC'⟩
  case round =>
    clear hC'
    rename_i hKK
    have hK0 := hide hKK
    clear hKK
    obtain ⟨j, k, hk, hj, rfl, hC⟩ := hrel
    have hC1 := hide hC
    clear hC
    by_cases hlt : k < 5
    · have hlt' : (j : Int) < 6 := by omega
      have hjk : (j : Int) - 1 = (k : Int) := by omega
      have hk2 : (k : Int) < 6 := by omega
      have hwr : IntKind.i64.wrap ((j : Int) - 1) = (k : Int) := by rw [hjk, IntKind.wrap_i64]; omega
      have hwr2 : IntKind.i64.wrap (k : Int) = (k : Int) := by rw [IntKind.wrap_i64]; omega
      obtain ⟨D0, hD0⟩ : ∃ x, x = d (j : Int) 4 2 := ⟨_, rfl⟩
      obtain ⟨x0, hx0⟩ : ∃ x, x = Gn.mx d k := ⟨_, rfl⟩
      obtain ⟨y0, hy0⟩ : ∃ x, x = Gn.my d k := ⟨_, rfl⟩
      obtain ⟨tx, hx1⟩ : ∃ x, x = Gn.mx d j := ⟨_, rfl⟩
      obtain ⟨ty, hy1⟩ : ∃ x, x = Gn.my d j := ⟨_, rfl⟩
      have b0 := Gn.mid_bd (unhide hFr') k
      have b1 := Gn.mid_bd (unhide hFr') j
      rw [← hx0, ← hy0] at b0
      rw [← hx1, ← hy1] at b1
      obtain ⟨a1, a2, a3, a4⟩ := b0
      obtain ⟨a5, a6, a7, a8⟩ := b1
      have keep : Hid (∀ x c, RefCor w B G X Y d c x → (x.cell? ⟨X, j, none⟩ = some (.int .i64 tx) ∧ x.cell? ⟨Y, j, none⟩ = some (.int .i64 ty))) := fun x c hx => by
        rw [hx1, hy1]
        exact ⟨hx.xs.cell (by omega), hx.ys.cell (by omega)⟩
      have p1 : wr.cell? ⟨X, k, none⟩ = some (.int .i64 x0) := by rw [hx0]; exact (unhide hC1).xs.cell (by omega)
      have p2 : wr.cell? ⟨Y, k, none⟩ = some (.int .i64 y0) := by rw [hy0]; exact (unhide hC1).ys.cell (by omega)
      obtain ⟨c0, hc0⟩ : ∃ c0 : Nat, y0 * 24 + x0 = (c0 : Int) := ⟨(y0 * 24 + x0).toNat, by omega⟩
      have hdr : Hid (∀ n, RefCor w B G X Y d (Gn.dug d k) (wr.drewN n)) := fun n => (unhide hC1).on (grown_drew (World.grownBy.refl _ none) n)
      have hdg : Hid (∀ n, Calls Try.prog 51 #[.slice (some ⟨G, 0, none⟩) 384 384, .int .i64 x0, .int .i64 y0, .bool false] (wr.drewN n) fun e w' => e = .returned (.bool (Gn.digAt (Gn.dug d k, false) c0).2) ∧ Arr w' G 5 384 (Byts (Gn.digAt (Gn.dug d k, false) c0).1) ∧ (wr.drewN n).grownBy w' (some G)) :=
        fun n => refDig_any G (Gn.dug d k, false) x0 y0 c0 (wr.drewN n) (unhide hdr n).cells (Gn.dug_5 d k) (by omega) hc0
      obtain ⟨FIN, hFIN⟩ : ∃ F, F = Gn.digRun tx ty (D0 == 0) (Gn.steps x0 y0 tx ty) (Gn.dug d k, false) x0 y0 := ⟨_, rfl⟩
      have hdug : Hid (Gn.dug d j = FIN.1) := by
        show Gn.dug d j = FIN.1
        rw [hFIN, hx0, hy0, hx1, hy1, hD0, hj]
        rfl
      have hFIN' := hide hFIN
      have hdie := hide (fun x => refD_any s f (j : Int) 4 2 x (by omega))
      have hD0' := hide hD0
      have hc0' := hide hc0
      have h5' : Hid (∀ i, 0 ≤ Gn.dug d k i ∧ Gn.dug d k i ≤ 5) := Gn.dug_5 d k
      have hj' := hide hj
      clear hD0 hx0 hy0 hx1 hy1 hFIN hj hlt hk
      go_wp2_with fail
      go_quiet (fail)
      go_wp2_with fail
      refine (unhide hdg _).mono ?_
      rintro e wd ⟨rfl, hAd, hgd⟩
      have hC2 := hide ((unhide hdr _).dig hAd hgd)
      clear hAd hgd hdg hdr p1 p2
      go_wp2_with fail
      have hdie2 := unhide hdie wd
      rw [unhide hd', ← unhide hD0'] at hdie2
      refine hdie2.mono ?_
      rintro e we ⟨rfl, hge⟩
      have hC3 := hide ((unhide hC2).on hge)
      clear hge hC2 hdie2 hdie hC1
      clear wd
      obtain ⟨first, hfst⟩ : ∃ b, (D0 == 0) = b := ⟨_, rfl⟩
      have hFIN2 : Hid (Gn.digRun tx ty first (Gn.steps x0 y0 tx ty) (Gn.dug d k, false) x0 y0 = FIN) := by
        rw [← hfst]
        exact (unhide hFIN').symm
      clear hFIN'
      go_wp2_with fail
      go_loopw [16, 17, 18] (fun vx vy vd wr => ∃ (x y : Int) (st : (Nat → Int) × Bool) (c0 : Nat), vx = .int .i64 x ∧ vy = .int .i64 y ∧ vd = .bool (Gn.digAt st c0).2 ∧ ((1 ≤ x ∧ x ≤ 22) ∧ 1 ≤ y ∧ y ≤ 14) ∧ y * 24 + x = (c0 : Int) ∧ (∀ i, 0 ≤ st.1 i ∧ st.1 i ≤ 5) ∧ Gn.digRun tx ty first (Gn.steps x y tx ty) st x y = FIN ∧ RefCor w B G X Y d (Gn.digAt st c0).1 wr) (fun vx vy _ _ => Gn.steps (intOf vx) (intOf vy) tx ty)
      case atStart => exact ⟨x0, y0, (Gn.dug d k, false), c0, rfl, rfl, rfl, ⟨⟨a1, a2⟩, a3, a4⟩, unhide hc0', unhide h5', unhide hFIN2, unhide hC3⟩
      case round =>
        clear hC3 hFIN2 hfst
        obtain ⟨x, y, st, q0, rfl, rfl, rfl, ⟨⟨e1, e2⟩, e3, e4⟩, hq0, h5, hrun, hC⟩ := hrel
        have hC1 := hide hC
        have hrun' := hide hrun
        have h5s := hide h5
        have hq0' := hide hq0
        obtain ⟨p1, p2⟩ := unhide keep _ _ hC
        obtain ⟨dr, hdr⟩ : ∃ b, b = (Gn.digAt st q0).2 := ⟨_, rfl⟩
        rw [← hdr]
        have hdr' := hide hdr
        clear hC hrun h5 hq0 hdr
        by_cases hx : x = tx
        · by_cases hy : y = ty
          · have hend : Hid (FIN = Gn.digAt st q0) := by
              have h := unhide hrun'
              rw [Gn.run_end hx hy (unhide hq0')] at h
              exact h.symm
            have hfin : Hid (RefCor w B G X Y d (Gn.dug d j) wr) := by rw [unhide hdug, unhide hend]; exact unhide hC1
            have hx' : (x != tx) = false := by simpa using hx
            have hy' : (y != ty) = false := by simpa using hy
            clear hx hy
            go_wp2
            go_roundw
            case rel => exact ⟨j + 1, j, by omega, rfl, by go_num, unhide hfin⟩
            case measure => simp [intOf]; omega
          · have hne : Hid (¬ (x = tx ∧ y = ty)) := fun h => hy h.2
            have hnt : Hid (y ≠ ty) := hy
            have hx' : (x != tx) = false := by simpa using hx
            have hy' : (y != ty) = true := by simpa using hy
            have hyq : (y == ty) = false := by simpa using hy
            clear hx hy
            cases first with
            | true =>
              have ew : Gn.way x y tx ty true = false := by unfold Gn.way; rw [hyq, hx']; rfl
              have eX : Gn.stepX x y tx ty true = x := by unfold Gn.stepX; rw [ew]; rfl
              have eY : Gn.stepY x y tx ty true = Gn.to1 y ty := by unfold Gn.stepY; rw [ew]; rfl
              have hrun2 : Hid (Gn.digRun tx ty true (Gn.steps (x) (Gn.to1 y ty) tx ty) (Gn.digAt st q0) (x) (Gn.to1 y ty) = FIN) := by
                have h := unhide hrun'
                rw [Gn.run_on (c := q0) (unhide hne) (unhide hq0'), eX, eY] at h
                exact h
              have hbd2 : (1 ≤ (x) ∧ (x) ≤ 22) ∧ 1 ≤ (Gn.to1 y ty) ∧ (Gn.to1 y ty) ≤ 14 := by
                have h := Gn.step_bd x y tx ty true ⟨⟨e1, e2⟩, e3, e4⟩ ⟨⟨a5, a6⟩, a7, a8⟩
                rw [eX, eY] at h
                exact h
              have hless : Gn.steps (x) (Gn.to1 y ty) tx ty + 1 = Gn.steps x y tx ty := by
                have h := Gn.step_less x y tx ty true (unhide hne)
                rw [eX, eY] at h
                exact h
              obtain ⟨z, hz⟩ : ∃ z, z = Gn.to1 y ty := ⟨_, rfl⟩
              rw [← hz] at hrun2 hbd2 hless
              have htw := toward_any y ty wr (unhide hnt) (by omega) (by omega)
              rw [← hz] at htw
              have htw' := hide htw
              obtain ⟨c1, hc1⟩ : ∃ c1 : Nat, z * 24 + x = (c1 : Int) := ⟨(z * 24 + x).toNat, by omega⟩
              have hdg := hide (refDig_any G (Gn.digAt st q0) x z c1 wr (unhide hC1).cells (Gn.digAt_5 (unhide h5s)) hbd2 hc1)
              rw [← unhide hdr'] at hdg
              have hc1' := hide hc1
              have hless' := hide hless
              obtain ⟨⟨g1, g2⟩, g3, g4⟩ := hbd2
              clear eX eY ew hz htw hc1 hless
              go_wp2_with fail
              refine (unhide htw').mono ?_
              rintro e w' ⟨rfl, hw⟩
              subst w'
              go_wp2_with fail
              refine (unhide hdg).mono ?_
              rintro e wy ⟨rfl, hAy, hgy⟩
              have hC2 := hide ((unhide hC1).dig hAy hgy)
              clear hAy hgy hdg htw' hC1
              go_wp2
              go_roundw
              case rel => exact ⟨x, z, Gn.digAt st q0, c1, rfl, rfl, rfl, ⟨⟨g1, g2⟩, g3, g4⟩, unhide hc1', Gn.digAt_5 (unhide h5s), unhide hrun2, unhide hC2⟩
              case measure => have := unhide hless'; simp [intOf]; omega
            | false =>
              have ew : Gn.way x y tx ty false = false := by unfold Gn.way; rw [hyq]; rfl
              have eX : Gn.stepX x y tx ty false = x := by unfold Gn.stepX; rw [ew]; rfl
              have eY : Gn.stepY x y tx ty false = Gn.to1 y ty := by unfold Gn.stepY; rw [ew]; rfl
              have hrun2 : Hid (Gn.digRun tx ty false (Gn.steps (x) (Gn.to1 y ty) tx ty) (Gn.digAt st q0) (x) (Gn.to1 y ty) = FIN) := by
                have h := unhide hrun'
                rw [Gn.run_on (c := q0) (unhide hne) (unhide hq0'), eX, eY] at h
                exact h
              have hbd2 : (1 ≤ (x) ∧ (x) ≤ 22) ∧ 1 ≤ (Gn.to1 y ty) ∧ (Gn.to1 y ty) ≤ 14 := by
                have h := Gn.step_bd x y tx ty false ⟨⟨e1, e2⟩, e3, e4⟩ ⟨⟨a5, a6⟩, a7, a8⟩
                rw [eX, eY] at h
                exact h
              have hless : Gn.steps (x) (Gn.to1 y ty) tx ty + 1 = Gn.steps x y tx ty := by
                have h := Gn.step_less x y tx ty false (unhide hne)
                rw [eX, eY] at h
                exact h
              obtain ⟨z, hz⟩ : ∃ z, z = Gn.to1 y ty := ⟨_, rfl⟩
              rw [← hz] at hrun2 hbd2 hless
              have htw := toward_any y ty wr (unhide hnt) (by omega) (by omega)
              rw [← hz] at htw
              have htw' := hide htw
              obtain ⟨c1, hc1⟩ : ∃ c1 : Nat, z * 24 + x = (c1 : Int) := ⟨(z * 24 + x).toNat, by omega⟩
              have hdg := hide (refDig_any G (Gn.digAt st q0) x z c1 wr (unhide hC1).cells (Gn.digAt_5 (unhide h5s)) hbd2 hc1)
              rw [← unhide hdr'] at hdg
              have hc1' := hide hc1
              have hless' := hide hless
              obtain ⟨⟨g1, g2⟩, g3, g4⟩ := hbd2
              clear eX eY ew hz htw hc1 hless
              go_wp2_with fail
              refine (unhide htw').mono ?_
              rintro e w' ⟨rfl, hw⟩
              subst w'
              go_wp2_with fail
              refine (unhide hdg).mono ?_
              rintro e wy ⟨rfl, hAy, hgy⟩
              have hC2 := hide ((unhide hC1).dig hAy hgy)
              clear hAy hgy hdg htw' hC1
              go_wp2
              go_roundw
              case rel => exact ⟨x, z, Gn.digAt st q0, c1, rfl, rfl, rfl, ⟨⟨g1, g2⟩, g3, g4⟩, unhide hc1', Gn.digAt_5 (unhide h5s), unhide hrun2, unhide hC2⟩
              case measure => have := unhide hless'; simp [intOf]; omega
        · have hne : Hid (¬ (x = tx ∧ y = ty)) := fun h => hx h.1
          have hx' : (x != tx) = true := by simpa using hx
          have hnx := hide hx
          clear hx
          cases first with
          | true =>
            have hnt : Hid (x ≠ tx) := hnx
            have ew : Gn.way x y tx ty true = true := by unfold Gn.way; rw [hx', Bool.true_and, Bool.or_true]
            have eX : Gn.stepX x y tx ty true = Gn.to1 x tx := by unfold Gn.stepX; rw [ew]; rfl
            have eY : Gn.stepY x y tx ty true = y := by unfold Gn.stepY; rw [ew]; rfl
            have hrun2 : Hid (Gn.digRun tx ty true (Gn.steps (Gn.to1 x tx) (y) tx ty) (Gn.digAt st q0) (Gn.to1 x tx) (y) = FIN) := by
              have h := unhide hrun'
              rw [Gn.run_on (c := q0) (unhide hne) (unhide hq0'), eX, eY] at h
              exact h
            have hbd2 : (1 ≤ (Gn.to1 x tx) ∧ (Gn.to1 x tx) ≤ 22) ∧ 1 ≤ (y) ∧ (y) ≤ 14 := by
              have h := Gn.step_bd x y tx ty true ⟨⟨e1, e2⟩, e3, e4⟩ ⟨⟨a5, a6⟩, a7, a8⟩
              rw [eX, eY] at h
              exact h
            have hless : Gn.steps (Gn.to1 x tx) (y) tx ty + 1 = Gn.steps x y tx ty := by
              have h := Gn.step_less x y tx ty true (unhide hne)
              rw [eX, eY] at h
              exact h
            obtain ⟨z, hz⟩ : ∃ z, z = Gn.to1 x tx := ⟨_, rfl⟩
            rw [← hz] at hrun2 hbd2 hless
            have htw := toward_any x tx wr (unhide hnt) (by omega) (by omega)
            rw [← hz] at htw
            have htw' := hide htw
            obtain ⟨c1, hc1⟩ : ∃ c1 : Nat, y * 24 + z = (c1 : Int) := ⟨(y * 24 + z).toNat, by omega⟩
            have hdg := hide (refDig_any G (Gn.digAt st q0) z y c1 wr (unhide hC1).cells (Gn.digAt_5 (unhide h5s)) hbd2 hc1)
            rw [← unhide hdr'] at hdg
            have hc1' := hide hc1
            have hless' := hide hless
            obtain ⟨⟨g1, g2⟩, g3, g4⟩ := hbd2
            clear eX eY ew hz htw hc1 hless
            go_wp2_with fail
            refine (unhide htw').mono ?_
            rintro e w' ⟨rfl, hw⟩
            subst w'
            go_wp2_with fail
            refine (unhide hdg).mono ?_
            rintro e wy ⟨rfl, hAy, hgy⟩
            have hC2 := hide ((unhide hC1).dig hAy hgy)
            clear hAy hgy hdg htw' hC1
            go_wp2
            go_roundw
            case rel => exact ⟨z, y, Gn.digAt st q0, c1, rfl, rfl, rfl, ⟨⟨g1, g2⟩, g3, g4⟩, unhide hc1', Gn.digAt_5 (unhide h5s), unhide hrun2, unhide hC2⟩
            case measure => have := unhide hless'; simp [intOf]; omega
          | false =>
            by_cases hy : y = ty
            · have hnt : Hid (x ≠ tx) := hnx
              have hyq : (y == ty) = true := by simpa using hy
              clear hy
              have ew : Gn.way x y tx ty false = true := by unfold Gn.way; rw [hyq]; rfl
              have eX : Gn.stepX x y tx ty false = Gn.to1 x tx := by unfold Gn.stepX; rw [ew]; rfl
              have eY : Gn.stepY x y tx ty false = y := by unfold Gn.stepY; rw [ew]; rfl
              have hrun2 : Hid (Gn.digRun tx ty false (Gn.steps (Gn.to1 x tx) (y) tx ty) (Gn.digAt st q0) (Gn.to1 x tx) (y) = FIN) := by
                have h := unhide hrun'
                rw [Gn.run_on (c := q0) (unhide hne) (unhide hq0'), eX, eY] at h
                exact h
              have hbd2 : (1 ≤ (Gn.to1 x tx) ∧ (Gn.to1 x tx) ≤ 22) ∧ 1 ≤ (y) ∧ (y) ≤ 14 := by
                have h := Gn.step_bd x y tx ty false ⟨⟨e1, e2⟩, e3, e4⟩ ⟨⟨a5, a6⟩, a7, a8⟩
                rw [eX, eY] at h
                exact h
              have hless : Gn.steps (Gn.to1 x tx) (y) tx ty + 1 = Gn.steps x y tx ty := by
                have h := Gn.step_less x y tx ty false (unhide hne)
                rw [eX, eY] at h
                exact h
              obtain ⟨z, hz⟩ : ∃ z, z = Gn.to1 x tx := ⟨_, rfl⟩
              rw [← hz] at hrun2 hbd2 hless
              have htw := toward_any x tx wr (unhide hnt) (by omega) (by omega)
              rw [← hz] at htw
              have htw' := hide htw
              obtain ⟨c1, hc1⟩ : ∃ c1 : Nat, y * 24 + z = (c1 : Int) := ⟨(y * 24 + z).toNat, by omega⟩
              have hdg := hide (refDig_any G (Gn.digAt st q0) z y c1 wr (unhide hC1).cells (Gn.digAt_5 (unhide h5s)) hbd2 hc1)
              rw [← unhide hdr'] at hdg
              have hc1' := hide hc1
              have hless' := hide hless
              obtain ⟨⟨g1, g2⟩, g3, g4⟩ := hbd2
              clear eX eY ew hz htw hc1 hless
              go_wp2_with fail
              refine (unhide htw').mono ?_
              rintro e w' ⟨rfl, hw⟩
              subst w'
              go_wp2_with fail
              refine (unhide hdg).mono ?_
              rintro e wy ⟨rfl, hAy, hgy⟩
              have hC2 := hide ((unhide hC1).dig hAy hgy)
              clear hAy hgy hdg htw' hC1
              go_wp2
              go_roundw
              case rel => exact ⟨z, y, Gn.digAt st q0, c1, rfl, rfl, rfl, ⟨⟨g1, g2⟩, g3, g4⟩, unhide hc1', Gn.digAt_5 (unhide h5s), unhide hrun2, unhide hC2⟩
              case measure => have := unhide hless'; simp [intOf]; omega
            · have hnt : Hid (y ≠ ty) := hy
              have hyq : (y == ty) = false := by simpa using hy
              clear hy
              have ew : Gn.way x y tx ty false = false := by unfold Gn.way; rw [hyq]; rfl
              have eX : Gn.stepX x y tx ty false = x := by unfold Gn.stepX; rw [ew]; rfl
              have eY : Gn.stepY x y tx ty false = Gn.to1 y ty := by unfold Gn.stepY; rw [ew]; rfl
              have hrun2 : Hid (Gn.digRun tx ty false (Gn.steps (x) (Gn.to1 y ty) tx ty) (Gn.digAt st q0) (x) (Gn.to1 y ty) = FIN) := by
                have h := unhide hrun'
                rw [Gn.run_on (c := q0) (unhide hne) (unhide hq0'), eX, eY] at h
                exact h
              have hbd2 : (1 ≤ (x) ∧ (x) ≤ 22) ∧ 1 ≤ (Gn.to1 y ty) ∧ (Gn.to1 y ty) ≤ 14 := by
                have h := Gn.step_bd x y tx ty false ⟨⟨e1, e2⟩, e3, e4⟩ ⟨⟨a5, a6⟩, a7, a8⟩
                rw [eX, eY] at h
                exact h
              have hless : Gn.steps (x) (Gn.to1 y ty) tx ty + 1 = Gn.steps x y tx ty := by
                have h := Gn.step_less x y tx ty false (unhide hne)
                rw [eX, eY] at h
                exact h
              obtain ⟨z, hz⟩ : ∃ z, z = Gn.to1 y ty := ⟨_, rfl⟩
              rw [← hz] at hrun2 hbd2 hless
              have htw := toward_any y ty wr (unhide hnt) (by omega) (by omega)
              rw [← hz] at htw
              have htw' := hide htw
              obtain ⟨c1, hc1⟩ : ∃ c1 : Nat, z * 24 + x = (c1 : Int) := ⟨(z * 24 + x).toNat, by omega⟩
              have hdg := hide (refDig_any G (Gn.digAt st q0) x z c1 wr (unhide hC1).cells (Gn.digAt_5 (unhide h5s)) hbd2 hc1)
              rw [← unhide hdr'] at hdg
              have hc1' := hide hc1
              have hless' := hide hless
              obtain ⟨⟨g1, g2⟩, g3, g4⟩ := hbd2
              clear eX eY ew hz htw hc1 hless
              go_wp2_with fail
              refine (unhide htw').mono ?_
              rintro e w' ⟨rfl, hw⟩
              subst w'
              go_wp2_with fail
              refine (unhide hdg).mono ?_
              rintro e wy ⟨rfl, hAy, hgy⟩
              have hC2 := hide ((unhide hC1).dig hAy hgy)
              clear hAy hgy hdg htw' hC1
              go_wp2
              go_roundw
              case rel => exact ⟨x, z, Gn.digAt st q0, c1, rfl, rfl, rfl, ⟨⟨g1, g2⟩, g3, g4⟩, unhide hc1', Gn.digAt_5 (unhide h5s), unhide hrun2, unhide hC2⟩
              case measure => have := unhide hless'; simp [intOf]; omega
    · have hge : ¬ (j : Int) < 6 := by omega
      obtain rfl : k = 5 := by omega
      clear hk hlt hj
      go_wp2_with fail
      exact unhide hK0 _ _ (ref_stairs s f d (unhide hd') (unhide hFr') h1f h3f w B G X Y wr (unhide hC1).cells (unhide hC1).xs (unhide hC1).ys (unhide hC1).res (unhide hC1).grown (unhide hC1).o0 (unhide hC1).o1 _ _ _ _ _ _ _ _ _ _ _ _ _ _ _ _ _ _ _ _ _ _ _ _ _ _ _ _ _ _ _ _ _ _ _ _ _ _ _ _ _ _ _ _ _ _ _ _ _ _ _ _ _ _ _ _ _ _ _ _ _ _ _ _ _ _ _ _ _ _ _ _ _ _ _ _ _ _ _ _ _ _ _ _ _ _ _ _ _ _ _ _ _ _ _ _ _ _ _ _ _ _ _ _ _ _ _ _ _ _ _ _ _ _ _ _ _ _ _ _ _ _ _ _ _ _ _ _ _ _ _ _ _ _ _ _ _ _ _ _ _ _ _ _ _ _ _ _ _ _ _ _ _ _ _ _ _ _ _ _ _ _ _ _ _ _ _ _ _ _ _ _ _ _ _ _ _ _ _ _ _ _ _ _ _ _ _ _ _ _ _ _ _ _ _ _ _ _ _ _ _ _ _ _ _ _ _ _ _ _ _ _ _ _ _ _ _ _ _ _ _ _ _ _ _ _ _ _ _ _ _ _ _ _ _ _ _ _ _ _ _ _ _ _ _ _ _ _ _ _ _ _ _ _ _ _ _ _ _ _ _ _ _ _ _ _ _ _ _ _ _ _ _ _ _ _ _ _ _ _ _ _ _ _ _ _ _ _ _ _ _ _ _ _ _ _ _ _ _ _ _ _ _ _ _ _ _ _ _ _ _ _ _ _ _ _ _ _ _ _)

end Go.Proofs.Ytbploaihicakeaa

namespace Go.Proofs.Ytbploaihicakeaa
open Go.RowKit

structure RefRoom (w : World) (B G X Y : Nat) (d : Gn.Dice) (k : Nat) (c : Nat → Int) (wr : World) : Prop where
  cells : Arr wr G 5 384 (Byts c)
  xs : Arr wr X 79 6 (fun j => .int .i64 (if j < k then Gn.mx d j else 0))
  ys : Arr wr Y 79 6 (fun j => .int .i64 (if j < k then Gn.my d j else 0))
  res : Arr wr B 68 3 (fun _ => .slice none 0 0)
  grown : w.grownBy wr none
  o0 : w.heap.size ≤ B
  o1 : B < G
  o2 : G < X
  o3 : X < Y

theorem RefRoom.on {w : World} {B G X Y : Nat} {d : Gn.Dice} {k : Nat} {c : Nat → Int} {wr wx : World} (h : RefRoom w B G X Y d k c wr) (hg : wr.grownBy wx none) : RefRoom w B G X Y d k c wx :=
  ⟨h.cells.grown hg (by simp), h.xs.grown hg (by simp), h.ys.grown hg (by simp), h.res.grown hg (by simp), grown_none h.grown hg, h.o0, h.o1, h.o2, h.o3⟩

theorem RefRoom.congr {w : World} {B G X Y : Nat} {d : Gn.Dice} {k : Nat} {c c' : Nat → Int} {wr : World} (h : RefRoom w B G X Y d k c wr) (he : ∀ i, c i = c' i) : RefRoom w B G X Y d k c' wr := by
  obtain rfl : c = c' := funext he
  exact h

theorem RefRoom.put {w : World} {B G X Y : Nat} {d : Gn.Dice} {k : Nat} {c : Nat → Int} {wr : World} (h : RefRoom w B G X Y d k c wr) (i : Nat) (v : Int) : RefRoom w B G X Y d k (Gr.upd c i v) (wr.setCell ⟨G, i, none⟩ (.int .u8 v)) := by
  have h0 := h.o0
  have h1 := h.o1
  have h2 := h.o2
  have h3 := h.o3
  have hg := grown_put wr G i (.int .u8 v)
  exact ⟨h.cells.byte i v, h.xs.grown hg (by simp; omega), h.ys.grown hg (by simp; omega), h.res.grown hg (by simp; omega), grown_own h.grown hg (fun n e => by cases e; omega), h0, h1, h2, h3⟩

theorem RefRoom.next {w : World} {B G X Y : Nat} {d : Gn.Dice} {k : Nat} {c : Nat → Int} {wr : World} (h : RefRoom w B G X Y d k c wr) (u v : Int) (hu : u = Gn.mx d k) (hv : v = Gn.my d k) : RefRoom w B G X Y d (k + 1) c ((wr.setCell ⟨X, k, none⟩ (.int .i64 u)).setCell ⟨Y, k, none⟩ (.int .i64 v)) := by
  have h0 := h.o0
  have h1 := h.o1
  have h2 := h.o2
  have h3 := h.o3
  have g1 := grown_put wr X k (.int .i64 u)
  have g2 := grown_put (wr.setCell ⟨X, k, none⟩ (.int .i64 u)) Y k (.int .i64 v)
  refine ⟨(h.cells.grown g1 (by simp; omega)).grown g2 (by simp; omega), ((h.xs.store k (.int .i64 u)).grown g2 (by simp; omega)).congr fun j _ => fill_more hu j, ((h.ys.grown g1 (by simp; omega)).store k (.int .i64 v)).congr fun j _ => fill_more hv j, (h.res.grown g1 (by simp; omega)).grown g2 (by simp; omega), grown_own (grown_own h.grown g1 (fun n e => by cases e; omega)) g2 (fun n e => by cases e; omega), h0, h1, h2, h3⟩

set_option maxRecDepth 100000 in
set_option maxHeartbeats 8000000 in
theorem refMake_any (s f : Int) (d : Gn.Dice) (hd : ∀ a b n, Gn.D s f a b n = d a b n) (hFr : Gn.Fair d) (h1f : 1 ≤ f) (h3f : f ≤ 3) (w : World) :
    Calls Try.prog 41 #[.int .i64 s, .int .i64 f] w (RefDone w d f) := by
  obtain ⟨i0, hi, hz0, hz1, hz2⟩ := info_parts info_byte
  have hd' := hide hd
  have hF' := hide hFr
  clear hd hFr
  go_enter Try.func41, Try.ntmps41
  go_wp2_with (at_make; refine wpList_make_full _ rfl _ _ 25 rfl (w.heap.size + 1) 5 i0 (.int .u8 0) 1 Try.underlying25 hi hz0 hz1 .i64 .i64 _ _ 384 rfl rfl rfl rfl ?q3 ?q4 ?q5 ?_)
  any_goals (first | (rw [hz2]; decide) | decide | (simp; done))
  intro w2 hown hgrow
  have hA2 : Arr w2 (w.heap.size + 1) 5 384 (Byts fun _ => 0) := Arr.zero hown
  have hR2 : Arr w2 w.heap.size 68 3 (fun _ => .slice none 0 0) := by
    have h : Arr (w.alloc (.cells #[.slice none 0 0, .slice none 0 0, .slice none 0 0] 68)) w.heap.size 68 3 (fun _ => .slice none 0 0) := by
      refine ⟨_, heap_alloc_new _ _, rfl, fun j hj => ?_⟩
      rcases (show j = 0 ∨ j = 1 ∨ j = 2 by omega) with rfl | rfl | rfl <;> rfl
    exact h.grown hgrow (by simp)
  have hg2 : w.grownBy w2 none := grown_none (World.grownBy_alloc _ _ _) hgrow
  have hG2 := hA2.lt
  have hH2 : Hid (RefRoom w w.heap.size (w.heap.size + 1) w2.heap.size (w2.heap.size + 1) d 0 (Gn.roomed d 0) ((w2.alloc (.cells #[.int .i64 0, .int .i64 0, .int .i64 0, .int .i64 0, .int .i64 0, .int .i64 0] 79)).alloc (.cells #[.int .i64 0, .int .i64 0, .int .i64 0, .int .i64 0, .int .i64 0, .int .i64 0] 79))) := by
    have hz : ∀ (u : World) (F : Nat → Int), Arr (u.alloc (.cells #[.int .i64 0, .int .i64 0, .int .i64 0, .int .i64 0, .int .i64 0, .int .i64 0] 79)) u.heap.size 79 6 (fun j => .int .i64 (if j < 0 then F j else 0)) := fun u F => by
      refine ⟨_, heap_alloc_new _ _, rfl, fun j hj => ?_⟩
      rcases (show j = 0 ∨ j = 1 ∨ j = 2 ∨ j = 3 ∨ j = 4 ∨ j = 5 by omega) with rfl | rfl | rfl | rfl | rfl | rfl <;> rfl
    refine ⟨(hA2.alloc _).alloc _, (hz w2 (Gn.mx d)).alloc _, ?_, (hR2.alloc _).alloc _, grown_alloc (grown_alloc hg2 _) _, Nat.le_refl _, Nat.lt_succ_self _, hG2, Nat.lt_succ_self _⟩
    have h := hz (w2.alloc (.cells #[.int .i64 0, .int .i64 0, .int .i64 0, .int .i64 0, .int .i64 0, .int .i64 0] 79)) (Gn.my d)
    simpa using h
  obtain ⟨B, hB⟩ : ∃ B, B = w.heap.size := ⟨_, rfl⟩
  obtain ⟨G, hG⟩ : ∃ G, G = w.heap.size + 1 := ⟨_, rfl⟩
  obtain ⟨X, hX⟩ : ∃ X, X = w2.heap.size := ⟨_, rfl⟩
  obtain ⟨Y, hY⟩ : ∃ Y, Y = w2.heap.size + 1 := ⟨_, rfl⟩
  rw [← hG, ← hB, ← hX] at hH2
  clear hown hgrow hA2 hR2 hg2 hG2 hi hz0 hz1 hz2
  rw [← hG, ← hB]
  go_upto_region 3 with fail
  rw [← hX]
  have hY2 : Y = X + 1 := by rw [hY, hX]
  rw [← hY2] at hH2 ⊢
  obtain ⟨w3, hw3⟩ : ∃ w3, w3 = (w2.alloc (.cells #[.int .i64 0, .int .i64 0, .int .i64 0, .int .i64 0, .int .i64 0, .int .i64 0] 79)).alloc (.cells #[.int .i64 0, .int .i64 0, .int .i64 0, .int .i64 0, .int .i64 0, .int .i64 0] 79) := ⟨_, rfl⟩
  rw [← hw3] at hH2 ⊢
  clear hw3 hX hY hY2 hG hB
  clear w2
  rename_i K1 h1 K2 h2
  have hK0 := hide h1
  clear h1
  go_wp2_with fail
  go_loopw [8] (fun i wr => ∃ k : Nat, k ≤ 6 ∧ i = .int .i64 k ∧ RefRoom w B G X Y d k (Gn.roomed d k) wr) (fun i _ => 6 - (intOf i).toNat)
  case atStart => exact ⟨0, by omega, rfl, unhide hH2⟩
  case round =>
    clear hH2
    clear w3
    obtain ⟨k, hk, rfl, hH⟩ := hrel
    have hH1 := hide hH
    clear hH
    by_cases hlt : k < 6
    · have hlt' : (k : Int) < 6 := by omega
      have HL := hide hlt
      clear hlt hk
      obtain ⟨A0, hA0⟩ : ∃ x, x = d k 0 5 := ⟨_, rfl⟩
      obtain ⟨A1, hA1'⟩ : ∃ x, x = d k 1 4 := ⟨_, rfl⟩
      obtain ⟨A2, hA2⟩ : ∃ x, x = d k 2 (23 - (3 + A0)) := ⟨_, rfl⟩
      obtain ⟨A3, hA3⟩ : ∃ x, x = d k 3 (15 - (2 + A1)) := ⟨_, rfl⟩
      obtain ⟨a1, a2⟩ : 0 ≤ A0 ∧ A0 < 5 := by rw [hA0]; exact unhide hF' _ _ _ (by omega)
      obtain ⟨a3, a4⟩ : 0 ≤ A1 ∧ A1 < 4 := by rw [hA1']; exact unhide hF' _ _ _ (by omega)
      obtain ⟨a5, a6⟩ : 0 ≤ A2 ∧ A2 < 23 - (3 + A0) := by rw [hA2]; exact unhide hF' _ _ _ (by omega)
      obtain ⟨a7, a8⟩ : 0 ≤ A3 ∧ A3 < 15 - (2 + A1) := by rw [hA3]; exact unhide hF' _ _ _ (by omega)
      have c0 : Hid (∀ x, Calls Try.prog 50 #[.int .i64 s, .int .i64 f, .int .i64 k, .int .i64 0, .int .i64 5] x (Says x (.int .i64 A0))) := fun x => by
        have h := refD_any s f k 0 5 x (by omega)
        rw [unhide hd', ← hA0] at h
        exact h
      have c1 : Hid (∀ x, Calls Try.prog 50 #[.int .i64 s, .int .i64 f, .int .i64 k, .int .i64 1, .int .i64 4] x (Says x (.int .i64 A1))) := fun x => by
        have h := refD_any s f k 1 4 x (by omega)
        rw [unhide hd', ← hA1'] at h
        exact h
      have c2 : Hid (∀ x, Calls Try.prog 50 #[.int .i64 s, .int .i64 f, .int .i64 k, .int .i64 2, .int .i64 (23 - (3 + A0))] x (Says x (.int .i64 A2))) := fun x => by
        have h := refD_any s f k 2 (23 - (3 + A0)) x (by omega)
        rw [unhide hd', ← hA2] at h
        exact h
      have c3 : Hid (∀ x, Calls Try.prog 50 #[.int .i64 s, .int .i64 f, .int .i64 k, .int .i64 3, .int .i64 (15 - (2 + A1))] x (Says x (.int .i64 A3))) := fun x => by
        have h := refD_any s f k 3 (15 - (2 + A1)) x (by omega)
        rw [unhide hd', ← hA3] at h
        exact h
      have e0 := hide hA0
      have e1 := hide hA1'
      have e2 := hide hA2
      have e3 := hide hA3
      clear hA0 hA1' hA2 hA3
      go_wp2_with fail
      refine (unhide c0 _).mono ?_
      rintro e wa ⟨rfl, hga⟩
      have hHa := hide ((unhide hH1).on hga)
      clear hga hH1
      go_wp2_with fail
      refine (unhide c1 _).mono ?_
      rintro e wb ⟨rfl, hgb⟩
      have hHb := hide ((unhide hHa).on hgb)
      clear hgb hHa
      go_wp2_with fail
      refine (unhide c2 _).mono ?_
      rintro e wc ⟨rfl, hgc⟩
      have hHc := hide ((unhide hHb).on hgc)
      clear hgc hHb
      go_wp2_with fail
      refine (unhide c3 _).mono ?_
      rintro e wd ⟨rfl, hgd⟩
      have hHd := hide ((unhide hHc).on hgd)
      clear hgd hHc c0 c1 c2 c3
      clear wa wb wc
      go_wp2_with fail
      have hst := hide ((unhide hHd).congr (c' := Gn.paintTo (Gn.roomed d k) (1 + A2) (1 + A3) (3 + A0) (2 + A1) (1 + A3) (1 + A2)) fun j => by rw [Gn.paint_start])
      go_loopw [13] (fun i wr => ∃ r : Int, 1 + A3 ≤ r ∧ r ≤ 1 + A3 + (2 + A1) ∧ i = .int .i64 r ∧ RefRoom w B G X Y d k (Gn.paintTo (Gn.roomed d k) (1 + A2) (1 + A3) (3 + A0) (2 + A1) r (1 + A2)) wr) (fun i _ => (1 + A3 + (2 + A1) - intOf i).toNat)
      case atStart => exact ⟨1 + A3, by omega, by omega, rfl, unhide hst⟩
      case round =>
        clear hst hHd
        obtain ⟨r, hr1, hr2, rfl, hH⟩ := hrel
        have hH3 := hide hH
        clear hH
        by_cases hr : r < 1 + A3 + (2 + A1)
        · go_wp2_with fail
          go_loopw [14] (fun i wr => ∃ q : Int, 1 + A2 ≤ q ∧ q ≤ 1 + A2 + (3 + A0) ∧ i = .int .i64 q ∧ RefRoom w B G X Y d k (Gn.paintTo (Gn.roomed d k) (1 + A2) (1 + A3) (3 + A0) (2 + A1) r q) wr) (fun i _ => (1 + A2 + (3 + A0) - intOf i).toNat)
          case atStart => exact ⟨1 + A2, by omega, by omega, rfl, unhide hH3⟩
          case round =>
            obtain ⟨q, hq1, hq2, rfl, hH⟩ := hrel
            clear hH3
            have hH3 := hide hH
            clear hH
            by_cases hq : q < 1 + A2 + (3 + A0)
            · obtain ⟨c, hc⟩ : ∃ c : Nat, r * 24 + q = (c : Int) := ⟨(r * 24 + q).toNat, by omega⟩
              have hcl : c < 384 := by omega
              have hcc := (unhide hH3).cells.cell hcl
              have hcf := (unhide hH3).cells.free c
              have hstep := hide (((unhide hH3).put c 1).congr (c' := Gn.paintTo (Gn.roomed d k) (1 + A2) (1 + A3) (3 + A0) (2 + A1) r (q + 1)) fun j => Gn.paint_one (Gn.roomed d k) (1 + A2) (1 + A3) (3 + A0) (2 + A1) r q c hq1 (by omega) hr1 (by omega) (by omega) (by omega) hc j)
              have hc2 : (c : Int) < 384 := by omega
              clear hH3
              go_wp2
              go_roundw
              case rel => exact ⟨q + 1, by omega, by omega, by go_num, unhide hstep⟩
              case measure => simp [intOf]; omega
            · have hqe : q = 1 + A2 + (3 + A0) := by omega
              have hrow := hide ((unhide hH3).congr (c' := Gn.paintTo (Gn.roomed d k) (1 + A2) (1 + A3) (3 + A0) (2 + A1) (r + 1) (1 + A2)) fun j => by rw [hqe, Gn.paint_row])
              clear hqe hH3
              go_wp2
              go_roundw
              case rel => exact ⟨r + 1, by omega, by omega, by go_num, unhide hrow⟩
              case measure => simp [intOf]; omega
        · have hre : r = 1 + A3 + (2 + A1) := by omega
          have hrx : Gn.rw d k = 3 + A0 := by rw [unhide e0]; rfl
          have hrh : Gn.rh d k = 2 + A1 := by rw [unhide e1]; rfl
          have hxx : Gn.rx d k = 1 + A2 := by unfold Gn.rx; rw [hrx, ← unhide e2]
          have hyy : Gn.ry d k = 1 + A3 := by unfold Gn.ry; rw [hrh, ← unhide e3]
          have hmx : 1 + A2 + (3 + A0) / 2 = Gn.mx d k := by unfold Gn.mx; rw [hrx, hxx]
          have hmy : 1 + A3 + (2 + A1) / 2 = Gn.my d k := by unfold Gn.my; rw [hrh, hyy]
          have hroom := hide ((unhide hH3).congr (c' := Gn.roomed d (k + 1)) fun j => by rw [Gn.roomed, Gn.paint, hrx, hrh, hxx, hyy, hre])
          have hk6 := unhide HL
          have q1 := (unhide hH3).xs.cell hk6
          have q2 := (unhide hH3).ys.cell hk6
          have q3 := (unhide hH3).xs.free k
          have q4 := (unhide hH3).ys.free k
          have hmx' := hide hmx
          have hmy' := hide hmy
          have hxy := (unhide hH3).o3
          clear hre hrx hrh hxx hyy hmx hmy hH3 hk6
          go_wp2
          go_roundw
          case rel => exact ⟨k + 1, by have := unhide HL; omega, by go_num, (unhide hroom).next _ _ (unhide hmx') (unhide hmy')⟩
          case measure => have := unhide HL; simp [intOf]; omega
    · have hge : ¬ (k : Int) < 6 := by omega
      obtain rfl : k = 6 := by omega
      have hC : Hid (RefCor w B G X Y d (Gn.dug d 0) wr) := by
        have h := unhide hH1
        refine ⟨h.cells, h.xs.congr fun j hj => ?_, h.ys.congr fun j hj => ?_, h.res, h.grown, h.o0, h.o1, h.o2, h.o3⟩
        · rw [if_pos hj]
        · rw [if_pos hj]
      clear hk hlt
      go_wp2_with fail
      exact unhide hK0 _ _ (ref_corr s f d (unhide hd') (unhide hF') h1f h3f w B G X Y wr (unhide hC) _ _ _ _ _ _ _ _ _ _ _ _ _ _ _ _ _ _ _ _ _ _ _ _ _ _ _ _ _ _ _ _ _ _ _ _ _ _ _ _ _ _ _ _ _ _ _ _ _ _ _ _ _ _ _ _ _ _ _ _ _ _ _ _ _ _ _ _ _ _ _ _ _ _ _ _ _ _ _ _ _ _ _ _ _ _ _ _ _ _ _ _ _ _ _ _ _ _ _ _ _ _ _ _ _ _ _ _ _ _ _ _ _ _ _ _ _ _ _ _ _ _ _ _ _ _ _ _ _ _ _ _ _ _ _ _ _ _ _ _ _ _ _ _ _ _ _ _ _ _ _ _ _ _ _ _ _ _ _ _ _ _ _ _ _ _ _ _ _ _ _ _ _ _ _ _ _ _ _ _ _ _ _ _ _ _ _ _ _ _ _ _ _ _ _ _ _ _ _ _ _ _ _ _ _ _ _ _ _ _ _ _ _ _ _ _ _ _ _ _ _ _ _ _ _ _ _ _ _ _ _ _ _ _ _ _ _ _ _ _ _ _ _ _ _ _ _ _ _ _ _ _ _ _ _ _ _ _ _ _ _ _ _ _ _ _ _ _ _ _ _ _ _ _ _ _ _ _ _ _ _ _ _ _ _ _ _ _ _ _ _ _ _ _ _ _ _ _ _ _ _ _ _ _ _ _ _ _ _ _ _ _ _ _ _ _ _ _ _ _)

end Go.Proofs.Ytbploaihicakeaa

namespace Go.Proofs.Ytbploaihicakeaa
open Go.RowKit

/-- The cells of a floor: kinds; one at least can be walked on; and what can be hangs together. -/
structure Nv.Floor (c : Nat → Int) : Prop where
  five : ∀ i, 0 ≤ c i ∧ c i ≤ 5
  some : ∃ i, i < 384 ∧ c i ≠ 0
  hang : ∀ P, Gn.Closed c P → ∀ k, k < 384 → c k ≠ 0 → P k → ∀ i, i < 384 → c i ≠ 0 → P i
  stairs : ∃ u v, u < 384 ∧ v < 384 ∧ (∀ i, c i = 3 ↔ i = u) ∧ (∀ i, c i = 4 ↔ i = v)

theorem Nv.to_up {d : Gn.Dice} (hd : Gn.Fair d) {c F : Nat → Int} {far : Nat} (h : Gn.Facts d c F far) {P : Nat → Prop} (hC : Gn.Closed c P) : ∀ (n k : Nat), k < 384 → c k ≠ 0 → P k → F k = (n : Int) → P (Gn.up d) := by
  intro n
  induction n with
  | zero =>
    intro k hk _ hP e
    rw [← (h.fld.zero k hk).1 e]
    exact hP
  | succ n ih =>
    intro k hk hck hP e
    obtain ⟨_, j, dd, hj, hdd, hn, rfl, he⟩ := h.fld.back k hk (by omega)
    obtain ⟨b1, b2⟩ := Gr.nb_back hj hdd hn
    have hcj : c j ≠ 0 := (h.reach hd j hj).1 (by omega)
    refine ih j hj hcj ?_ (by omega)
    have := hC (Gr.nbOf j dd) (Gr.opp dd) hk (Gr.opp_lt hdd) hP b1 (by rw [b2]; exact hcj)
    rwa [b2] at this

theorem Nv.floor_of {d : Gn.Dice} (hd : Gn.Fair d) {c F : Nat → Int} (h : Gn.IsLevel d c F) : Nv.Floor c := by
  obtain ⟨far, hf⟩ := h.facts hd
  refine ⟨hf.five, ⟨far, hf.farl, by have := (hf.is4 far).2 rfl; omega⟩, fun P hC k hk hck hP i hi hci => ?_, ⟨Gn.up d, far, hf.upl, hf.farl, hf.is3, hf.is4⟩⟩
  have h0 := (hf.reach hd k hk).2 hck
  have hup := Nv.to_up hd hf hC (F k).toNat k hk hck hP (by omega)
  exact Gn.hangs hd (fun j _ => hf.nz j) hC hup i hi hci

theorem navMake_any (s f : Int) (h1 : 1 ≤ f) (h3 : f ≤ 3) (w : World) :
    Calls Try.prog 41 #[.int .i64 s, .int .i64 f] w fun e w' => ∃ (c : Nat → Int) (G nE nI cE cI : Nat) (aE aI : Option Addr), e = .returned (.agg #[.slice (some ⟨G, 0, none⟩) 384 384, .slice aE nE cE, .slice aI nI cI]) ∧ Nv.Floor c ∧ w.heap.size ≤ G ∧ Arr w' G 5 384 (Byts c) ∧ w.grownBy w' none := by
  obtain ⟨d, hd, hF⟩ := dice_of s f
  refine (refMake_any s f d hd hF h1 h3 w).mono ?_
  rintro e w' ⟨c, F, G, nE, nI, cE, cI, aE, aI, hlev, rfl, hG, hA, _, _, _, _, hg⟩
  exact ⟨c, G, _, _, _, _, _, _, rfl, Nv.floor_of hF hlev, hG, hA, hg⟩

theorem field_cells (v1 v2 v3 : Option Addr) (n1 n2 n3 c1 c2 c3 : Nat) (w : World) : (Instr.field 68 (.agg #[.slice v1 n1 c1, .slice v2 n2 c2, .slice v3 n3 c3]) 0).run Try.prog w = .ok (.slice v1 n1 c1) w := by kernel_rfl

end Go.Proofs.Ytbploaihicakeaa

namespace Go.Proofs.Ytbploaihicakeaa

namespace Gd

/-- A row of items: kind, where, A, B. -/
def row (k w a b : Int) : Nat → Int
  | 0 => k
  | 1 => w
  | 2 => a
  | 3 => b
  | _ => 0

def gone : Nat → Int := fun _ => 0

def inQ (I : Nat → Nat → Int) (w a b : Int) : Nat → Bool := fun i => decide (I i 1 = w) && (decide (I i 2 = a) && decide (I i 3 = b))

/-- The lowest item in a place; -1: there is none. -/
def find (I : Nat → Nat → Int) (n : Nat) (w a b : Int) : Int := En.first (inQ I w a b) n

/-- The lowest free slot of a seat's bag; -1: there is none. -/
def slot (I : Nat → Nat → Int) (n : Nat) (seat : Int) : Int := En.first (fun b => decide (find I n 2 seat (b : Int) < 0)) 4

def hasQ (I : Nat → Nat → Int) (n : Nat) (seat lo hi : Int) : Nat → Bool := fun b => decide (0 ≤ find I n 2 seat (b : Int)) && (decide (lo ≤ I (find I n 2 seat (b : Int)).toNat 0) && decide (I (find I n 2 seat (b : Int)).toNat 0 ≤ hi))

/-- The item of a kind from lo to hi in the lowest slot that holds one; -1: there is none. -/
def has (I : Nat → Nat → Int) (n : Nat) (seat lo hi : Int) : Int := if 0 ≤ En.first (hasQ I n seat lo hi) 4 then find I n 2 seat (En.first (hasQ I n seat lo hi) 4) else -1

/-- The ware in the lowest slot of the shop; -1: there is none. -/
def ware (I : Nat → Nat → Int) (n : Nat) : Int := if 0 ≤ En.first (fun k => decide (0 ≤ find I n 4 (k : Int) 0)) 3 then find I n 4 (En.first (fun k => decide (0 ≤ find I n 4 (k : Int) 0)) 3) 0 else -1

theorem find_cases (I : Nat → Nat → Int) (n : Nat) (w a b : Int) : (find I n w a b = -1 ∧ ∀ j, j < n → ¬ (I j 1 = w ∧ I j 2 = a ∧ I j 3 = b)) ∨ ∃ k : Nat, k < n ∧ find I n w a b = (k : Int) ∧ I k 1 = w ∧ I k 2 = a ∧ I k 3 = b ∧ ∀ j, j < k → ¬ (I j 1 = w ∧ I j 2 = a ∧ I j 3 = b) := by
  have conv : ∀ j, inQ I w a b j = false → ¬ (I j 1 = w ∧ I j 2 = a ∧ I j 3 = b) := fun j h ⟨h1, h2, h3⟩ => by simp [inQ, h1, h2, h3] at h
  rcases En.first_cases (inQ I w a b) n with ⟨h, hno⟩ | ⟨k, hk, h, hq, hno⟩
  · exact .inl ⟨h, fun j hj => conv j (hno j hj)⟩
  · simp only [inQ, Bool.and_eq_true, decide_eq_true_eq] at hq
    exact .inr ⟨k, hk, h, hq.1, hq.2.1, hq.2.2, fun j hj => conv j (hno j hj)⟩

theorem find_neg {I : Nat → Nat → Int} {n : Nat} {w a b : Int} (h : find I n w a b < 0) : find I n w a b = -1 ∧ ∀ j, j < n → ¬ (I j 1 = w ∧ I j 2 = a ∧ I j 3 = b) := by
  rcases find_cases I n w a b with h' | ⟨k, _, h', _⟩
  · exact h'
  · omega

theorem find_pos {I : Nat → Nat → Int} {n : Nat} {w a b : Int} (h : 0 ≤ find I n w a b) : ∃ k : Nat, k < n ∧ find I n w a b = (k : Int) ∧ I k 1 = w ∧ I k 2 = a ∧ I k 3 = b := by
  rcases find_cases I n w a b with ⟨h', _⟩ | ⟨k, hk, h', h1, h2, h3, _⟩
  · omega
  · exact ⟨k, hk, h', h1, h2, h3⟩

theorem slot_pos {I : Nat → Nat → Int} {n : Nat} {seat : Int} (h : 0 ≤ slot I n seat) : slot I n seat < 4 ∧ ∀ j, j < n → ¬ (I j 1 = 2 ∧ I j 2 = seat ∧ I j 3 = slot I n seat) := by
  unfold slot at *
  rcases En.first_cases (fun b => decide (find I n 2 seat (b : Int) < 0)) 4 with ⟨h', _⟩ | ⟨k, hk, h', hq, _⟩
  · omega
  · rw [h']
    exact ⟨by omega, (find_neg (by simpa using hq)).2⟩

theorem has_pos {I : Nat → Nat → Int} {n : Nat} {seat lo hi : Int} (h : 0 ≤ has I n seat lo hi) : ∃ k : Nat, k < n ∧ has I n seat lo hi = (k : Int) ∧ I k 1 = 2 ∧ I k 2 = seat ∧ 0 ≤ I k 3 ∧ I k 3 < 4 ∧ lo ≤ I k 0 ∧ I k 0 ≤ hi := by
  unfold has at *
  rcases En.first_cases (hasQ I n seat lo hi) 4 with ⟨h', _⟩ | ⟨b, hb, h', hq, _⟩
  · rw [if_neg (by omega)] at h; omega
  · rw [if_pos (by omega), h'] at *
    simp only [hasQ, Bool.and_eq_true, decide_eq_true_eq] at hq
    obtain ⟨k, hk, e, h1, h2, h3⟩ := find_pos hq.1
    rw [e, Int.toNat_natCast] at hq
    exact ⟨k, hk, e, h1, h2, by omega, by omega, hq.2.1, hq.2.2⟩

theorem ware_pos {I : Nat → Nat → Int} {n : Nat} (h : 0 ≤ ware I n) : ∃ k : Nat, k < n ∧ ware I n = (k : Int) ∧ I k 1 = 4 := by
  unfold ware at *
  rcases En.first_cases (fun k => decide (0 ≤ find I n 4 (k : Int) 0)) 3 with ⟨h', _⟩ | ⟨b, hb, h', hq, _⟩
  · rw [if_neg (by omega)] at h; omega
  · rw [if_pos (by omega)] at h ⊢
    obtain ⟨k, hk, e, h1, _⟩ := find_pos h
    exact ⟨k, hk, e, h1⟩

/-- An item that is gone: all zero. -/
def Zero (r : Nat → Int) : Prop := r 0 = 0 ∧ r 1 = 0 ∧ r 2 = 0 ∧ r 3 = 0

/-- An item that is where it may be. -/
def Placed (c : Nat → Int) (r : Nat → Int) : Prop := 1 ≤ r 0 ∧ r 0 ≤ 4 ∧
  ((r 1 = 1 ∧ Gr.inB (r 2) (r 3) = true ∧ Gr.walkB (Gr.at 384 c (r 2) (r 3)) = true) ∨
   (r 1 = 2 ∧ 0 ≤ r 2 ∧ r 2 < 4 ∧ 0 ≤ r 3 ∧ r 3 < 4 ∧ r 0 ≠ 4) ∨
   (r 1 = 3 ∧ 0 ≤ r 2 ∧ r 2 < 4 ∧ (r 0 = 2 ∧ r 3 = 0 ∨ r 0 = 3 ∧ r 3 = 1)) ∨
   (r 1 = 4 ∧ 0 ≤ r 2 ∧ r 2 < 3 ∧ r 3 = 0 ∧ r 0 ≠ 4))

/-- Two items at one place. -/
def Share (r s : Nat → Int) : Prop := r 1 = s 1 ∧ r 2 = s 2 ∧ r 3 = s 3

/-- Items that may be. -/
structure Ok (c : Nat → Int) (n : Nat) (I : Nat → Nat → Int) : Prop where
  each : ∀ i, i < n → Zero (I i) ∨ Placed c (I i)
  one : ∀ i k, i < n → k < n → i ≠ k → I i 1 ≠ 0 → ¬ Share (I k) (I i)

theorem Placed.where_ne {c r : Nat → Int} (h : Placed c r) : r 1 ≠ 0 := by
  obtain ⟨_, _, h | h | h | h⟩ := h <;> omega

theorem Ok.put {c : Nat → Int} {n : Nat} {I : Nat → Nat → Int} (h : Ok c n I) {i : Nat} {r : Nat → Int} (hr : Zero r ∨ (Placed c r ∧ ∀ k, k < n → k ≠ i → ¬ Share (I k) r)) : Ok c n (En.put I i r) := by
  refine ⟨fun k hk => ?_, fun j k hj hk hjk hw hs => ?_⟩
  · by_cases e : k = i
    · rw [e, En.put_same]
      exact hr.imp id And.left
    · rw [En.put_other e]; exact h.each k hk
  · by_cases ej : j = i
    · rw [ej, En.put_same] at hw hs
      rw [En.put_other (by omega)] at hs
      rcases hr with hz | ⟨_, hno⟩
      · exact hw hz.2.1
      · exact hno k hk (by omega) hs
    · rw [En.put_other ej] at hw hs
      by_cases ek : k = i
      · rw [ek, En.put_same] at hs
        rcases hr with hz | ⟨_, hno⟩
        · exact hw (by rw [← hs.1]; exact hz.2.1)
        · exact hno j hj ej ⟨hs.1.symm, hs.2.1.symm, hs.2.2.symm⟩
      · rw [En.put_other ek] at hs
        exact h.one j k hj hk hjk hw hs

/-- Two items change places. -/
theorem Ok.swap {c : Nat → Int} {n : Nat} {I : Nat → Nat → Int} (h : Ok c n I) {i j : Nat} (hij : i ≠ j) {r s : Nat → Int} (hi : i < n) (hj : j < n) (hwi : I i 1 ≠ 0) (hwj : I j 1 ≠ 0) (hr : Placed c r) (hs : Placed c s) (ri : Share r (I j)) (sj : Share s (I i)) : Ok c n (En.put (En.put I j s) i r) := by
  have at_i : En.put (En.put I j s) i r i = r := En.put_same _ _ _
  have at_j : En.put (En.put I j s) i r j = s := by rw [En.put_other (by omega), En.put_same]
  have at_k : ∀ k, k ≠ i → k ≠ j → En.put (En.put I j s) i r k = I k := fun k h1 h2 => by rw [En.put_other h1, En.put_other h2]
  have tr : ∀ {a b d : Nat → Int}, Share a b → Share b d → Share a d := fun h1 h2 => ⟨h1.1.trans h2.1, h1.2.1.trans h2.2.1, h1.2.2.trans h2.2.2⟩
  have sy : ∀ {a b : Nat → Int}, Share a b → Share b a := fun h1 => ⟨h1.1.symm, h1.2.1.symm, h1.2.2.symm⟩
  have hrs : ¬ Share r s := fun e => h.one i j hi hj hij hwi (tr (sy ri) (tr e sj))
  have hk : ∀ k, k < n → k ≠ i → k ≠ j → ¬ Share (I k) r ∧ ¬ Share (I k) s := fun k hk h1 h2 =>
    ⟨fun e => h.one j k hj hk (by omega) hwj (tr e ri), fun e => h.one i k hi hk (by omega) hwi (tr e sj)⟩
  refine ⟨fun k hk => ?_, fun a b ha hb hab hw he => ?_⟩
  · by_cases e1 : k = i
    · rw [e1, at_i]; exact .inr hr
    · by_cases e2 : k = j
      · rw [e2, at_j]; exact .inr hs
      · rw [at_k k e1 e2]; exact h.each k hk
  · by_cases a1 : a = i
    · rw [a1, at_i] at he
      by_cases b2 : b = j
      · rw [b2, at_j] at he; exact hrs (sy he)
      · rw [at_k b (by omega) b2] at he; exact (hk b hb (by omega) b2).1 he
    · by_cases a2 : a = j
      · rw [a2, at_j] at he
        by_cases b1 : b = i
        · rw [b1, at_i] at he; exact hrs he
        · rw [at_k b b1 (by omega)] at he; exact (hk b hb b1 (by omega)).2 he
      · rw [at_k a a1 a2] at he hw
        by_cases b1 : b = i
        · rw [b1, at_i] at he; exact (hk a ha a1 a2).1 (sy he)
        · by_cases b2 : b = j
          · rw [b2, at_j] at he; exact (hk a ha a1 a2).2 (sy he)
          · rw [at_k b b1 b2] at he; exact h.one a b ha hb hab hw he

/-- What an input does to the items: Pick. -/
def pick (I : Nat → Nat → Int) (n : Nat) (seat x y : Int) : Nat → Nat → Int :=
  if 0 ≤ find I n 1 x y ∧ I (find I n 1 x y).toNat 0 = 4 then En.put I (find I n 1 x y).toNat gone
  else if 0 ≤ find I n 1 x y ∧ 0 ≤ slot I n seat then En.put I (find I n 1 x y).toNat (row (I (find I n 1 x y).toNat 0) 2 seat (slot I n seat))
  else I

/-- Use. -/
def use (I : Nat → Nat → Int) (n : Nat) (seat : Int) : Nat → Nat → Int := if 0 ≤ has I n seat 1 1 then En.put I (has I n seat 1 1).toNat gone else I

/-- Wear, of the item i. -/
def wearAt (I : Nat → Nat → Int) (n : Nat) (seat : Int) (i : Nat) : Nat → Nat → Int :=
  if 0 ≤ find I n 3 seat (I i 0 - 2) then En.put (En.put I (find I n 3 seat (I i 0 - 2)).toNat (row (I (find I n 3 seat (I i 0 - 2)).toNat 0) 2 (I (find I n 3 seat (I i 0 - 2)).toNat 2) (I i 3))) i (row (I i 0) 3 (I i 2) (I i 0 - 2))
  else En.put I i (row (I i 0) 3 (I i 2) (I i 0 - 2))

def wear (I : Nat → Nat → Int) (n : Nat) (seat : Int) : Nat → Nat → Int := if 0 ≤ has I n seat 2 3 then wearAt I n seat (has I n seat 2 3).toNat else I

/-- Drop. -/
def drop (I : Nat → Nat → Int) (n : Nat) (seat x y : Int) : Nat → Nat → Int := if 0 ≤ has I n seat 1 3 ∧ find I n 1 x y < 0 then En.put I (has I n seat 1 3).toNat (row (I (has I n seat 1 3).toNat 0) 1 x y) else I

/-- Buy, where the hero may. -/
def buys (I : Nat → Nat → Int) (n : Nat) (seat : Int) (shop : Bool) (gold : Int) : Bool := shop && (decide (5 ≤ gold) && (decide (0 ≤ slot I n seat) && decide (0 ≤ ware I n)))

def buy (I : Nat → Nat → Int) (n : Nat) (seat : Int) (shop : Bool) (gold : Int) : Nat → Nat → Int := if buys I n seat shop gold = true then En.put I (ware I n).toNat (row (I (ware I n).toNat 0) 2 seat (slot I n seat)) else I

/-- All of it. -/
def act (I : Nat → Nat → Int) (n : Nat) (seat x y : Int) (shop : Bool) (gold input : Int) : Nat → Nat → Int :=
  if input = 5 then pick I n seat x y else if input = 6 then use I n seat else if input = 7 then wear I n seat else if input = 8 then drop I n seat x y else if input = 10 then buy I n seat shop gold else I

theorem Ok.of {c : Nat → Int} {n : Nat} {I : Nat → Nat → Int} (h : Ok c n I) {k : Nat} (hk : k < n) (hw : I k 1 ≠ 0) : Placed c (I k) := by
  rcases h.each k hk with hz | hp
  · exact absurd hz.2.1 hw
  · exact hp

theorem zero_gone : Zero gone := ⟨rfl, rfl, rfl, rfl⟩

theorem Ok.pick {c : Nat → Int} {n : Nat} {I : Nat → Nat → Int} (h : Ok c n I) {seat x y : Int} (s0 : 0 ≤ seat) (s4 : seat < 4) : Ok c n (pick I n seat x y) := by
  unfold Gd.pick
  split
  · exact h.put (.inl zero_gone)
  · rename_i hg
    split
    · rename_i hf
      obtain ⟨k, hk, e, h1, h2, h3⟩ := find_pos hf.1
      obtain ⟨f4, hno⟩ := slot_pos hf.2
      have hp := h.of hk (by omega)
      have hg' : I k 0 ≠ 4 := fun e4 => hg ⟨hf.1, by rw [e, Int.toNat_natCast]; exact e4⟩
      rw [e, Int.toNat_natCast]
      refine h.put (.inr ⟨⟨hp.1, hp.2.1, .inr (.inl ⟨rfl, s0, s4, hf.2, f4, hg'⟩)⟩, fun j hj _ hs => hno j hj ⟨hs.1, hs.2.1, hs.2.2⟩⟩)
    · exact h

theorem Ok.use {c : Nat → Int} {n : Nat} {I : Nat → Nat → Int} (h : Ok c n I) (seat : Int) : Ok c n (use I n seat) := by
  unfold Gd.use
  split
  · exact h.put (.inl zero_gone)
  · exact h

theorem Ok.drop {c : Nat → Int} {n : Nat} {I : Nat → Nat → Int} (h : Ok c n I) {seat x y : Int} (hin : Gr.inB x y = true) (hw : Gr.walkB (Gr.at 384 c x y) = true) : Ok c n (drop I n seat x y) := by
  unfold Gd.drop
  split
  · rename_i hf
    obtain ⟨k, hk, e, h1, h2, h3, h4, k1, k3⟩ := has_pos hf.1
    rw [e, Int.toNat_natCast]
    refine h.put (.inr ⟨⟨k1, by show I k 0 ≤ 4; omega, .inl ⟨rfl, hin, hw⟩⟩, fun j hj _ hs => (find_neg hf.2).2 j hj ⟨hs.1, hs.2.1, hs.2.2⟩⟩)
  · exact h

theorem Ok.buy {c : Nat → Int} {n : Nat} {I : Nat → Nat → Int} (h : Ok c n I) {seat : Int} (s0 : 0 ≤ seat) (s4 : seat < 4) (shop : Bool) (gold : Int) : Ok c n (buy I n seat shop gold) := by
  unfold Gd.buy
  split
  · rename_i hb
    simp only [buys, Bool.and_eq_true, decide_eq_true_eq] at hb
    obtain ⟨_, _, hs, hw⟩ := hb
    obtain ⟨k, hk, e, h1⟩ := ware_pos hw
    obtain ⟨f4, hno⟩ := slot_pos hs
    rw [e, Int.toNat_natCast]
    have hp := h.of hk (by omega)
    have hg : I k 0 ≠ 4 := by
      obtain ⟨_, _, h' | h' | h' | h'⟩ := hp <;> omega
    refine h.put (.inr ⟨⟨hp.1, hp.2.1, .inr (.inl ⟨rfl, s0, s4, hs, f4, hg⟩)⟩, fun j hj _ hs => hno j hj ⟨hs.1, hs.2.1, hs.2.2⟩⟩)
  · exact h

theorem Ok.wear {c : Nat → Int} {n : Nat} {I : Nat → Nat → Int} (h : Ok c n I) {seat : Int} (s0 : 0 ≤ seat) (s4 : seat < 4) : Ok c n (wear I n seat) := by
  unfold Gd.wear
  split
  · rename_i hf
    obtain ⟨k, hk, e, h1, h2, h3, h4, k2, k3⟩ := has_pos hf
    rw [e, Int.toNat_natCast]
    unfold wearAt
    have hr : Placed c (row (I k 0) 3 (I k 2) (I k 0 - 2)) := ⟨by show 1 ≤ I k 0; omega, by show I k 0 ≤ 4; omega, .inr (.inr (.inl ⟨rfl, by show 0 ≤ I k 2; omega, by show I k 2 < 4; omega, by
      show I k 0 = 2 ∧ I k 0 - 2 = 0 ∨ I k 0 = 3 ∧ I k 0 - 2 = 1
      omega⟩))⟩
    split
    · rename_i hw
      obtain ⟨j, hj, ej, j1, j2, j3⟩ := find_pos hw
      rw [ej, Int.toNat_natCast]
      have hpj := h.of hj (by omega)
      have hs : Placed c (row (I j 0) 2 (I j 2) (I k 3)) := ⟨hpj.1, hpj.2.1, .inr (.inl ⟨rfl, by show 0 ≤ I j 2; omega, by show I j 2 < 4; omega, h3, h4, by
        show I j 0 ≠ 4
        obtain ⟨_, _, h' | h' | h' | h'⟩ := hpj <;> omega⟩)⟩
      exact h.swap (i := k) (j := j) (by rintro rfl; omega) hk hj (by omega) (by omega) hr hs ⟨j1.symm, by show I k 2 = I j 2; omega, j3.symm⟩ ⟨h1.symm, by show I j 2 = I k 2; omega, rfl⟩
    · rename_i hw
      have hno := (find_neg (I := I) (n := n) (w := 3) (a := seat) (b := I k 0 - 2) (by omega)).2
      exact h.put (.inr ⟨hr, fun j hj _ hs => hno j hj ⟨hs.1, hs.2.1.trans h2, hs.2.2⟩⟩)
  · exact h

theorem Ok.act {c : Nat → Int} {n : Nat} {I : Nat → Nat → Int} (h : Ok c n I) {seat x y : Int} (s0 : 0 ≤ seat) (s4 : seat < 4) (hin : Gr.inB x y = true) (hw : Gr.walkB (Gr.at 384 c x y) = true) (shop : Bool) (gold input : Int) : Ok c n (act I n seat x y shop gold input) := by
  unfold Gd.act
  split
  · exact h.pick s0 s4
  · split
    · exact h.use seat
    · split
      · exact h.wear s0 s4
      · split
        · exact h.drop hin hw
        · split
          · exact h.buy s0 s4 shop gold
          · exact h

/-- At most two rows turn, and a row's kind stays, unless it is gone. -/
def Few (I J : Nat → Nat → Int) : Prop := ∃ i j : Nat, (∀ k, k ≠ i → k ≠ j → J k = I k) ∧ ∀ k, J k 0 = I k 0 ∨ Zero (J k)

theorem few_same (I : Nat → Nat → Int) : Few I I := ⟨0, 0, fun _ _ _ => rfl, fun _ => .inl rfl⟩

theorem few_put (I : Nat → Nat → Int) (i : Nat) (r : Nat → Int) (h : r 0 = I i 0 ∨ Zero r) : Few I (En.put I i r) :=
  ⟨i, i, fun k h1 _ => En.put_other h1, fun k => by
    by_cases e : k = i
    · rw [e, En.put_same]; exact h
    · rw [En.put_other e]; exact .inl rfl⟩

theorem few_two (I : Nat → Nat → Int) (i j : Nat) (r s : Nat → Int) (hr : r 0 = I i 0) (hs : s 0 = I j 0) : Few I (En.put (En.put I j s) i r) :=
  ⟨i, j, fun k h1 h2 => by rw [En.put_other h1, En.put_other h2], fun k => by
    by_cases e : k = i
    · rw [e, En.put_same]; exact .inl hr
    · rw [En.put_other e]
      by_cases e2 : k = j
      · rw [e2, En.put_same]; exact .inl hs
      · rw [En.put_other e2]; exact .inl rfl⟩

theorem act_few (I : Nat → Nat → Int) (n : Nat) (seat x y : Int) (shop : Bool) (gold input : Int) : Few I (act I n seat x y shop gold input) := by
  unfold Gd.act
  split
  · unfold Gd.pick
    split
    · exact few_put _ _ _ (.inr zero_gone)
    · split
      · exact few_put _ _ _ (.inl rfl)
      · exact few_same I
  · split
    · unfold Gd.use
      split
      · exact few_put _ _ _ (.inr zero_gone)
      · exact few_same I
    · split
      · unfold Gd.wear
        split
        · unfold wearAt
          split
          · exact few_two _ _ _ _ _ rfl rfl
          · exact few_put _ _ _ (.inl rfl)
        · exact few_same I
      · split
        · unfold Gd.drop
          split
          · exact few_put _ _ _ (.inl rfl)
          · exact few_same I
        · split
          · unfold Gd.buy
            split
            · exact few_put _ _ _ (.inl rfl)
            · exact few_same I
          · exact few_same I

/-- How many of the first m rows are other than they were. -/
def turned (I J : Nat → Nat → Int) : Nat → Nat
  | 0 => 0
  | m + 1 => turned I J m + if J m 0 = I m 0 ∧ J m 1 = I m 1 ∧ J m 2 = I m 2 ∧ J m 3 = I m 3 then 0 else 1

theorem turned_le {I J : Nat → Nat → Int} {i j : Nat} (h : ∀ k, k ≠ i → k ≠ j → J k = I k) : ∀ m, turned I J m ≤ (if i < m then 1 else 0) + (if j < m then 1 else 0)
  | 0 => by simp [turned]
  | m + 1 => by
      have ih := turned_le h m
      unfold turned
      by_cases e : m = i ∨ m = j
      · have h1 : (if J m 0 = I m 0 ∧ J m 1 = I m 1 ∧ J m 2 = I m 2 ∧ J m 3 = I m 3 then 0 else 1) ≤ 1 := by split <;> omega
        by_cases e1 : m = i
        · rw [if_neg (by omega)] at ih
          rw [if_pos (show i < m + 1 by omega)]
          have : (if j < m then 1 else 0) ≤ (if j < m + 1 then 1 else 0) := by split <;> split <;> omega
          omega
        · have e2 : m = j := by omega
          rw [if_neg (show ¬ j < m by omega)] at ih
          rw [if_pos (show j < m + 1 by omega)]
          have : (if i < m then 1 else 0) ≤ (if i < m + 1 then 1 else 0) := by split <;> split <;> omega
          omega
      · rw [h m (by omega) (by omega), if_pos ⟨rfl, rfl, rfl, rfl⟩]
        have a1 : (if i < m then 1 else 0) ≤ (if i < m + 1 then 1 else 0) := by split <;> split <;> omega
        have a2 : (if j < m then 1 else 0) ≤ (if j < m + 1 then 1 else 0) := by split <;> split <;> omega
        omega

theorem Few.two {I J : Nat → Nat → Int} (h : Few I J) (m : Nat) : turned I J m ≤ 2 := by
  obtain ⟨i, j, h1, _⟩ := h
  have := turned_le h1 m
  split at this <;> split at this <;> omega

/-- Sweep: all that a seat has is gone. -/
def sweep (I : Nat → Nat → Int) (seat : Int) : Nat → Nat → Int := fun i => if (I i 1 = 2 ∨ I i 1 = 3) ∧ I i 2 = seat then gone else I i

theorem Ok.sweep {c : Nat → Int} {n : Nat} {I : Nat → Nat → Int} (h : Ok c n I) (seat : Int) : Ok c n (Gd.sweep I seat) := by
  have z : ∀ {i}, ((I i 1 = 2 ∨ I i 1 = 3) ∧ I i 2 = seat) → Gd.sweep I seat i = gone := fun h => if_pos h
  have o : ∀ {i}, ¬ ((I i 1 = 2 ∨ I i 1 = 3) ∧ I i 2 = seat) → Gd.sweep I seat i = I i := fun h => if_neg h
  refine ⟨fun i hi => ?_, fun i k hi hk hik hw hs => ?_⟩
  · by_cases e : (I i 1 = 2 ∨ I i 1 = 3) ∧ I i 2 = seat
    · rw [z e]; exact .inl zero_gone
    · rw [o e]; exact h.each i hi
  · by_cases e : (I i 1 = 2 ∨ I i 1 = 3) ∧ I i 2 = seat
    · rw [z e] at hw; exact hw rfl
    · rw [o e] at hw hs
      by_cases ek : (I k 1 = 2 ∨ I k 1 = 3) ∧ I k 2 = seat
      · rw [z ek] at hs; exact hw hs.1.symm
      · rw [o ek] at hs; exact h.one i k hi hk hik hw hs

end Gd

end Go.Proofs.Ytbploaihicakeaa
