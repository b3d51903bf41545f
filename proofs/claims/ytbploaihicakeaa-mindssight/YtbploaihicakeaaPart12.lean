/-
  The document's Make, said again: monsters.
  The document's Make, said again: stairs and shop.
-/
import Derived.Test.YtbploaihicakeaaPart11
import Derived.Test.YtbploaihicakeaaPart05
import Derived.BigQuiet
namespace Go.Proofs.Ytbploaihicakeaa
open Go.RowKit

set_option maxRecDepth 100000 in
set_option maxHeartbeats 8000000 in
theorem ref_mons (s f : Int) (d : Gn.Dice) (hd : ∀ a b n, Gn.D s f a b n = d a b n) (hFr : Gn.Fair d) (h1f : 1 ≤ f) (h3f : f ≤ 3) (w : World) (B G gF : Nat) (c F : Nat → Int) (sh : Bool) (hlev : Gn.IsLevel d c F) (hsh : sh = decide (0 ≤ Gr.find 384 c 5)) (wr : World)
    (hA : Arr wr G 5 384 (Byts c)) (hF : Arr wr gF 3 384 (Ints F)) (hR : Arr wr B 68 3 (fun _ => .slice none 0 0)) (hg : w.grownBy wr none) (o0 : w.heap.size ≤ B) (o1 : B < G) (o2 : G < gF) (t2 t3 t6 t7 t8 t9 t10 t11 t12 t13 t14 t15 t16 t17 t18 t19 t20 t22 t23 t25 t26 t27 t28 t29 t30 t31 t32 t33 t34 t35 t36 t37 t38 t39 t40 t41 t42 t43 t44 t45 t46 t47 t48 t49 t50 t51 t52 t53 t54 t55 t56 t57 t58 t59 t60 t61 t62 t63 t64 t65 t66 t67 t68 t69 t70 t71 t72 t73 t74 t75 t76 t77 t78 t79 t80 t81 t82 t83 t84 t85 t86 t87 t88 t89 t90 t91 t92 t93 t94 t95 t96 t97 t98 t99 t100 t101 t102 t103 t104 t105 t106 t107 t108 t109 t110 t111 t112 t113 t114 t115 t116 t117 t118 t119 t120 t121 t122 t123 t124 t125 t126 t127 t128 t129 t130 t131 t132 t133 t134 t135 t136 t137 t138 t139 t140 t141 t142 t143 t144 t145 t146 t147 t148 t149 t150 t151 t152 t153 t154 t155 t156 t157 t158 t159 t160 t161 t162 t163 t164 t165 t166 t167 t168 t169 t170 t171 t172 t173 t174 t175 t176 t177 t178 t179 t180 t181 t182 t183 t184 t185 t186 t187 t188 t189 t190 t191 t192 t193 t194 t195 t196 t197 t198 t199 t200 t201 t202 t203 t204 t205 t206 t207 t208 t209 t210 t211 t212 t213 t214 t215 t216 t217 t218 t219 t220 t221 t222 t223 t224 t225 t226 t227 t228 t229 t230 t231 t232 t233 t234 t235 t236 t237 t238 t239 t240 t241 t242 t243 t244 t245 t246 t247 t248 t249 t250 t251 t252 t253 t254 t255 t256 t257 t258 t259 t260 t261 t262 t263 t264 t265 t266 t267 t268 t269 t270 t271 t272 t273 t274 t275 t276 t277 t278 t279 t280 t281 t282 t283 t284 t285 t286 t287 t288 t289 t290 t291 t292 t293 t294 t295 t296 t297 t298 t299 t300 t301 t302 t303 t304 t305 t306 t307 t308 t309 t310 t311 t312 t313 t314 t315 t316 t317 t318 t319 t320 t321 t322 t323 t324 t325 : Value) :
    Code.wp Try.prog ((Try.f41.body.map (cdrop 13)).getD .skip) (bodyPost Try.prog Try.f41 (RefDone w d f)) ⟨#[.int .i64 s, .int .i64 f, t2, t3, .pointer (some ⟨B, 0, none⟩), .slice (some ⟨G, 0, none⟩) 384 384, t6, t7, t8, t9, t10, t11, t12, t13, t14, t15, t16, t17, t18, t19, t20, .slice (some ⟨gF, 0, none⟩) 384 384, t22, t23, .bool sh, t25, t26, t27, t28, t29, t30, t31, t32, t33, t34, t35, t36, t37, t38, t39, t40, t41, t42, t43, t44, t45, t46, t47, t48, t49, t50, t51, t52, t53, t54, t55, t56, t57, t58, t59, t60, t61, t62, t63, t64, t65, t66, t67, t68, t69, t70, t71, t72, t73, t74, t75, t76, t77, t78, t79, t80, t81, t82, t83, t84, t85, t86, t87, t88, t89, t90, t91, t92, t93, t94, t95, t96, t97, t98, t99, t100, t101, t102, t103, t104, t105, t106, t107, t108, t109, t110, t111, t112, t113, t114, t115, t116, t117, t118, t119, t120, t121, t122, t123, t124, t125, t126, t127, t128, t129, t130, t131, t132, t133, t134, t135, t136, t137, t138, t139, t140, t141, t142, t143, t144, t145, t146, t147, t148, t149, t150, t151, t152, t153, t154, t155, t156, t157, t158, t159, t160, t161, t162, t163, t164, t165, t166, t167, t168, t169, t170, t171, t172, t173, t174, t175, t176, t177, t178, t179, t180, t181, t182, t183, t184, t185, t186, t187, t188, t189, t190, t191, t192, t193, t194, t195, t196, t197, t198, t199, t200, t201, t202, t203, t204, t205, t206, t207, t208, t209, t210, t211, t212, t213, t214, t215, t216, t217, t218, t219, t220, t221, t222, t223, t224, t225, t226, t227, t228, t229, t230, t231, t232, t233, t234, t235, t236, t237, t238, t239, t240, t241, t242, t243, t244, t245, t246, t247, t248, t249, t250, t251, t252, t253, t254, t255, t256, t257, t258, t259, t260, t261, t262, t263, t264, t265, t266, t267, t268, t269, t270, t271, t272, t273, t274, t275, t276, t277, t278, t279, t280, t281, t282, t283, t284, t285, t286, t287, t288, t289, t290, t291, t292, t293, t294, t295, t296, t297, t298, t299, t300, t301, t302, t303, t304, t305, t306, t307, t308, t309, t310, t311, t312, t313, t314, t315, t316, t317, t318, t319, t320, t321, t322, t323, t324, t325], []⟩ wr := by
  conv => arg 2; whnf
  obtain ⟨i0, hi, hz0, hz1, hz2⟩ := info_parts info_bool
  obtain ⟨i1, hi1, hy0, hy1, hy2⟩ := info_parts info_ent
  have hd' := hide hd
  have hFr' := hide hFr
  have hlev' := hide hlev
  have hsh' := hide hsh
  have hst0 := hide (Gn.free_start4 c F)
  obtain ⟨fin, hfin⟩ : ∃ fin, fin = Gn.ents d f c F := ⟨_, rfl⟩
  have hfin' := hide hfin
  have hfl : fin.length ≤ 5 := by
    rw [hfin]
    have := Gn.mons_len d f (f + 2).toNat 0 ((Gn.those (fun i => c i == 1) 384).filter (Gn.afar F))
    unfold Gn.ents
    omega
  have hB0 : Hid (RefBase w B G gF wr.heap.size c F (.slice none 0 0) 0 [] (.slice none 0 0) (wr.alloc (.cells #[.slice (some ⟨G, 0, none⟩) 384 384, .slice none 0 0, .slice none 0 0] 68))) := by
    refine ⟨hA.alloc _, hF.alloc _, hR.alloc _, ⟨_, heap_alloc_new _ _, rfl, fun j hj => ?_⟩, World.ownsRow_nil _ _ _ _, grown_alloc hg _, o0, o1, o2, hF.lt⟩
    rcases (show j = 0 ∨ j = 1 ∨ j = 2 by omega) with rfl | rfl | rfl <;> rfl
  clear hd hFr hlev hsh hfin hA hF hR hg
  go_upto_region 46 with fail
  obtain ⟨L, hL⟩ : ∃ L, L = wr.heap.size := ⟨_, rfl⟩
  obtain ⟨w1, hw1⟩ : ∃ w1, w1 = wr.alloc (.cells #[.slice (some ⟨G, 0, none⟩) 384 384, .slice none 0 0, .slice none 0 0] 68) := ⟨_, rfl⟩
  rw [← hL, ← hw1] at hB0
  rw [← hL, ← hw1]
  clear hL hw1
  clear wr
  go_wp2_with (at_make; refine wpList_make_full _ rfl _ _ 70 rfl w1.heap.size 4 i0 (.bool false) 1 Try.underlying70 hi hz0 hz1 .i64 .i64 _ _ 384 rfl rfl rfl rfl ?q3 ?q4 ?q5 ?_)
  any_goals (first | (rw [hz2]; decide) | decide | exact Nat.le_refl _)
  intro w2 hown hgrow
  have hU : Arr w2 w1.heap.size 4 384 (Bols fun _ => false) := Arr.zero hown
  have hI0 : Hid (RefMon w B G gF L w1.heap.size (w1.heap.size + 1) c F (.slice none 0 0) (fun _ => false) [] w2) :=
    ⟨(unhide hB0).on hgrow, hU, World.ownsRow_nil _ _ _ _, (unhide hB0).box.lt, Nat.lt_succ_self _, hU.lt⟩
  obtain ⟨U, hUe⟩ : ∃ U, U = w1.heap.size := ⟨_, rfl⟩
  rw [← hUe] at hI0 ⊢
  clear hown hgrow hU hUe hi hz0 hz1 hz2 hB0
  clear i0
  clear w1
  go_wp2_with fail
  go_loopw [28] (fun vk wr => ∃ (k : Nat) (M : Nat → Bool) (vE : Value) (acc : List (Int × Nat)), (k : Int) ≤ f + 2 ∧ vk = .int .i64 (k : Int) ∧ acc ++ Gn.mons d f ((f + 2).toNat - k) k (Gn.those (Gn.free c F 4 M) 384) = fin ∧ RefMon w B G gF L U (U + 1) c F vE M acc wr) (fun vk _ => 10 - (intOf vk).toNat)
  case atStart => exact ⟨0, _, _, [], by omega, rfl, by rw [unhide hst0]; exact (unhide hfin').symm, unhide hI0⟩
  case round =>
    clear hI0
    clear w2
    rename_i hKK
    have hK0 := hide hKK
    clear hKK
    obtain ⟨k, M, vE, acc, hk, rfl, hacc, hH⟩ := hrel
    have hH1 := hide hH
    have hacc' := hide hacc
    clear hH hacc
    have hdone : Hid (∀ x, acc = fin → RefMon w B G gF L U (U + 1) c F vE M acc x → RefBase w B G gF L c F vE (Gn.ents d f c F).length (Gn.flat (Gn.ents d f c F)) (.slice none 0 0) x) := fun x he hx => by
      have h := hx.base
      rw [he, unhide hfin'] at h
      exact h
    by_cases hlt : (k : Int) < f + 2
    · have hlt' : (k : Int) ≤ f + 1 := by omega
      have hpick := hide (pick_any s f d (unhide hd') (unhide hFr') G gF U c F 4 (7 + (k : Int)) M wr (unhide hH1).base.cells (unhide hH1).base.fld (unhide hH1).used)
      obtain ⟨l, hl⟩ : ∃ l, l = Gn.those (Gn.free c F 4 M) 384 := ⟨_, rfl⟩
      rw [← hl] at hpick hacc'
      have hl' := hide hl
      clear hl
      go_wp2_with fail
      refine (unhide hpick).mono ?_
      rintro e w3 ⟨rfl, hg3⟩
      have hH3 := hide ((unhide hH1).on hg3)
      clear hg3 hpick hH1
      by_cases h0 : l.length = 0
      · rw [Gn.picked_none h0]
        have hst : acc = fin := by
          have h := unhide hacc'
          rw [Gn.mons_nil h0, List.append_nil] at h
          exact h
        clear h0
        go_wp2_with fail
        exact unhide hK0 _ _ (ref_items s f d (unhide hd') (unhide hFr') w B G gF L c F vE sh (unhide hlev') (by rw [unhide hsh']; exact decide_eq_decide.2 (by omega)) w3 (unhide hdone w3 hst (unhide hH3)) _ _ _ _ _ _ _ _ _ _ _ _ _ _ _ _ _ _ _ _ _ _ _ _ _ _ _ _ _ _ _ _ _ _ _ _ _ _ _ _ _ _ _ _ _ _ _ _ _ _ _ _ _ _ _ _ _ _ _ _ _ _ _ _ _ _ _ _ _ _ _ _ _ _ _ _ _ _ _ _ _ _ _ _ _ _ _ _ _ _ _ _ _ _ _ _ _ _ _ _ _ _ _ _ _ _ _ _ _ _ _ _ _ _ _ _ _ _ _ _ _ _ _ _ _ _ _ _ _ _ _ _ _ _ _ _ _ _ _ _ _ _ _ _ _ _ _ _ _ _ _ _ _ _ _ _ _ _ _ _ _ _ _ _ _ _ _ _ _ _ _ _ _ _ _ _ _ _ _ _ _ _ _ _ _ _ _ _ _ _ _ _ _ _ _ _ _ _ _ _ _ _ _ _ _ _ _ _ _ _ _ _ _ _ _ _ _ _ _ _ _ _ _ _ _ _ _ _ _ _ _ _ _ _ _ _ _ _ _ _ _ _ _ _ _ _ _ _ _ _ _ _ _ _ _ _ _ _ _ _ _ _ _ _ _ _ _ _ _ _ _ _ _ _ _ _ _ _ _ _ _ _ _ _ _ _ _ _ _ _ _ _ _ _ _ _ _ _ _ _ _ _ _ _ _ _ _ _ _ _ _ _ _ _ _ _ _ _ _)
      · obtain ⟨N, hN⟩ : ∃ x, x = d (7 + (k : Int)) 0 (l.length : Int) := ⟨_, rfl⟩
        obtain ⟨n1, n2⟩ : 0 ≤ N ∧ N < (l.length : Int) := by rw [hN]; exact unhide hFr' _ _ _ (by omega)
        obtain ⟨n, hn⟩ : ∃ n : Nat, N = (n : Int) := ⟨N.toNat, by omega⟩
        have hnl : n < l.length := by omega
        rw [Gn.picked_some (n := n) h0 (by rw [← hN, hn])]
        obtain ⟨Mx, hM⟩ : ∃ Mx : Int, Mx = if 3 < f + 1 then 3 else f + 1 := ⟨_, rfl⟩
        have hMb : 1 ≤ Mx ∧ Mx ≤ 3 := by rw [hM]; split <;> omega
        obtain ⟨K, hK⟩ : ∃ K, K = d (16 + (k : Int)) 1 Mx := ⟨_, rfl⟩
        obtain ⟨k1, k2⟩ : 0 ≤ K ∧ K < Mx := by rw [hK]; exact unhide hFr' _ _ _ (by omega)
        have hdK : Hid (∀ w', Calls Try.prog 50 #[.int .i64 s, .int .i64 f, .int .i64 (16 + (k : Int)), .int .i64 1, .int .i64 Mx] w' (Says w' (.int .i64 K))) := fun w' => by
          have h := refD_any s f (16 + (k : Int)) 1 Mx w' (by omega)
          rw [unhide hd', ← hK] at h
          exact h
        have hkind : Gn.kind d f k = 2 + K := by unfold Gn.kind; rw [← hM, ← hK]
        obtain ⟨cl, hcl⟩ : ∃ cl, cl = l[n]?.getD 0 := ⟨_, rfl⟩
        have hcl3 : cl < 384 := by rw [hcl, unhide hl']; rw [unhide hl'] at hnl; exact Gn.those_lt hnl
        have hers : Hid (Gn.those (Gn.free c F 4 (Gn.mark M cl)) 384 = l.eraseIdx n) := by
          show Gn.those (Gn.free c F 4 (Gn.mark M cl)) 384 = l.eraseIdx n
          rw [hcl, unhide hl']
          rw [unhide hl'] at hnl
          exact Gn.free_mark c F 4 M n hnl
        have hstep : Hid ((acc ++ [(2 + K, cl)]) ++ Gn.mons d f ((f + 2).toNat - (k + 1)) (k + 1) (l.eraseIdx n) = fin) := by
          have h := unhide hacc'
          obtain ⟨m, hm⟩ : ∃ m, (f + 2).toNat - k = m + 1 := ⟨(f + 2).toNat - k - 1, by omega⟩
          rw [hm, Gn.mons, if_neg h0, ← hN, hn, Int.toNat_natCast, hkind, ← hcl] at h
          show (acc ++ [(2 + K, cl)]) ++ Gn.mons d f ((f + 2).toNat - (k + 1)) (k + 1) (l.eraseIdx n) = fin
          rw [show (f + 2).toNat - (k + 1) = m by omega, List.append_assoc]
          exact h
        have hal : acc.length ≤ 5 := by
          have h := congrArg List.length (unhide hacc')
          rw [List.length_append] at h
          omega
        obtain ⟨hp, hhp⟩ : ∃ x, x = Gn.hp (2 + K) := ⟨_, rfl⟩
        obtain ⟨at_, hat⟩ : ∃ x, x = Gn.atk (2 + K) := ⟨_, rfl⟩
        obtain ⟨df, hdf⟩ : ∃ x, x = Gn.df (2 + K) := ⟨_, rfl⟩
        have hstats : Hid (∀ w', Calls Try.prog 25 #[.int .i64 (2 + K)] w' (Says w' (.agg #[.int .i64 (2 + K), .int .i64 0, .int .i64 0, .int .i64 0, .int .i64 0, .int .i64 hp, .int .i64 hp, .int .i64 at_, .int .i64 df, .int .i64 0, .int .i64 0]))) := fun w' => by
          have h := refStats_any (2 + K) w' (by omega) (by omega)
          unfold Gn.ent at h
          rw [← hhp, ← hat, ← hdf] at h
          exact h
        have hentc : Hid (Gn.entCells (2 + K, cl) = [.int .i64 (2 + K), .int .i64 0, .int .i64 0, .int .i64 ((cl : Int) % 24), .int .i64 ((cl : Int) / 24), .int .i64 hp, .int .i64 hp, .int .i64 at_, .int .i64 df, .int .i64 0, .int .i64 0]) := by
          show Gn.entCells (2 + K, cl) = _
          unfold Gn.entCells Gn.ent
          rw [← hhp, ← hat, ← hdf]
        rw [← hcl]
        have hclp : ¬ (cl : Int) < 0 := by omega
        have hcl4 : (cl : Int) < 384 := by omega
        have u1 := (unhide hH3).used.cell hcl3
        have u2 := (unhide hH3).used.free cl
        have hM' := hide hM
        clear hN hn hK hkind hcl hhp hat hdf h0 hM n1 n2 hnl hcl3
        go_upto_region 53 with fail
        clear u1 u2
        have hHa := hide ((unhide hH3).mark cl)
        obtain ⟨wa, hwa⟩ : ∃ wa, wa = w3.setCell ⟨U, cl, none⟩ (.bool true) := ⟨_, rfl⟩
        rw [← hwa] at hHa ⊢
        clear hwa hH3
        clear w3
        by_cases h3 : 3 < f + 1
        · have hMe : Mx = 3 := by rw [unhide hM', if_pos h3]
          subst hMe
          go_wp2_with fail
          refine (unhide hdK _).mono ?_
          rintro e wb ⟨rfl, hgb⟩
          have hHb := hide ((unhide hHa).on hgb)
          clear hgb hHa
          go_wp2_with fail
          refine (unhide hstats _).mono ?_
          rintro e wc ⟨rfl, hgc2⟩
          have hHc := hide ((unhide hHb).on hgc2)
          clear hgc2 hHb
          have hce := (unhide hHc).base.box.cell (i := 1) (by omega)
          have hcl2 := (unhide hHc).base.box.lt
          simp only [Nat.one_ne_zero, ite_false, ite_true] at hce
          have hH4 : Hid (RefMon w B G gF L U (U + 1) c F vE (Gn.mark M cl) acc (wc.alloc (.cells #[.int .i64 (2 + K), .int .i64 0, .int .i64 0, .int .i64 ((cl : Int) % 24), .int .i64 ((cl : Int) / 24), .int .i64 hp, .int .i64 hp, .int .i64 at_, .int .i64 df, .int .i64 0, .int .i64 0] 36))) := (unhide hHc).on (World.grownBy_alloc _ _ _)
          have ht4 := (unhide hHc).o6
          have keep2 : Hid (∀ y, ((wc.alloc (.cells #[.int .i64 (2 + K), .int .i64 0, .int .i64 0, .int .i64 ((cl : Int) % 24), .int .i64 ((cl : Int) / 24), .int .i64 hp, .int .i64 hp, .int .i64 at_, .int .i64 df, .int .i64 0, .int .i64 0] 36)).alloc (.cells #[.int .i64 (2 + K), .int .i64 0, .int .i64 0, .int .i64 ((cl : Int) % 24), .int .i64 ((cl : Int) / 24), .int .i64 hp, .int .i64 hp, .int .i64 at_, .int .i64 df, .int .i64 0, .int .i64 0] 36)).grownBy y vE.ownBlock → (y.cell? ⟨L, 1, none⟩ = some vE ∧ y.frozen? ⟨L, 1, none⟩ = false)) := by
            intro y hg
            have hp := ((unhide hH4).base.box.alloc (.cells #[.int .i64 (2 + K), .int .i64 0, .int .i64 0, .int .i64 ((cl : Int) % 24), .int .i64 ((cl : Int) / 24), .int .i64 hp, .int .i64 hp, .int .i64 at_, .int .i64 df, .int .i64 0, .int .i64 0] 36)).grown hg (fun e => by have := ((unhide hH4).base.ents.lt _ e).1; omega)
            exact ⟨hp.cell (by omega), hp.free 1⟩
          go_wp2_with (at_builtin; refine wpList_append_own _ rfl _ _ 26 rfl (U + 1) 36 i1 (.agg #[.int .i64 0, .int .i64 0, .int .i64 0, .int .i64 0, .int .i64 0, .int .i64 0, .int .i64 0, .int .i64 0, .int .i64 0, .int .i64 0, .int .i64 0]) 11 88 Try.underlying26 hi1 hy0 hy1 hy2 rfl (by decide) _ _ _ rfl ((unhide hH4).ents.alloc _) ⟨wc.heap.size + 1, 0, none⟩ 1 1 [.int .i64 (2 + K), .int .i64 0, .int .i64 0, .int .i64 ((cl : Int) % 24), .int .i64 ((cl : Int) / 24), .int .i64 hp, .int .i64 hp, .int .i64 at_, .int .i64 df, .int .i64 0, .int .i64 0] rfl rfl ?_ ?_ ?_ ?_ ?_ ?_)
          · exact ent_news _ _ (by simp) _ _ _ _ _ _ _ _ _ _ _ _
          · intro u hu
            simp only [List.mem_cons, List.not_mem_nil, or_false] at hu
            rcases hu with rfl | rfl | rfl | rfl | rfl | rfl | rfl | rfl | rfl | rfl | rfl <;> rfl
          · unfold maxLen; omega
          · omega
          · simp; omega
          intro v5 w5 hown5 hgrow5 _
          obtain ⟨y1, y2⟩ := unhide keep2 _ hgrow5
          obtain ⟨a5, c5, rfl⟩ := owns_form hown5
          rw [← unhide hentc] at hown5
          have hH5 := hide (((unhide hH4).on (World.grownBy_alloc _ _ _)).add hown5 hgrow5)
          clear hown5 hgrow5 hH4 hHc keep2 hce hcl2
          go_wp2
          go_roundw
          case rel => exact ⟨k + 1, Gn.mark M cl, _, acc ++ [(2 + K, cl)], by omega, by go_num, by rw [unhide hers]; exact unhide hstep, unhide hH5⟩
          case measure => simp [intOf]; omega
        · have hMe : f + 1 = Mx := by rw [unhide hM', if_neg h3]
          go_wp2_with fail
          refine (unhide hdK _).mono ?_
          rintro e wb ⟨rfl, hgb⟩
          have hHb := hide ((unhide hHa).on hgb)
          clear hgb hHa
          go_wp2_with fail
          refine (unhide hstats _).mono ?_
          rintro e wc ⟨rfl, hgc2⟩
          have hHc := hide ((unhide hHb).on hgc2)
          clear hgc2 hHb
          have hce := (unhide hHc).base.box.cell (i := 1) (by omega)
          have hcl2 := (unhide hHc).base.box.lt
          simp only [Nat.one_ne_zero, ite_false, ite_true] at hce
          have hH4 : Hid (RefMon w B G gF L U (U + 1) c F vE (Gn.mark M cl) acc (wc.alloc (.cells #[.int .i64 (2 + K), .int .i64 0, .int .i64 0, .int .i64 ((cl : Int) % 24), .int .i64 ((cl : Int) / 24), .int .i64 hp, .int .i64 hp, .int .i64 at_, .int .i64 df, .int .i64 0, .int .i64 0] 36))) := (unhide hHc).on (World.grownBy_alloc _ _ _)
          have ht4 := (unhide hHc).o6
          have keep2 : Hid (∀ y, ((wc.alloc (.cells #[.int .i64 (2 + K), .int .i64 0, .int .i64 0, .int .i64 ((cl : Int) % 24), .int .i64 ((cl : Int) / 24), .int .i64 hp, .int .i64 hp, .int .i64 at_, .int .i64 df, .int .i64 0, .int .i64 0] 36)).alloc (.cells #[.int .i64 (2 + K), .int .i64 0, .int .i64 0, .int .i64 ((cl : Int) % 24), .int .i64 ((cl : Int) / 24), .int .i64 hp, .int .i64 hp, .int .i64 at_, .int .i64 df, .int .i64 0, .int .i64 0] 36)).grownBy y vE.ownBlock → (y.cell? ⟨L, 1, none⟩ = some vE ∧ y.frozen? ⟨L, 1, none⟩ = false)) := by
            intro y hg
            have hp := ((unhide hH4).base.box.alloc (.cells #[.int .i64 (2 + K), .int .i64 0, .int .i64 0, .int .i64 ((cl : Int) % 24), .int .i64 ((cl : Int) / 24), .int .i64 hp, .int .i64 hp, .int .i64 at_, .int .i64 df, .int .i64 0, .int .i64 0] 36)).grown hg (fun e => by have := ((unhide hH4).base.ents.lt _ e).1; omega)
            exact ⟨hp.cell (by omega), hp.free 1⟩
          go_wp2_with (at_builtin; refine wpList_append_own _ rfl _ _ 26 rfl (U + 1) 36 i1 (.agg #[.int .i64 0, .int .i64 0, .int .i64 0, .int .i64 0, .int .i64 0, .int .i64 0, .int .i64 0, .int .i64 0, .int .i64 0, .int .i64 0, .int .i64 0]) 11 88 Try.underlying26 hi1 hy0 hy1 hy2 rfl (by decide) _ _ _ rfl ((unhide hH4).ents.alloc _) ⟨wc.heap.size + 1, 0, none⟩ 1 1 [.int .i64 (2 + K), .int .i64 0, .int .i64 0, .int .i64 ((cl : Int) % 24), .int .i64 ((cl : Int) / 24), .int .i64 hp, .int .i64 hp, .int .i64 at_, .int .i64 df, .int .i64 0, .int .i64 0] rfl rfl ?_ ?_ ?_ ?_ ?_ ?_)
          · exact ent_news _ _ (by simp) _ _ _ _ _ _ _ _ _ _ _ _
          · intro u hu
            simp only [List.mem_cons, List.not_mem_nil, or_false] at hu
            rcases hu with rfl | rfl | rfl | rfl | rfl | rfl | rfl | rfl | rfl | rfl | rfl <;> rfl
          · unfold maxLen; omega
          · omega
          · simp; omega
          intro v5 w5 hown5 hgrow5 _
          obtain ⟨y1, y2⟩ := unhide keep2 _ hgrow5
          obtain ⟨a5, c5, rfl⟩ := owns_form hown5
          rw [← unhide hentc] at hown5
          have hH5 := hide (((unhide hH4).on (World.grownBy_alloc _ _ _)).add hown5 hgrow5)
          clear hown5 hgrow5 hH4 hHc keep2 hce hcl2
          go_wp2
          go_roundw
          case rel => exact ⟨k + 1, Gn.mark M cl, _, acc ++ [(2 + K, cl)], by omega, by go_num, by rw [unhide hers]; exact unhide hstep, unhide hH5⟩
          case measure => simp [intOf]; omega

    · have hst : acc = fin := by
        have h := unhide hacc'
        rw [show (f + 2).toNat - k = 0 by omega, Gn.mons, List.append_nil] at h
        exact h
      have hge : ¬ (k : Int) ≤ f + 1 := by omega
      clear hlt
      go_wp2_with fail
      exact unhide hK0 _ _ (ref_items s f d (unhide hd') (unhide hFr') w B G gF L c F vE sh (unhide hlev') (by rw [unhide hsh']; exact decide_eq_decide.2 (by omega)) wr (unhide hdone wr hst (unhide hH1)) _ _ _ _ _ _ _ _ _ _ _ _ _ _ _ _ _ _ _ _ _ _ _ _ _ _ _ _ _ _ _ _ _ _ _ _ _ _ _ _ _ _ _ _ _ _ _ _ _ _ _ _ _ _ _ _ _ _ _ _ _ _ _ _ _ _ _ _ _ _ _ _ _ _ _ _ _ _ _ _ _ _ _ _ _ _ _ _ _ _ _ _ _ _ _ _ _ _ _ _ _ _ _ _ _ _ _ _ _ _ _ _ _ _ _ _ _ _ _ _ _ _ _ _ _ _ _ _ _ _ _ _ _ _ _ _ _ _ _ _ _ _ _ _ _ _ _ _ _ _ _ _ _ _ _ _ _ _ _ _ _ _ _ _ _ _ _ _ _ _ _ _ _ _ _ _ _ _ _ _ _ _ _ _ _ _ _ _ _ _ _ _ _ _ _ _ _ _ _ _ _ _ _ _ _ _ _ _ _ _ _ _ _ _ _ _ _ _ _ _ _ _ _ _ _ _ _ _ _ _ _ _ _ _ _ _ _ _ _ _ _ _ _ _ _ _ _ _ _ _ _ _ _ _ _ _ _ _ _ _ _ _ _ _ _ _ _ _ _ _ _ _ _ _ _ _ _ _ _ _ _ _ _ _ _ _ _ _ _ _ _ _ _ _ _ _ _ _ _ _ _ _ _ _ _ _ _ _ _ _ _ _ _ _ _ _ _ _ _)

end Go.Proofs.Ytbploaihicakeaa

namespace Go.Proofs.Ytbploaihicakeaa
open Go.RowKit

/-- The first of those that are furthest among those below n, or from up on. -/
def Gn.scan (F : Nat → Int) (up : Nat) : Nat → Nat
  | 0 => up
  | n + 1 => if F n > F (Gn.scan F up n) then n else Gn.scan F up n

theorem Gn.scan_is (F : Nat → Int) (up : Nat) (hu : up < 384) : ∀ n, n ≤ 384 → Gn.scan F up n < 384 ∧ F up ≤ F (Gn.scan F up n) ∧ (∀ i, i < n → F i ≤ F (Gn.scan F up n)) ∧ (Gn.scan F up n = up ∨ ∀ i, i < Gn.scan F up n → F i < F (Gn.scan F up n))
  | 0, _ => ⟨hu, Int.le_refl _, fun i hi => absurd hi (Nat.not_lt_zero _), .inl rfl⟩
  | n + 1, hn => by
    obtain ⟨h1, h2, h3, h4⟩ := Gn.scan_is F up hu n (by omega)
    unfold Gn.scan
    by_cases hc : F n > F (Gn.scan F up n)
    · rw [if_pos hc]
      refine ⟨by omega, by omega, fun i hi => ?_, .inr fun i hi => ?_⟩
      · by_cases e : i = n
        · rw [e]; exact Int.le_refl _
        · have := h3 i (by omega); omega
      · have := h3 i hi; omega
    · rw [if_neg hc]
      refine ⟨h1, h2, fun i hi => ?_, h4⟩
      by_cases e : i = n
      · rw [e]; omega
      · exact h3 i (by omega)

/-- The scan finds the furthest cell. -/
theorem Gn.scan_far {c F : Nat → Int} {up : Nat} (hu : up < 384) (h : Gn.Fld c up F) : Gn.IsFar F (Gn.scan F up 384) := by
  obtain ⟨h1, h2, h3, h4⟩ := Gn.scan_is F up hu 384 (Nat.le_refl _)
  refine ⟨h1, h3, fun i hi => ?_⟩
  rcases h4 with h4 | h4
  · rw [h4] at hi h3 ⊢
    have h0 : F up = 0 := (h.is.zero up hu).2 rfl
    have hle := h3 i (by omega)
    have hne : F i ≠ 0 := fun e => by have := (h.is.zero i (by omega)).1 e; omega
    omega
  · exact h4 i hi

/-- Is there a shop? -/
theorem Gn.shop_flag {d : Gn.Dice} {c : Nat → Int} (h2 : ∀ i, c i ≠ 5) {F : Nat → Int} {far : Nat} (h0 : d 6 0 2 = 0) :
    (Gn.shop (Gr.upd c far 4) F (F far / 2) = none → Gr.find 384 (Gn.stocked d c F far) 5 = -1) ∧ (∀ k, k < 384 → Gn.shop (Gr.upd c far 4) F (F far / 2) = some k → Gr.find 384 (Gn.stocked d c F far) 5 = (k : Int)) := by
  have h4 : ∀ i, Gr.upd c far 4 i ≠ 5 := fun i => by
    unfold Gr.upd
    split
    · omega
    · exact h2 i
  constructor
  · intro hn
    unfold Gn.stocked
    rw [if_pos h0, hn]
    exact Gn.find_no h4
  · intro k hk hs
    unfold Gn.stocked
    rw [if_pos h0, hs]
    refine Gn.find_at hk fun i => ?_
    show Gr.upd (Gr.upd c far 4) k 5 i = 5 ↔ i = k
    by_cases e : i = k
    · rw [e, Gr.upd_at]
      exact ⟨fun _ => rfl, fun _ => rfl⟩
    · rw [Gr.upd_ne _ _ e]
      exact ⟨fun h => absurd h (h4 i), fun h => absurd h e⟩

theorem Gn.no_shop {d : Gn.Dice} {c : Nat → Int} (h2 : ∀ i, c i ≠ 5) {F : Nat → Int} {far : Nat} (h0 : d 6 0 2 ≠ 0) : Gr.find 384 (Gn.stocked d c F far) 5 = -1 := by
  unfold Gn.stocked
  rw [if_neg h0]
  refine Gn.find_no fun i => ?_
  unfold Gr.upd
  split
  · omega
  · exact h2 i

theorem Gn.base_no5 (d : Gn.Dice) (i : Nat) : Gn.base d i ≠ 5 := by
  unfold Gn.base Gr.upd
  split
  · omega
  · have := Gn.dug_2 d 5 i; omega

structure RefStr (w : World) (B G gF : Nat) (c F : Nat → Int) (wr : World) : Prop where
  cells : Arr wr G 5 384 (Byts c)
  fld : Arr wr gF 3 384 (Ints F)
  res : Arr wr B 68 3 (fun _ => .slice none 0 0)
  grown : w.grownBy wr none
  o0 : w.heap.size ≤ B
  o1 : B < G
  o2 : G < gF

theorem RefStr.on {w : World} {B G gF : Nat} {c F : Nat → Int} {wr wx : World} (h : RefStr w B G gF c F wr) (hg : wr.grownBy wx none) : RefStr w B G gF c F wx :=
  ⟨h.cells.grown hg (by simp), h.fld.grown hg (by simp), h.res.grown hg (by simp), grown_none h.grown hg, h.o0, h.o1, h.o2⟩

theorem RefStr.put {w : World} {B G gF : Nat} {c F : Nat → Int} {wr : World} (h : RefStr w B G gF c F wr) (k : Nat) (v : Int) : RefStr w B G gF (Gr.upd c k v) F (wr.setCell ⟨G, k, none⟩ (.int .u8 v)) := by
  have h0 := h.o0
  have h1 := h.o1
  have h2 := h.o2
  have hg := grown_put wr G k (.int .u8 v)
  exact ⟨h.cells.byte k v, h.fld.grown hg (by simp; omega), h.res.grown hg (by simp; omega), grown_own h.grown hg (fun n e => by cases e; omega), h0, h1, h2⟩

set_option maxRecDepth 100000 in
set_option maxHeartbeats 8000000 in
theorem ref_stairs (s f : Int) (d : Gn.Dice) (hd : ∀ a b n, Gn.D s f a b n = d a b n) (hFr : Gn.Fair d) (h1f : 1 ≤ f) (h3f : f ≤ 3) (w : World) (B G X Y : Nat) (wr : World)
    (hA : Arr wr G 5 384 (Byts (Gn.dug d 5))) (hX : Arr wr X 79 6 (fun j => .int .i64 (Gn.mx d j))) (hY : Arr wr Y 79 6 (fun j => .int .i64 (Gn.my d j))) (hR : Arr wr B 68 3 (fun _ => .slice none 0 0)) (hg : w.grownBy wr none) (o0 : w.heap.size ≤ B) (o1 : B < G) (t2 t3 t8 t9 t10 t11 t12 t13 t14 t15 t16 t17 t18 t19 t20 t21 t22 t23 t24 t25 t26 t27 t28 t29 t30 t31 t32 t33 t34 t35 t36 t37 t38 t39 t40 t41 t42 t43 t44 t45 t46 t47 t48 t49 t50 t51 t52 t53 t54 t55 t56 t57 t58 t59 t60 t61 t62 t63 t64 t65 t66 t67 t68 t69 t70 t71 t72 t73 t74 t75 t76 t77 t78 t79 t80 t81 t82 t83 t84 t85 t86 t87 t88 t89 t90 t91 t92 t93 t94 t95 t96 t97 t98 t99 t100 t101 t102 t103 t104 t105 t106 t107 t108 t109 t110 t111 t112 t113 t114 t115 t116 t117 t118 t119 t120 t121 t122 t123 t124 t125 t126 t127 t128 t129 t130 t131 t132 t133 t134 t135 t136 t137 t138 t139 t140 t141 t142 t143 t144 t145 t146 t147 t148 t149 t150 t151 t152 t153 t154 t155 t156 t157 t158 t159 t160 t161 t162 t163 t164 t165 t166 t167 t168 t169 t170 t171 t172 t173 t174 t175 t176 t177 t178 t179 t180 t181 t182 t183 t184 t185 t186 t187 t188 t189 t190 t191 t192 t193 t194 t195 t196 t197 t198 t199 t200 t201 t202 t203 t204 t205 t206 t207 t208 t209 t210 t211 t212 t213 t214 t215 t216 t217 t218 t219 t220 t221 t222 t223 t224 t225 t226 t227 t228 t229 t230 t231 t232 t233 t234 t235 t236 t237 t238 t239 t240 t241 t242 t243 t244 t245 t246 t247 t248 t249 t250 t251 t252 t253 t254 t255 t256 t257 t258 t259 t260 t261 t262 t263 t264 t265 t266 t267 t268 t269 t270 t271 t272 t273 t274 t275 t276 t277 t278 t279 t280 t281 t282 t283 t284 t285 t286 t287 t288 t289 t290 t291 t292 t293 t294 t295 t296 t297 t298 t299 t300 t301 t302 t303 t304 t305 t306 t307 t308 t309 t310 t311 t312 t313 t314 t315 t316 t317 t318 t319 t320 t321 t322 t323 t324 t325 : Value) :
    Code.wp Try.prog ((Try.f41.body.map (cdrop 5)).getD .skip) (bodyPost Try.prog Try.f41 (RefDone w d f)) ⟨#[.int .i64 s, .int .i64 f, t2, t3, .pointer (some ⟨B, 0, none⟩), .slice (some ⟨G, 0, none⟩) 384 384, .pointer (some ⟨X, 0, none⟩), .pointer (some ⟨Y, 0, none⟩), t8, t9, t10, t11, t12, t13, t14, t15, t16, t17, t18, t19, t20, t21, t22, t23, t24, t25, t26, t27, t28, t29, t30, t31, t32, t33, t34, t35, t36, t37, t38, t39, t40, t41, t42, t43, t44, t45, t46, t47, t48, t49, t50, t51, t52, t53, t54, t55, t56, t57, t58, t59, t60, t61, t62, t63, t64, t65, t66, t67, t68, t69, t70, t71, t72, t73, t74, t75, t76, t77, t78, t79, t80, t81, t82, t83, t84, t85, t86, t87, t88, t89, t90, t91, t92, t93, t94, t95, t96, t97, t98, t99, t100, t101, t102, t103, t104, t105, t106, t107, t108, t109, t110, t111, t112, t113, t114, t115, t116, t117, t118, t119, t120, t121, t122, t123, t124, t125, t126, t127, t128, t129, t130, t131, t132, t133, t134, t135, t136, t137, t138, t139, t140, t141, t142, t143, t144, t145, t146, t147, t148, t149, t150, t151, t152, t153, t154, t155, t156, t157, t158, t159, t160, t161, t162, t163, t164, t165, t166, t167, t168, t169, t170, t171, t172, t173, t174, t175, t176, t177, t178, t179, t180, t181, t182, t183, t184, t185, t186, t187, t188, t189, t190, t191, t192, t193, t194, t195, t196, t197, t198, t199, t200, t201, t202, t203, t204, t205, t206, t207, t208, t209, t210, t211, t212, t213, t214, t215, t216, t217, t218, t219, t220, t221, t222, t223, t224, t225, t226, t227, t228, t229, t230, t231, t232, t233, t234, t235, t236, t237, t238, t239, t240, t241, t242, t243, t244, t245, t246, t247, t248, t249, t250, t251, t252, t253, t254, t255, t256, t257, t258, t259, t260, t261, t262, t263, t264, t265, t266, t267, t268, t269, t270, t271, t272, t273, t274, t275, t276, t277, t278, t279, t280, t281, t282, t283, t284, t285, t286, t287, t288, t289, t290, t291, t292, t293, t294, t295, t296, t297, t298, t299, t300, t301, t302, t303, t304, t305, t306, t307, t308, t309, t310, t311, t312, t313, t314, t315, t316, t317, t318, t319, t320, t321, t322, t323, t324, t325], []⟩ wr := by
  conv => arg 2; whnf
  have hd' := hide hd
  have hFr' := hide hFr
  have hA' := hide hA
  have hR' := hide hR
  have hg' := hide hg
  have q1 := hX.cell (i := 0) (by omega)
  have q2 := hY.cell (i := 0) (by omega)
  have hue := Gn.up_eq hFr
  have hul := Gn.up_lt hFr
  have hbd := Gn.mid_bd hFr 0
  have q3 := hA.cell hul
  have q4 := hA.free (Gn.up d)
  have hc5 := hide (Gn.base_5 d)
  have hbu := hide (Gn.base_up d)
  have hAb : Hid (Arr (wr.setCell ⟨G, Gn.up d, none⟩ (.int .u8 3)) G 5 384 (Byts (Gn.base d))) := hA.byte (Gn.up d) 3
  obtain ⟨cb, hcb⟩ : ∃ cb, cb = Gn.base d := ⟨_, rfl⟩
  rw [← hcb] at hAb hc5 hbu
  have hcb' := hide hcb
  obtain ⟨up, hup⟩ : ∃ up, up = Gn.up d := ⟨_, rfl⟩
  have hup' := hide hup
  rw [← hup] at hue hul q3 q4 hAb hbu
  obtain ⟨ux, hux⟩ : ∃ ux, ux = Gn.mx d 0 := ⟨_, rfl⟩
  obtain ⟨uy, huy⟩ : ∃ uy, uy = Gn.my d 0 := ⟨_, rfl⟩
  rw [← hux, ← huy] at hue hbd
  rw [← hux] at q1
  rw [← huy] at q2
  obtain ⟨b1, b2, b3, b4⟩ := hbd
  have hul' : (up : Int) < 384 := by omega
  have hG : G < wr.heap.size := hA.lt
  clear hd hFr hA hX hY hR hg hcb hup hux huy
  go_upto_region 29 with fail
  have hg1 := grown_put wr G up (.int .u8 3)
  have hR1 : Hid (Arr (wr.setCell ⟨G, up, none⟩ (.int .u8 3)) B 68 3 (fun _ => .slice none 0 0)) := (unhide hR').grown hg1 (by simp; omega)
  have hgw : Hid (w.grownBy (wr.setCell ⟨G, up, none⟩ (.int .u8 3)) none) := grown_own (unhide hg') hg1 (fun n e => by cases e; omega)
  have hG1 : G < (wr.setCell ⟨G, up, none⟩ (.int .u8 3)).heap.size := Nat.lt_of_lt_of_le hG hg1.size
  obtain ⟨w1, hw1⟩ : ∃ w1, w1 = wr.setCell ⟨G, up, none⟩ (.int .u8 3) := ⟨_, rfl⟩
  rw [← hw1] at hAb hR1 hgw hG1 ⊢
  clear hg1 hw1 q1 q2 q3 q4 hA' hR' hg' hG
  clear wr
  go_wp2_with fail
  have hA4 := (unhide hAb).alloc (.cells #[.int .i64 (up : Int)] 3)
  have hV := Vec.one w1 w1.heap.size rfl (.int .i64 (up : Int)) 3 (Ints fun _ => (up : Int)) rfl
  refine (refField_any _ _ _ 0 1 _ _ _ cb (fun _ => (up : Int)) (fun _ => false) _ (hA4.vec _ hA4.lt (by decide)) (fun i => by have := unhide hc5 i; omega) (Vec.none0 _ _ _ _) hV (fun _ => by constructor <;> omega)).mono ?_
  rintro e w5 ⟨F0, ⟨g, rfl, hgs, hAF, hbel⟩, hfld⟩
  have hF : Gn.Fld cb up (fun i => if i < 384 then F0 i else 0) := Gn.Fld.make hfld
    (fun i hi => by simp [Gr.openB])
    (fun i hi => by
      constructor
      · rintro ⟨_, j, _, he⟩
        have he' : (up : Int) = (i : Int) := he
        omega
      · rintro rfl
        exact ⟨by rw [unhide hbu]; rfl, 0, by omega, rfl⟩)
  have hAF2 : Arr w5 g 3 384 (Ints fun i => if i < 384 then F0 i else 0) := hAF.congr fun j hj => by
    show Value.int .i64 (F0 j) = .int .i64 (if j < 384 then F0 j else 0)
    rw [if_pos hj]
  obtain ⟨F, hFF⟩ : ∃ F : Nat → Int, F = fun i => if i < 384 then F0 i else 0 := ⟨_, rfl⟩
  rw [← hFF] at hF hAF2
  have hgr := below_grown hbel
  have hgg := grown_none (World.grownBy_alloc w1 (.cells #[.int .i64 (up : Int)] 3) none) hgr
  have hS5 : Hid (RefStr w B G g cb F w5) := ⟨(unhide hAb).grown hgg (by simp), hAF2, (unhide hR1).grown hgg (by simp), grown_none (unhide hgw) hgg, o0, o1, by simp at hgs; omega⟩
  have hF' := hide hF
  have hsc := hide (Gn.scan_far hul hF)
  have hnn : Hid (∀ i, i < 384 → -1 ≤ F i ∧ F i ≤ 400) := fun i hi => by
    have h1 := hF.is.lo i hi
    refine ⟨h1, ?_⟩
    by_cases h0 : 0 ≤ F i
    · have := fieldHigh hF.is (F i).toNat i hi (by omega); omega
    · omega
  have hlt0 := hide (fun n hn => Gn.scan_is F up hul n hn)
  clear hfld hAF hbel hgr hgg hV hFF hF hAF2 hAb hR1 hgw hgs hA4 hG1
  clear F0
  go_wp2_with fail
  go_loopw [22, 23] (fun vf vi wr => ∃ k : Nat, k ≤ 384 ∧ vi = .int .i64 (k : Int) ∧ vf = .int .i64 ((Gn.scan F up k : Nat) : Int) ∧ RefStr w B G g cb F wr) (fun _ vi _ => 400 - (intOf vi).toNat)
  case atStart => exact ⟨0, by omega, rfl, rfl, unhide hS5⟩
  case round =>
    clear hS5
    clear w5
    obtain ⟨k, hk, rfl, rfl, hS⟩ := hrel
    have hS1 := hide hS
    clear hS
    obtain ⟨m, hm⟩ : ∃ m, m = Gn.scan F up k := ⟨_, rfl⟩
    have hm3 : m < 384 := by rw [hm]; exact (unhide hlt0 k hk).1
    have hm3' : (m : Int) < 384 := by omega
    rw [← hm]
    by_cases hlt : k < 384
    · have hlt' : (k : Int) < 384 := by omega
      have q1 : wr.cell? ⟨g, k, none⟩ = some (.int .i64 (F k)) := (unhide hS1).fld.cell hlt
      have q2 : wr.cell? ⟨g, m, none⟩ = some (.int .i64 (F m)) := (unhide hS1).fld.cell hm3
      have hstep : Hid (Gn.scan F up (k + 1) = if F k > F m then k else m) := by
        show Gn.scan F up (k + 1) = _
        rw [Gn.scan, ← hm]
      have hdr : Hid (∀ n, RefStr w B G g cb F (wr.drewN n)) := fun n => (unhide hS1).on (grown_drew (World.grownBy.refl _ none) n)
      have hm' := hide hm
      have HL := hide hlt
      clear hm hlt hk hm3
      by_cases hgt : F m < F k
      · have hst2 : Hid (Gn.scan F up (k + 1) = k) := by show _ = _; rw [unhide hstep, if_pos hgt]
        clear hstep
        go_wp2_with fail
        go_quiet (fail)
        go_wp2
        go_roundw
        case rel => exact ⟨k + 1, by have := unhide HL; omega, by go_num, by rw [unhide hst2], unhide hdr _⟩
        case measure => simp [intOf]; omega
      · have hst2 : Hid (Gn.scan F up (k + 1) = m) := by show _ = _; rw [unhide hstep, if_neg (by omega)]
        clear hstep
        go_wp2_with fail
        go_quiet (fail)
        go_wp2
        go_roundw
        case rel => exact ⟨k + 1, by have := unhide HL; omega, by go_num, by rw [unhide hst2], unhide hdr _⟩
        case measure => simp [intOf]; omega
    · have hge : ¬ (k : Int) < 384 := by omega
      obtain rfl : k = 384 := by omega
      have hfar : Gn.IsFar F m := by rw [hm]; exact unhide hsc
      have hlev : Hid (Gn.IsLevel d (Gn.stocked d cb F m) F) := by
        have h1 := unhide hF'
        rw [unhide hup'] at h1
        rw [unhide hcb'] at h1 ⊢
        exact ⟨m, h1, hfar, rfl⟩
      have hno5 : Hid (∀ i, cb i ≠ 5) := by rw [unhide hcb']; exact Gn.base_no5 d
      have hnm : 0 ≤ F m := by
        have h0 := ((unhide hF').is.zero up hul).2 rfl
        have := hfar.top up hul
        omega
      have hnx : F m ≤ 400 := (unhide hnn m hm3).2
      have hwm : IntKind.i64.wrap (F m / 2) = F m / 2 := by rw [IntKind.wrap_i64]; omega
      have q1 := (unhide hS1).cells.cell hm3
      have q2 := (unhide hS1).cells.free m
      have hS4 := hide ((unhide hS1).put m 4)
      obtain ⟨c2, hc2⟩ : ∃ c2, c2 = Gr.upd cb m 4 := ⟨_, rfl⟩
      rw [← hc2] at hS4
      have hc2' := hide hc2
      have HM := hide hm3
      have h25 : Hid (∀ i, 0 ≤ c2 i ∧ c2 i ≤ 5) := by rw [hc2]; exact Gn.upd_5 (unhide hc5) (by omega)
      clear hlt hk hm hfar hm3 hc2 hlt0 hsc
      go_upto_region 38 with fail
      rename_i K1 h1 K2 h2
      have hK0 := hide h1
      clear h1
      obtain ⟨w4, hw4⟩ : ∃ w4, w4 = wr.setCell ⟨G, m, none⟩ (.int .u8 4) := ⟨_, rfl⟩
      rw [← hw4] at hS4 ⊢
      clear hw4 q1 q2 hS1 hge
      have hdie := refD_any s f 6 0 2 w4 (by omega)
      rw [unhide hd'] at hdie
      obtain ⟨D0, hD0⟩ : ∃ x, x = d 6 0 2 := ⟨_, rfl⟩
      rw [← hD0] at hdie
      have hD0' := hide hD0
      clear hD0
      go_wp2_with fail
      refine hdie.mono ?_
      rintro e w7 ⟨rfl, hg7⟩
      have hS7 := hide ((unhide hS4).on hg7)
      clear hdie hg7 hS4
      by_cases hz : D0 = 0
      · have hz' : (D0 == 0) = true := by simpa using hz
        have hzz := hide (show d 6 0 2 = 0 by rw [← unhide hD0']; exact hz)
        clear hz
        go_wp2_with fail
        go_loopw [24, 25] (fun vs vi wr => ∃ k : Nat, k ≤ 384 ∧ vi = .int .i64 (k : Int) ∧ ((vs = .bool false ∧ RefStr w B G g c2 F wr ∧ ∀ j, j < k → (F j == F m / 2 && c2 j == 1) = false) ∨ (vs = .bool true ∧ ∃ q, q < 384 ∧ Gn.shop c2 F (F m / 2) = some q ∧ RefStr w B G g (Gr.upd c2 q 5) F wr))) (fun _ vi _ => 400 - (intOf vi).toNat)
        case atStart => exact ⟨0, by omega, rfl, .inl ⟨rfl, unhide hS7, fun j hj => by omega⟩⟩
        case round =>
          clear hS7
          clear w7
          obtain ⟨k, hk, rfl, hcase⟩ := hrel
          rcases hcase with ⟨rfl, hS, hno⟩ | ⟨rfl, q, hq, hsh, hS⟩
          · have hS1 := hide hS
            have hno' := hide hno
            clear hS hno
            by_cases hlt : k < 384
            · have hlt' : (k : Int) < 384 := by omega
              have q1 : wr.cell? ⟨g, k, none⟩ = some (.int .i64 (F k)) := (unhide hS1).fld.cell hlt
              have q2 : wr.cell? ⟨g, m, none⟩ = some (.int .i64 (F m)) := (unhide hS1).fld.cell (unhide HM)
              have q3 : wr.cell? ⟨G, k, none⟩ = some (.int .u8 (c2 k)) := (unhide hS1).cells.cell hlt
              have hdr : Hid (∀ n, RefStr w B G g c2 F (wr.drewN n)) := fun n => (unhide hS1).on (grown_drew (World.grownBy.refl _ none) n)
              have HL := hide hlt
              clear hlt hk
              by_cases e2 : (c2 k == 1) = true
              · by_cases e1 : (F k == F m / 2) = true
                · have hsh := hide (Gn.shop_some (c := c2) (F := F) (v := F m / 2) (unhide HL) (by rw [e1, e2]; rfl) (unhide hno'))
                  have hq4 : ∀ n, (wr.drewN n).cell? ⟨G, k, none⟩ = some (.int .u8 (c2 k)) := fun n => (unhide hdr n).cells.cell (unhide HL)
                  have hq5 : ∀ n, (wr.drewN n).frozen? ⟨G, k, none⟩ = false := fun n => (unhide hdr n).cells.free k
                  have hput : Hid (∀ n, RefStr w B G g (Gr.upd c2 k 5) F ((wr.drewN n).setCell ⟨G, k, none⟩ (.int .u8 5))) := fun n => (unhide hdr n).put k 5
                  go_wp2_with fail
                  go_quiet (fail)
                  go_wp2
                  go_roundw
                  case rel => exact ⟨k + 1, by have := unhide HL; omega, by go_num, .inr ⟨rfl, k, unhide HL, unhide hsh, unhide hput _⟩⟩
                  case measure => simp [intOf]; omega
                · have e1' : (F k == F m / 2) = false := by simpa using e1
                  clear e1
                  go_wp2_with fail
                  go_quiet (fail)
                  go_wp2
                  go_roundw
                  case rel =>
                    refine ⟨k + 1, by have := unhide HL; omega, by go_num, .inl ⟨rfl, unhide hdr _, fun j hj => ?_⟩⟩
                    by_cases hjk : j = k
                    · subst hjk; rw [e1']; rfl
                    · exact unhide hno' j (by omega)
                  case measure => simp [intOf]; omega
              · have e2' : (c2 k == 1) = false := by simpa using e2
                clear e2
                go_wp2_with fail
                go_quiet (fail)
                go_wp2
                go_roundw
                case rel =>
                  refine ⟨k + 1, by have := unhide HL; omega, by go_num, .inl ⟨rfl, unhide hdr _, fun j hj => ?_⟩⟩
                  by_cases hjk : j = k
                  · subst hjk; rw [e2', Bool.and_false]
                  · exact unhide hno' j (by omega)
                case measure => simp [intOf]; omega
            · have hge : ¬ (k : Int) < 384 := by omega
              obtain rfl : k = 384 := by omega
              have hsh := Gn.shop_none (c := c2) (F := F) (v := F m / 2) (unhide hno')
              have hst : Hid (Gn.stocked d cb F m = c2) := by
                show Gn.stocked d cb F m = c2
                unfold Gn.stocked
                rw [if_pos (unhide hzz), ← unhide hc2', hsh]
                rfl
              have hfl : Hid (false = decide (0 ≤ Gr.find 384 (Gn.stocked d cb F m) 5)) := by
                have h := (Gn.shop_flag (unhide hno5) (F := F) (far := m) (unhide hzz)).1 (by rw [← unhide hc2']; exact hsh)
                show false = _
                rw [h]
                rfl
              clear hsh hk hlt
              go_wp2_with fail
              exact unhide hK0 _ _ (ref_mons s f d (unhide hd') (unhide hFr') h1f h3f w B G g (Gn.stocked d cb F m) F false (unhide hlev) (unhide hfl) wr (by rw [unhide hst]; exact (unhide hS1).cells) (unhide hS1).fld (unhide hS1).res (unhide hS1).grown (unhide hS1).o0 (unhide hS1).o1 (unhide hS1).o2 _ _ _ _ _ _ _ _ _ _ _ _ _ _ _ _ _ _ _ _ _ _ _ _ _ _ _ _ _ _ _ _ _ _ _ _ _ _ _ _ _ _ _ _ _ _ _ _ _ _ _ _ _ _ _ _ _ _ _ _ _ _ _ _ _ _ _ _ _ _ _ _ _ _ _ _ _ _ _ _ _ _ _ _ _ _ _ _ _ _ _ _ _ _ _ _ _ _ _ _ _ _ _ _ _ _ _ _ _ _ _ _ _ _ _ _ _ _ _ _ _ _ _ _ _ _ _ _ _ _ _ _ _ _ _ _ _ _ _ _ _ _ _ _ _ _ _ _ _ _ _ _ _ _ _ _ _ _ _ _ _ _ _ _ _ _ _ _ _ _ _ _ _ _ _ _ _ _ _ _ _ _ _ _ _ _ _ _ _ _ _ _ _ _ _ _ _ _ _ _ _ _ _ _ _ _ _ _ _ _ _ _ _ _ _ _ _ _ _ _ _ _ _ _ _ _ _ _ _ _ _ _ _ _ _ _ _ _ _ _ _ _ _ _ _ _ _ _ _ _ _ _ _ _ _ _ _ _ _ _ _ _ _ _ _ _ _ _ _ _ _ _ _ _ _ _ _ _ _ _ _ _ _ _ _ _ _ _ _ _ _ _ _ _ _ _ _ _ _ _ _ _ _ _ _ _ _ _ _ _ _ _ _ _ _ _ _ _ _ _)
          · have hS1 := hide hS
            have hst : Hid (Gn.stocked d cb F m = Gr.upd c2 q 5) := by
              show Gn.stocked d cb F m = Gr.upd c2 q 5
              unfold Gn.stocked
              rw [if_pos (unhide hzz), ← unhide hc2', hsh]
              rfl
            have hfl : Hid (true = decide (0 ≤ Gr.find 384 (Gn.stocked d cb F m) 5)) := by
              have h := (Gn.shop_flag (unhide hno5) (F := F) (far := m) (unhide hzz)).2 q hq (by rw [← unhide hc2']; exact hsh)
              show true = _
              rw [h]
              exact (decide_eq_true (by omega)).symm
            clear hS hsh
            by_cases hlt : (k : Int) < 384
            all_goals
              go_wp2_with fail
              exact unhide hK0 _ _ (ref_mons s f d (unhide hd') (unhide hFr') h1f h3f w B G g (Gn.stocked d cb F m) F true (unhide hlev) (unhide hfl) wr (by rw [unhide hst]; exact (unhide hS1).cells) (unhide hS1).fld (unhide hS1).res (unhide hS1).grown (unhide hS1).o0 (unhide hS1).o1 (unhide hS1).o2 _ _ _ _ _ _ _ _ _ _ _ _ _ _ _ _ _ _ _ _ _ _ _ _ _ _ _ _ _ _ _ _ _ _ _ _ _ _ _ _ _ _ _ _ _ _ _ _ _ _ _ _ _ _ _ _ _ _ _ _ _ _ _ _ _ _ _ _ _ _ _ _ _ _ _ _ _ _ _ _ _ _ _ _ _ _ _ _ _ _ _ _ _ _ _ _ _ _ _ _ _ _ _ _ _ _ _ _ _ _ _ _ _ _ _ _ _ _ _ _ _ _ _ _ _ _ _ _ _ _ _ _ _ _ _ _ _ _ _ _ _ _ _ _ _ _ _ _ _ _ _ _ _ _ _ _ _ _ _ _ _ _ _ _ _ _ _ _ _ _ _ _ _ _ _ _ _ _ _ _ _ _ _ _ _ _ _ _ _ _ _ _ _ _ _ _ _ _ _ _ _ _ _ _ _ _ _ _ _ _ _ _ _ _ _ _ _ _ _ _ _ _ _ _ _ _ _ _ _ _ _ _ _ _ _ _ _ _ _ _ _ _ _ _ _ _ _ _ _ _ _ _ _ _ _ _ _ _ _ _ _ _ _ _ _ _ _ _ _ _ _ _ _ _ _ _ _ _ _ _ _ _ _ _ _ _ _ _ _ _ _ _ _ _ _ _ _ _ _ _ _ _ _ _ _ _ _ _ _ _ _ _ _ _ _ _ _ _ _ _)
      · have hz' : (D0 == 0) = false := by simpa using hz
        have hst : Hid (Gn.stocked d cb F m = c2) := by
          show Gn.stocked d cb F m = c2
          unfold Gn.stocked
          rw [if_neg (by rw [← unhide hD0']; exact hz)]
          exact (unhide hc2').symm
        have hfl : Hid (false = decide (0 ≤ Gr.find 384 (Gn.stocked d cb F m) 5)) := by
          have h := Gn.no_shop (unhide hno5) (F := F) (far := m) (d := d) (by rw [← unhide hD0']; exact hz)
          show false = _
          rw [h]
          rfl
        clear hz
        go_wp2_with fail
        exact unhide hK0 _ _ (ref_mons s f d (unhide hd') (unhide hFr') h1f h3f w B G g (Gn.stocked d cb F m) F false (unhide hlev) (unhide hfl) w7 (by rw [unhide hst]; exact (unhide hS7).cells) (unhide hS7).fld (unhide hS7).res (unhide hS7).grown (unhide hS7).o0 (unhide hS7).o1 (unhide hS7).o2 _ _ _ _ _ _ _ _ _ _ _ _ _ _ _ _ _ _ _ _ _ _ _ _ _ _ _ _ _ _ _ _ _ _ _ _ _ _ _ _ _ _ _ _ _ _ _ _ _ _ _ _ _ _ _ _ _ _ _ _ _ _ _ _ _ _ _ _ _ _ _ _ _ _ _ _ _ _ _ _ _ _ _ _ _ _ _ _ _ _ _ _ _ _ _ _ _ _ _ _ _ _ _ _ _ _ _ _ _ _ _ _ _ _ _ _ _ _ _ _ _ _ _ _ _ _ _ _ _ _ _ _ _ _ _ _ _ _ _ _ _ _ _ _ _ _ _ _ _ _ _ _ _ _ _ _ _ _ _ _ _ _ _ _ _ _ _ _ _ _ _ _ _ _ _ _ _ _ _ _ _ _ _ _ _ _ _ _ _ _ _ _ _ _ _ _ _ _ _ _ _ _ _ _ _ _ _ _ _ _ _ _ _ _ _ _ _ _ _ _ _ _ _ _ _ _ _ _ _ _ _ _ _ _ _ _ _ _ _ _ _ _ _ _ _ _ _ _ _ _ _ _ _ _ _ _ _ _ _ _ _ _ _ _ _ _ _ _ _ _ _ _ _ _ _ _ _ _ _ _ _ _ _ _ _ _ _ _ _ _ _ _ _ _ _ _ _ _ _ _ _ _ _ _ _ _ _ _ _ _ _ _ _ _ _ _ _ _ _ _)

end Go.Proofs.Ytbploaihicakeaa
