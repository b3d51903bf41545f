/-
  The law's own world: the open cells, listed.
  The law's own world, whole.
  The law's known world: a potion is taken up.
  A law's world, its hero and what an input does to it; lists that are found by hand.
  A law's worlds in their boxes, one behind the other.
  A law's world, laid over by the one that a call has answered.
-/
import Derived.Test.YtbploaihicakeaaPart22
import Derived.Laws.AppendOwnNone
import Derived.Test.YtbploaihicakeaaPart21
import Derived.Test.YtbploaihicakeaaPart18
import Derived.Test.YtbploaihicakeaaPart20
namespace Go.Proofs.Ytbploaihicakeaa
open Go.RowKit

theorem Gd.those_at {p : Nat → Bool} {n i : Nat} (hi : i < (Gn.those p n).length) : ∃ a, (Gn.those p n)[i]? = some a ∧ a < n ∧ p a = true := by
  refine ⟨(Gn.those p n)[i], List.getElem?_eq_getElem hi, ?_⟩
  have h := List.getElem_mem hi
  unfold Gn.those at h
  rw [List.mem_filter, List.mem_range] at h
  exact h

theorem Gd.natInts_is {l : List Nat} {i c : Nat} (h : l[i]? = some c) : (natInts l)[i]?.getD 0 = (c : Int) := by
  unfold natInts
  rw [List.getElem?_map, h]
  rfl

theorem Gd.those_pos {p : Nat → Bool} {n i : Nat} (hi : i < n) (h : p i = true) : 0 < (Gn.those p n).length := by
  refine List.length_pos_of_mem (a := i) ?_
  unfold Gn.those
  rw [List.mem_filter, List.mem_range]
  exact ⟨hi, h⟩

theorem Gd.own_open {w : World} {base : Nat} {v : Value} {l : List Nat} (h : Lst w base v l) (hp : 0 < l.length) :
    ∃ g cap, v = .slice (some ⟨g, 0, none⟩) l.length cap ∧ base ≤ g ∧ g < w.heap.size ∧ ∀ i, i < l.length → w.cell? ⟨g, 0 + i, none⟩ = some (.int .i64 (((l[i]?.getD 0 : Nat)) : Int)) := by
  have h' : w.ownsRow base 3 1 v l.length ((natInts l).map (Value.int .i64)) := h
  rcases h'.2 with ⟨_, hl⟩ | ⟨g, cap, cur, hv, hb, hg, _, _, _, _⟩
  · omega
  · subst hv
    refine ⟨g, cap, rfl, hb, lt_of_block hg, fun i hi => ?_⟩
    rw [Nat.zero_add, h'.cellAt i (by omega), List.getElem?_map]
    unfold natInts
    rw [List.getElem?_map, List.getElem?_eq_getElem hi]
    rfl

set_option maxRecDepth 100000 in
set_option maxHeartbeats 12800000 in
theorem world_open (seat at_ gold : Int) (s c : Nat → Int) (h5 : ∀ i, 0 ≤ c i ∧ c i ≤ 5) (hsome : ∃ i, i < 384 ∧ c i ≠ 0) (aL : Option Addr) (nL cL : Nat) (M : Nat → Nat → Int) (R B gC gE gI : Nat) (w x : World)
    (hM : Gd.Some w aL (min nL 20) M) (hX : Gd.Laid w x R B gC gE gI s (fun _ => 0) c (fun _ _ => 0) (fun _ _ => 0)) (Q : Ending → World → Prop) (hQ : ∀ kc : Nat, kc < 384 → Gr.walkB (c kc) = true → (at_.tmod 3 = 0 → 0 ≤ Gr.find 384 c 5 → Gr.find 384 c 5 = (kc : Int)) → ∀ e w', Gd.Tells w s (Gd.give (fun _ => 0) (seat % 4).toNat (gold % 1000)) c (En.put (fun _ _ => 0) (at_ % 32).toNat (Gd.folk (seat % 4) kc (at_ % 20))) kc nL M e w' → Q e w') (t0 t1 t6 t7 t8 t9 t10 t11 t14 t15 t16 t17 t18 t19 t20 t21 t22 t23 t24 t25 t26 t27 t28 t29 t30 t31 t32 t33 t34 t35 t36 t37 t38 t39 t40 t41 t42 t43 t44 t45 t46 t47 t48 t49 t50 t51 t52 t53 t54 t55 t56 t57 t58 t59 t60 t61 t62 t63 t64 t65 t66 t67 t68 t69 t70 t71 t72 t73 t74 t75 t76 t77 t78 t79 t80 t81 t82 t83 t84 t85 t86 t87 t88 t89 t90 t91 t92 t93 t94 t95 t96 t97 t98 t99 t100 t101 t102 t103 t104 t105 t106 t107 t108 t109 t110 t111 t112 t113 t114 t115 t116 t117 t118 t119 t120 t121 t122 t123 t124 t125 t126 t127 t128 t129 t130 t131 t132 t133 t134 t135 t136 t137 t138 t139 t140 t141 t142 t143 t144 t145 t146 t147 t148 t149 t150 t151 t152 t153 t154 t155 t156 t157 t158 t159 t160 t161 t162 t163 t164 t165 t166 t167 t168 t169 t170 t171 t172 t173 t174 t175 t176 t177 t178 t179 t180 t181 t182 t183 t184 t185 t186 t187 t188 t189 t190 t191 t192 t193 t194 t195 t196 t197 t198 t199 t200 t201 t202 t203 t204 t205 t206 t207 t208 t209 t210 t211 t212 t213 t214 t215 t216 t217 t218 t219 t220 t221 t222 t223 t224 t225 : Value) :
    Code.wp Try.prog ((Try.f23.body.map (cdrop 3)).getD .skip) (bodyPost Try.prog Try.f23 Q) ⟨#[t0, t1, .int .i64 seat, .int .i64 at_, .slice aL nL cL, .int .i64 gold, t6, t7, t8, t9, t10, t11, .pointer (some ⟨R, 0, none⟩), .pointer (some ⟨B, 0, none⟩), t14, t15, t16, t17, t18, t19, t20, t21, t22, t23, t24, t25, t26, t27, t28, t29, t30, t31, t32, t33, t34, t35, t36, t37, t38, t39, t40, t41, t42, t43, t44, t45, t46, t47, t48, t49, t50, t51, t52, t53, t54, t55, t56, t57, t58, t59, t60, t61, t62, t63, t64, t65, t66, t67, t68, t69, t70, t71, t72, t73, t74, t75, t76, t77, t78, t79, t80, t81, t82, t83, t84, t85, t86, t87, t88, t89, t90, t91, t92, t93, t94, t95, t96, t97, t98, t99, t100, t101, t102, t103, t104, t105, t106, t107, t108, t109, t110, t111, t112, t113, t114, t115, t116, t117, t118, t119, t120, t121, t122, t123, t124, t125, t126, t127, t128, t129, t130, t131, t132, t133, t134, t135, t136, t137, t138, t139, t140, t141, t142, t143, t144, t145, t146, t147, t148, t149, t150, t151, t152, t153, t154, t155, t156, t157, t158, t159, t160, t161, t162, t163, t164, t165, t166, t167, t168, t169, t170, t171, t172, t173, t174, t175, t176, t177, t178, t179, t180, t181, t182, t183, t184, t185, t186, t187, t188, t189, t190, t191, t192, t193, t194, t195, t196, t197, t198, t199, t200, t201, t202, t203, t204, t205, t206, t207, t208, t209, t210, t211, t212, t213, t214, t215, t216, t217, t218, t219, t220, t221, t222, t223, t224, t225], []⟩ x := by
  conv => arg 2; whnf
  obtain ⟨i0, hi, hz0, hz1, hz2⟩ := info_parts info_int
  have hX' := hide hX
  have hM' := hide hM
  have hQ' := hide hQ
  have h5' := hide h5
  have hsome' := hide hsome
  clear hX hM hQ h5 hsome
  go_wp2_with fail
  go_loopw [14, 15] (fun v i wr => ∃ k : Nat, k ≤ 384 ∧ i = .int .i64 (k : Int) ∧ Hid (Lst wr x.heap.size v (Gn.those (fun i => Gr.walkB (c i)) k)) ∧ Hid (x.grownBy wr none)) (fun _ i _ => 400 - (intOf i).toNat)
  case atStart => exact ⟨0, by omega, rfl, World.ownsRow_nil _ _ _ _, World.grownBy.refl _ _⟩
  case round =>
    obtain ⟨k, hk, rfl, hown1, hg1⟩ := hrel
    have hsz := (unhide hg1).size
    have hln := Gn.those_len (fun i => Gr.walkB (c i)) k
    have hXr := hide ((unhide hX').on (unhide hg1))
    by_cases hlt : k < 384
    · have q1 : wr.cell? ⟨gC, k, none⟩ = some (.int .u8 (c k)) := (unhide hXr).hold.lists.cells.cell hlt
      have b4 := (unhide hXr).hold.box.eleven.2.2.2.2.1
      have qb : 0 ≤ c k ∧ c k ≤ 5 := unhide h5' k
      obtain ⟨qb1, qb2⟩ := qb
      have cK := hide (fun wq => refWalk_any (c k) wq)
      have hlt' : (k : Int) < 384 := by omega
      have HL := hide hlt
      clear hlt hk hX' hXr
      by_cases hq : Gr.walkB (c k) = true
      · have hyes := hide (Gn.those_yes (p := fun i => Gr.walkB (c i)) hq)
        rw [hq] at cK
        obtain ⟨l, hl⟩ : ∃ l, l = Gn.those (fun i => Gr.walkB (c i)) k := ⟨_, rfl⟩
        rw [← hl] at hown1 hln hyes
        clear hl hq
        go_wp2_with fail
        refine (unhide cK _).mono ?_
        rintro e wy ⟨rfl, hy⟩
        subst hy
        go_wp2_with (at_builtin; refine wpList_append_own _ rfl _ _ 22 rfl x.heap.size 3 i0 (.int .i64 0) 1 8 Try.underlying22 hi hz0 hz1 hz2 rfl (by decide) _ _ _ rfl ((unhide hown1).alloc _) ⟨wy.heap.size, 0, none⟩ 1 1 [.int .i64 (k : Int)] rfl rfl ?_ ?_ ?_ ?_ ?_ ?_)
        · exact one_at _ _ _ _ rfl
        · intro u hu; simp at hu; subst hu; rfl
        · unfold maxLen; omega
        · omega
        · simp; omega
        intro v' w1 hown' hgrow _
        rw [natInts_more] at hown'
        have hown2 : Hid (Lst w1 x.heap.size v' (Gn.those (fun i => Gr.walkB (c i)) (k + 1))) := by
          rw [unhide hyes]
          show w1.ownsRow _ _ _ _ _ _
          rw [List.length_append]
          exact hown'
        have hg2 := hide (grown_own (grown_alloc (unhide hg1) _) hgrow (fun n e => ((unhide hown1).lt n e).1))
        clear hown' hgrow hown1 hg1
        go_wp2
        go_roundw
        case rel => exact ⟨k + 1, by have := unhide HL; omega, by go_num, hown2, hg2⟩
        case measure => simp [intOf]; omega
      · rw [Bool.not_eq_true] at hq
        have hno := hide (Gn.those_no (p := fun i => Gr.walkB (c i)) hq)
        rw [hq] at cK
        clear hq
        go_wp2_with fail
        refine (unhide cK _).mono ?_
        rintro e wy ⟨rfl, hy⟩
        subst hy
        go_wp2
        go_roundw
        case rel => exact ⟨k + 1, by have := unhide HL; omega, by go_num, by show Lst _ _ _ _; rw [unhide hno]; exact unhide hown1, hg1⟩
        case measure => simp [intOf]; omega
    · have hge : ¬ (k : Int) < 384 := by omega
      obtain rfl : k = 384 := by omega
      obtain ⟨xw, hxw, hxc⟩ := unhide hsome'
      have hnz : ∀ j, Gr.walkB (c j) = true ↔ c j ≠ 0 := fun j => Gn.walk_nz (unhide h5' j)
      have hpos := Gd.those_pos (p := fun i => Gr.walkB (c i)) hxw ((hnz xw).2 hxc)
      obtain ⟨ob, ocap, hov, hlo, hhi, hcs⟩ := Gd.own_open (unhide hown1) hpos
      subst hov
      have hOp : Hid (Gd.Open wr ob 0 (Gn.those (fun i => Gr.walkB (c i)) 384).length (fun i => (Gn.those (fun i => Gr.walkB (c i)) 384)[i]?.getD 0) B gE gI) := by
        have l1 := (unhide hX').hold.box.lt
        have l2 := (unhide hX').hold.lists.ents.lt
        have l3 := (unhide hX').hold.lists.items.lt
        exact ⟨hcs, hhi, by omega, by omega, by omega⟩
      have hOw : Hid (∀ i, i < (Gn.those (fun i => Gr.walkB (c i)) 384).length → (Gn.those (fun i => Gr.walkB (c i)) 384)[i]?.getD 0 < 384 ∧ Gr.walkB (c ((Gn.those (fun i => Gr.walkB (c i)) 384)[i]?.getD 0)) = true) := fun i hi => by
        obtain ⟨a, h1, h2, h3⟩ := Gd.those_at hi
        rw [h1]
        exact ⟨h2, h3⟩
      obtain ⟨L, hL⟩ : ∃ L, L = (Gn.those (fun i => Gr.walkB (c i)) 384).length := ⟨_, rfl⟩
      rw [← hL] at hln hpos hOp hOw ⊢
      rename_i hKK
      have hK0 := hide hKK
      clear hKK hnz hxc hxw hlo hhi hcs hown1 hL hlt hk hsz
      go_wp2_with fail
      exact unhide hK0 _ _ (world_seat seat at_ gold s c (unhide h5') aL nL cL M R B gC gE gI ob 0 L ocap _ hpos hln (unhide hOw) w wr (unhide hM') (unhide hXr) (unhide hOp) Q (unhide hQ') _ _ _ _ _ _ _ _ _ _ _ _ _ _ _ _ _ _ _ _ _ _ _ _ _ _ _ _ _ _ _ _ _ _ _ _ _ _ _ _ _ _ _ _ _ _ _ _ _ _ _ _ _ _ _ _ _ _ _ _ _ _ _ _ _ _ _ _ _ _ _ _ _ _ _ _ _ _ _ _ _ _ _ _ _ _ _ _ _ _ _ _ _ _ _ _ _ _ _ _ _ _ _ _ _ _ _ _ _ _ _ _ _ _ _ _ _ _ _ _ _ _ _ _ _ _ _ _ _ _ _ _ _ _ _ _ _ _ _ _ _ _ _ _ _ _ _ _ _ _ _ _ _ _ _ _ _ _ _ _ _ _ _ _ _ _ _ _ _ _ _ _ _ _ _ _ _ _ _ _ _ _ _ _ _ _ _ _ _ _ _ _ _ _ _ _ _ _ _ _ _ _ _ _ _ _ _ _ _ _ _ _ _ _ _ _ _ _ _)

end Go.Proofs.Ytbploaihicakeaa

namespace Go.Proofs.Ytbploaihicakeaa
open Go.RowKit

/-- What the law's World answers: a floor of the document, a hero on it, items that may be where they are, gold. -/
def Gd.Told (w : World) (seed fl seat at_ gold : Int) (nL : Nat) (M : Nat → Nat → Int) (e : Ending) (w' : World) : Prop :=
  ∃ (c : Nat → Int) (kc : Nat), Nv.Floor c ∧ kc < 384 ∧ Gr.walkB (c kc) = true ∧ (at_.tmod 3 = 0 → 0 ≤ Gr.find 384 c 5 → Gr.find 384 c 5 = (kc : Int)) ∧ Gd.Tells w (Gd.head seed fl) (Gd.give (fun _ => 0) (seat % 4).toNat (gold % 1000)) c (En.put (fun _ _ => 0) (at_ % 32).toNat (Gd.folk (seat % 4) kc (at_ % 20))) kc nL M e w'

theorem Gd.Begun.laid {w w0 x : World} {B gC gE gI : Nat} {seed fl : Int} {c : Nat → Int} (h : Gd.Begun w0 x B gC gE gI seed fl c) (hg : w.grownBy w0 none) (hs : w0.heap.size = w.heap.size + 1)
    (hr : Lie w0 w.heap.size 29 11 (fun j => #[.int .i64 0, .int .i64 0, .int .i64 0, .int .i64 0, .slice none 0 0, .slice none 0 0, .slice none 0 0, .int .i64 0, .int .i64 0, .int .i64 0, Value.int .i64 0][j]?.getD undef)) : Gd.Laid w x w.heap.size B gC gE gI (Gd.head seed fl) (fun _ => 0) c (fun _ _ => 0) (fun _ _ => 0) := by
  have h1 := h.lB
  have h2 := h.lC
  have h3 := h.lE
  have h4 := h.lI
  exact ⟨h.hold, rfl, by omega, by omega, by omega, by omega, hr.on h.grown, grown_trans hg h.grown⟩

set_option maxRecDepth 100000 in
set_option maxHeartbeats 12800000 in
theorem world_any (seed floor seat at_ gold : Int) (aL : Option Addr) (nL cL : Nat) (M : Nat → Nat → Int) (w : World) (hM : Gd.Some w aL (min nL 20) M) :
    Calls Try.prog 23 #[.int .i64 seed, .int .i64 floor, .int .i64 seat, .int .i64 at_, .slice aL nL cL, .int .i64 gold] w (Gd.Told w seed (1 + floor % 3) seat at_ gold nL M) := by
  have cf := hide (within7_any floor 3 (w.alloc (.cells #[.int .i64 0, .int .i64 0, .int .i64 0, .int .i64 0, .slice none 0 0, .slice none 0 0, .slice none 0 0, .int .i64 0, .int .i64 0, .int .i64 0, .int .i64 0] 29)) (by omega) (by omega))
  obtain ⟨fl, hfl⟩ : ∃ fl, floor % 3 = fl := ⟨_, rfl⟩
  have f0 : 0 ≤ fl := by omega
  have f3 : fl < 3 := by omega
  rw [hfl] at cf ⊢
  have hM' := hide hM
  clear hfl hM
  go_enter Try.func23, Try.ntmps23
  go_wp2_with fail
  refine (unhide cf).mono ?_
  rintro e w1 ⟨rfl, hw1⟩
  subst w1
  clear cf
  go_upto_region 2 with fail
  rename_i hKK
  have hK0 := hide hKK
  clear hKK
  have hr := hide (Arr.lit (heap_alloc_new w (.cells #[.int .i64 0, .int .i64 0, .int .i64 0, .int .i64 0, .slice none 0 0, .slice none 0 0, .slice none 0 0, .int .i64 0, .int .i64 0, .int .i64 0, .int .i64 0] 29))).lie
  have hg0 := hide (World.grownBy_alloc w (.cells #[.int .i64 0, .int .i64 0, .int .i64 0, .int .i64 0, .slice none 0 0, .slice none 0 0, .slice none 0 0, .int .i64 0, .int .i64 0, .int .i64 0, .int .i64 0] 29) none)
  have hs : Hid ((w.alloc (.cells #[.int .i64 0, .int .i64 0, .int .i64 0, .int .i64 0, .slice none 0 0, .slice none 0 0, .slice none 0 0, .int .i64 0, .int .i64 0, .int .i64 0, .int .i64 0] 29)).heap.size = w.heap.size + 1) := by
    show _ = _
    simp
  generalize w.alloc (.cells #[.int .i64 0, .int .i64 0, .int .i64 0, .int .i64 0, .slice none 0 0, .slice none 0 0, .slice none 0 0, .int .i64 0, .int .i64 0, .int .i64 0, .int .i64 0] 29) = w0 at hr hg0 hs ⊢
  refine wp_region_any (by kernel_rfl) ?_
  change wpAny _ _ _ _ _ _ _ (World.drew _)
  refine wpAny_take (i := 0) (v := ?_) rfl (by kernel_rfl) (by kernel_rfl) (by kernel_rfl) (fun _ _ _ h => h) (Or.inl ⟨by rfl, ?_⟩) ?_
  rotate_left
  · intro w
    go_simp
    with_reducible rfl
  refine wpAny_take (i := 1) (v := ?_) rfl (by kernel_rfl) (by kernel_rfl) (by kernel_rfl) (fun _ _ _ h => h) (Or.inl ⟨by rfl, ?_⟩) ?_
  rotate_left
  · intro w
    go_simp
    with_reducible rfl
  refine wpAny_take (i := 2) (v := ?_) rfl (by kernel_rfl) (by kernel_rfl) (by kernel_rfl) (fun _ _ _ h => h) (Or.inl ⟨by rfl, ?_⟩) ?_
  rotate_left
  · intro w
    go_simp
    with_reducible rfl
  refine wpAny_take (i := 3) (v := ?_) rfl (by kernel_rfl) (by kernel_rfl) (by kernel_rfl) (fun _ _ _ h => h) (Or.inl ⟨by rfl, ?_⟩) ?_
  rotate_left
  · intro w
    go_simp
    with_reducible rfl
  refine lots_N seed (1 + fl) (by omega) (by omega) w0 w0.drew (grown_drew1 (World.grownBy.refl _ _)) _ (fun _ d _ _ _ h => by cases d <;> exact h) _ _ _ _ _ _ _ _ _ _ _ _ _ _ _ _ _ _ _ _ _ _ _ _ _ _ _ _ _ _ _ _ _ _ _ _ _ _ _ _ _ _ _ _ _ _ _ _ _ _ _ _ _ _ _ _ _ _ _ _ _ _ _ _ _ _ _ _ _ _ _ _ _ _ _ _ _ _ _ _ _ _ _ _ _ _ _ _ _ _ _ _ _ _ _ _ _ _ _ _ _ _ _ _ _ _ _ _ _ _ _ _ _ _ _ _ _ _ _ _ _ _ _ _ _ _ _ _ _ _ _ _ _ _ _ _ _ _ _ _ _ _ _ _ _ _ _ _ _ _ _ _ _ _ _ _ _ _ _ _ _ _ _ _ _ _ _ _ _ _ _ _ _ _ _ _ _ _ _ _ _ _ _ _ _ _ _ _ _ _ _ _ _ _ _ _ _ _ _ _ _ _ _ _ _ _ _ _ _ _ _ _ _ _ _ _ _ _ _ _ ?_
  intro c B G gE gI w1 u13 u24 u25 u26 u27 u28 u29 u30 u31 u32 hu hF hBg
  subst hu
  exact unhide hK0 _ _ (world_open seat at_ gold (Gd.head seed (1 + fl)) c hF.five hF.some aL nL cL M w.heap.size B G gE gI w w1 (unhide hM') (hBg.laid (unhide hg0) (unhide hs) (unhide hr)) (Gd.Told w seed (1 + fl) seat at_ gold nL M) (fun kc h1 h2 h3 e w' ht => ⟨c, kc, hF, h1, h2, h3, ht⟩) _ _ _ _ _ _ _ _ _ _ _ _ _ _ _ _ _ _ _ _ _ _ _ _ _ _ _ _ _ _ _ _ _ _ _ _ _ _ _ _ _ _ _ _ _ _ _ _ _ _ _ _ _ _ _ _ _ _ _ _ _ _ _ _ _ _ _ _ _ _ _ _ _ _ _ _ _ _ _ _ _ _ _ _ _ _ _ _ _ _ _ _ _ _ _ _ _ _ _ _ _ _ _ _ _ _ _ _ _ _ _ _ _ _ _ _ _ _ _ _ _ _ _ _ _ _ _ _ _ _ _ _ _ _ _ _ _ _ _ _ _ _ _ _ _ _ _ _ _ _ _ _ _ _ _ _ _ _ _ _ _ _ _ _ _ _ _ _ _ _ _ _ _ _ _ _ _ _ _ _ _ _ _ _ _ _ _ _ _ _ _ _ _ _ _ _ _ _ _ _ _ _ _ _ _ _ _ _ _ _ _ _ _ _ _ _ _ _ _ _)

end Go.Proofs.Ytbploaihicakeaa

namespace Go.Proofs.Ytbploaihicakeaa
open Go.RowKit

theorem Gd.folk_hero {r : Nat} (hr : r < 32) (st : Int) (kc : Nat) (h : Int) : Gd.hero (En.put (fun _ _ => 0) r (Gd.folk st kc h)) st = (r : Int) := by
  unfold Gd.hero
  refine En.first_hit (fun j hj => ?_) ?_ hr
  · simp [En.heroQ, En.put_other (show j ≠ r by omega)]
  · simp [En.heroQ, En.put_same, Gd.folk]

theorem Gd.folk_none {r : Nat} {st seat : Int} {kc : Nat} {h : Int} (hs : seat ≠ st) : Gd.hero (En.put (fun _ _ => 0) r (Gd.folk st kc h)) seat = -1 := by
  unfold Gd.hero
  refine En.first_none fun j hj => ?_
  by_cases e : j = r
  · subst e
    simp [En.heroQ, En.put_same, Gd.folk, hs.symm]
  · simp [En.heroQ, En.put_other e]

theorem Gd.told_fine {c : Nat → Int} {I : Nat → Nat → Int} {sn r : Nat} {gd st h : Int} {kc : Nat} (hF : Nv.Floor c) (hOk : Gd.Ok c 40 I) (g0 : 0 ≤ gd) (g9 : gd ≤ 999) (h0 : 0 ≤ h) (h9 : h < 20) : Gd.Fine c (Gd.give (fun _ => 0) sn gd) (En.put (fun _ _ => 0) r (Gd.folk st kc h)) I := by
  refine ⟨fun i => ⟨(hF.five i).1, by have := (hF.five i).2; omega⟩, fun t _ => ?_, fun k _ => ?_, hOk⟩
  · unfold Gd.give
    by_cases e : t = sn
    · rw [if_pos e]; omega
    · rw [if_neg e]
      exact ⟨Int.le_refl _, by show (0 : Int) ≤ 999; omega⟩
  · by_cases e : k = r
    · subst e
      rw [En.put_same]
      show 0 ≤ 1 + h ∧ 1 + h ≤ 1000
      omega
    · rw [En.put_other e]
      exact ⟨Int.le_refl _, by show (0 : Int) ≤ 1000; omega⟩

theorem Gd.find_at {I : Nat → Nat → Int} {n k : Nat} {w a b : Int} (hk : k < n) (h1 : I k 1 = w) (h2 : I k 2 = a) (h3 : I k 3 = b) (hno : ∀ j, j < k → ¬ (I j 1 = w ∧ I j 2 = a ∧ I j 3 = b)) : Gd.find I n w a b = (k : Int) := by
  unfold Gd.find
  refine En.first_hit (fun j hj => ?_) (by simp [Gd.inQ, h1, h2, h3]) hk
  · have := hno j hj
    simp only [Gd.inQ, Bool.and_eq_false_iff, decide_eq_false_iff_not]
    by_cases e1 : I j 1 = w
    · by_cases e2 : I j 2 = a
      · exact .inr (.inr fun e3 => this ⟨e1, e2, e3⟩)
      · exact .inr (.inl e2)
    · exact .inl e1

theorem Gd.find_no {I : Nat → Nat → Int} {n : Nat} {w a b : Int} (hno : ∀ j, j < n → ¬ (I j 1 = w ∧ I j 2 = a ∧ I j 3 = b)) : Gd.find I n w a b = -1 := by
  rcases Gd.find_cases I n w a b with ⟨h, _⟩ | ⟨k, hk, _, h1, h2, h3, _⟩
  · exact h
  · exact absurd ⟨h1, h2, h3⟩ (hno k hk)

theorem Gd.slot_at {I : Nat → Nat → Int} {n k : Nat} {seat : Int} (hk : k < 4) (hf : Gd.find I n 2 seat (k : Int) < 0) (hno : ∀ j : Nat, j < k → 0 ≤ Gd.find I n 2 seat (j : Int)) : Gd.slot I n seat = (k : Int) := by
  unfold Gd.slot
  refine En.first_hit (fun j hj => ?_) (by simpa using hf) hk
  have := hno j hj
  simp
  omega

/-- What an input does where the hero stands. -/
theorem Gd.next_is {c g : Nat → Int} {E I : Nat → Nat → Int} {seat input : Int} {r kc : Nat} (s0 : 0 ≤ seat) (s4 : seat < 4) (hh : Gd.hero E seat = (r : Int)) (hkc : kc < 384) (hx : E r 3 = (kc : Int) % 24) (hy : E r 4 = (kc : Int) / 24) :
    Gd.nextI c g E I seat input = Gd.act I 40 seat ((kc : Int) % 24) ((kc : Int) / 24) (decide (c kc = 5)) (g seat.toNat) input ∧ Gd.nextE E I seat input = Gd.entsOf E I r seat input ∧ Gd.nextG c g E I seat input = Gd.give g seat.toNat (Gd.goldOf I seat ((kc : Int) % 24) ((kc : Int) / 24) (decide (c kc = 5)) (g seat.toNat) input) := by
  have hc : 0 ≤ seat ∧ seat < 4 ∧ 0 ≤ Gd.hero E seat := ⟨s0, s4, by omega⟩
  unfold Gd.nextI Gd.nextE Gd.nextG
  rw [if_pos hc, if_pos hc, if_pos hc, hh, Int.toNat_natCast, hx, hy, Gr.at_cell c kc hkc]
  exact ⟨rfl, rfl, rfl⟩

theorem Gd.known_pick {x y : Int} (I : Nat → Nat → Int) (hI : I = En.put (fun _ _ => 0) 0 (Gd.row 1 1 x y)) (shop : Bool) (gd : Int) : Gd.act I 40 0 x y shop gd 5 = En.put I 0 (Gd.row 1 2 0 0) := by
  have h0 : I 0 = Gd.row 1 1 x y := by rw [hI, En.put_same]
  have hj : ∀ j, j ≠ 0 → I j = fun _ => 0 := fun j e => by rw [hI, En.put_other e]
  have hf : Gd.find I 40 1 x y = ((0 : Nat) : Int) := Gd.find_at (by omega) (by rw [h0]; rfl) (by rw [h0]; rfl) (by rw [h0]; rfl) (fun j hj => by omega)
  have hs : Gd.slot I 40 0 = ((0 : Nat) : Int) := by
    refine Gd.slot_at (by omega) ?_ (fun j hj => by omega)
    rw [Gd.find_no fun j hjn hc => ?_]
    · omega
    · by_cases e : j = 0
      · subst e
        rw [h0] at hc
        have : (1 : Int) = 2 := hc.1
        omega
      · rw [hj j e] at hc
        have : (0 : Int) = 2 := hc.1
        omega
  unfold Gd.act Gd.pick
  rw [if_pos rfl, hf, hs]
  have h00 : I ((0 : Nat) : Int).toNat 0 = 1 := by
    show I 0 0 = 1
    rw [h0]
    rfl
  rw [h00, if_neg (by omega), if_pos ⟨by omega, by omega⟩]
  rfl

end Go.Proofs.Ytbploaihicakeaa

namespace Go.Proofs.Ytbploaihicakeaa
open Go.RowKit

/-- A world whose hero of a seat stands at a cell that can be walked on. -/
structure Gd.Sit (c g : Nat → Int) (E I : Nat → Nat → Int) (seat : Int) (r kc : Nat) : Prop where
  fine : Gd.Fine c g E I
  s0 : 0 ≤ seat
  s4 : seat < 4
  hero : Gd.hero E seat = (r : Int)
  r32 : r < 32
  kc4 : kc < 384
  walk : Gr.walkB (c kc) = true
  x : E r 3 = (kc : Int) % 24
  y : E r 4 = (kc : Int) / 24

theorem Gd.Sit.items {c g : Nat → Int} {E I J : Nat → Nat → Int} {seat : Int} {r kc : Nat} (h : Gd.Sit c g E I seat r kc) (hJ : Gd.Ok c 40 J) : Gd.Sit c g E J seat r kc :=
  { h with fine := { h.fine with ok := hJ } }

/-- The law's world without items. -/
theorem world_bare (seed floor seat at_ gold : Int) (s0 : 0 ≤ seat) (s4 : seat < 4) (w : World) :
    Calls Try.prog 23 #[.int .i64 seed, .int .i64 floor, .int .i64 seat, .int .i64 at_, .slice none 0 0, .int .i64 gold] w fun e w' => ∃ (c : Nat → Int) (kc : Nat) (s g : Nat → Int) (E : Nat → Nat → Int), Gd.Sit c g E (fun _ _ => 0) seat (at_ % 32).toNat kc ∧ Nv.Floor c ∧ (at_.tmod 3 = 0 → 0 ≤ Gr.find 384 c 5 → Gr.find 384 c 5 = (kc : Int)) ∧ g seat.toNat = gold % 1000 ∧ E = En.put (fun _ _ => 0) (at_ % 32).toNat (Gd.folk seat kc (at_ % 20)) ∧ Gd.Worlds w s g c E (fun _ _ => 0) e w' := by
  refine (world_any seed floor seat at_ gold none 0 0 (fun _ _ => 0) w ⟨by omega, .inl rfl⟩).mono ?_
  rintro e w' ⟨c, kc, hF, hkc, hkw, hshop, I, hW, hOk, hKn⟩
  have hI := hKn.1.1 rfl
  subst hI
  rw [Int.emod_eq_of_lt s0 s4] at hW
  refine ⟨c, kc, _, _, _, ⟨Gd.told_fine hF hOk (by omega) (by omega) (by omega) (by omega), s0, s4, Gd.folk_hero (by omega) _ _ _, by omega, hkc, hkw, by rw [En.put_same]; rfl, by rw [En.put_same]; rfl⟩, hF, hshop, ?_, rfl, hW⟩
  unfold Gd.give
  rw [if_pos rfl]

theorem Gd.has_at {I : Nat → Nat → Int} {n b k : Nat} {seat lo hi : Int} (hb : b < 4) (hf : Gd.find I n 2 seat (b : Int) = (k : Int)) (h1 : lo ≤ I k 0) (h2 : I k 0 ≤ hi) (hno : ∀ j : Nat, j < b → Gd.find I n 2 seat (j : Int) < 0) : Gd.has I n seat lo hi = (k : Int) := by
  have hq : En.first (Gd.hasQ I n seat lo hi) 4 = (b : Int) := by
    refine En.first_hit (fun j hj => ?_) ?_ hb
    · have := hno j hj
      unfold Gd.hasQ
      rw [decide_eq_false (by omega)]
      rfl
    · unfold Gd.hasQ
      rw [hf, Int.toNat_natCast, decide_eq_true (by omega), decide_eq_true h1, decide_eq_true h2]
      rfl
  unfold Gd.has
  rw [hq, if_pos (by omega), hf]

theorem Gd.has_no {I : Nat → Nat → Int} {n : Nat} {seat lo hi : Int} (hno : ∀ j : Nat, j < 4 → Gd.find I n 2 seat (j : Int) < 0) : Gd.has I n seat lo hi = -1 := by
  have hq : En.first (Gd.hasQ I n seat lo hi) 4 = -1 := by
    refine En.first_none fun j hj => ?_
    have := hno j hj
    unfold Gd.hasQ
    rw [decide_eq_false (by omega)]
    rfl
  unfold Gd.has
  rw [hq, if_neg (by omega)]

end Go.Proofs.Ytbploaihicakeaa

namespace Go.Proofs.Ytbploaihicakeaa
open Go.RowKit

/-- A world in a box of the law's own. -/
structure Gd.Law (w x : World) (T gC gE gI cC cE cI : Nat) (s g c : Nat → Int) (E I : Nat → Nat → Int) : Prop where
  hold : Gd.Hold x T gC gE gI cC cE cI s g c E I
  lT : w.heap.size ≤ T
  lE : w.heap.size ≤ gE
  lI : w.heap.size ≤ gI
  cap : 32 ≤ cE
  grown : w.grownBy x none

theorem Gd.Law.on {w x y : World} {T gC gE gI cC cE cI : Nat} {s g c : Nat → Int} {E I : Nat → Nat → Int} (h : Gd.Law w x T gC gE gI cC cE cI s g c E I) (hg : x.grownBy y none) : Gd.Law w y T gC gE gI cC cE cI s g c E I :=
  { h with hold := h.hold.on hg, grown := grown_trans h.grown hg }

theorem Gd.Law.put {w x : World} {T gC gE gI cC cE cI : Nat} {s g c : Nat → Int} {E I : Nat → Nat → Int} (h : Gd.Law w x T gC gE gI cC cE cI s g c E I) (m : Nat) (a b d e : Int) : Gd.Law w ((((x.setCell ⟨gI, m * 4, none⟩ (.int .i64 a)).setCell ⟨gI, m * 4 + 1, none⟩ (.int .i64 b)).setCell ⟨gI, m * 4 + 2, none⟩ (.int .i64 d)).setCell ⟨gI, m * 4 + 3, none⟩ (.int .i64 e)) T gC gE gI cC cE cI s g c E (En.put I m (Gd.row a b d e)) :=
  { h with hold := h.hold.put m a b d e, grown := grown_own h.grown (grown_put4 (World.grownBy.refl x (some gI)) m _ _ _ _) (fun n e => by cases e; exact h.lI) }

theorem Gd.Law.same {w x : World} {T gC gE gI cC cE cI : Nat} {s g c : Nat → Int} {E I J : Nat → Nat → Int} (h : Gd.Law w x T gC gE gI cC cE cI s g c E I) (he : I = J) : Gd.Law w x T gC gE gI cC cE cI s g c E J := he ▸ h

/-- What a call has answered, laid into a box. -/
theorem Gd.law_new {w x x' : World} {gC gE gI cC cE cI : Nat} {s g c : Nat → Int} {E I : Nat → Nat → Int} (hgx : w.grownBy x none) (hcap : 32 ≤ cE) (l1 : x.heap.size ≤ gC) (l2 : x.heap.size ≤ gE) (l3 : x.heap.size ≤ gI) (n1 : gC ≠ gE) (n2 : gC ≠ gI) (n3 : gE ≠ gI) (hL : Gd.Lists x' gC gE gI c E I) (hg : x.grownBy x' none) :
    Gd.Law w (x'.alloc (.cells (Gd.world s gC gE gI cC cE cI g) 29)) x'.heap.size gC gE gI cC cE cI s g c E I := by
  have h1 := hL.cells.lt
  have h2 := hL.ents.lt
  have h3 := hL.items.lt
  have h4 := hgx.size
  have h5 := hg.size
  have _ := l1
  exact ⟨⟨(Arr.world (heap_alloc_new x' _)).lie, hL.on (World.grownBy_alloc _ _ _), by omega, by omega, by omega, n1, n2, n3⟩, by omega, by omega, by omega, hcap, grown_trans hgx (grown_alloc hg _)⟩

theorem Gd.Law.eleven {w x : World} {T gC gE gI cC cE cI : Nat} {s g c : Nat → Int} {E I : Nat → Nat → Int} (h : Gd.Law w x T gC gE gI cC cE cI s g c E I) : x.cell? ⟨T, 0, none⟩ = some (.int .i64 (s 0)) ∧ x.cell? ⟨T, 1, none⟩ = some (.int .i64 (s 1)) ∧ x.cell? ⟨T, 2, none⟩ = some (.int .i64 (s 2)) ∧ x.cell? ⟨T, 3, none⟩ = some (.int .i64 (s 3)) ∧ x.cell? ⟨T, 4, none⟩ = some (.slice (some ⟨gC, 0, none⟩) 384 cC) ∧ x.cell? ⟨T, 5, none⟩ = some (.slice (some ⟨gE, 0, none⟩) 32 cE) ∧ x.cell? ⟨T, 6, none⟩ = some (.slice (some ⟨gI, 0, none⟩) 40 cI) ∧ x.cell? ⟨T, 7, none⟩ = some (.int .i64 (g 0)) ∧ x.cell? ⟨T, 8, none⟩ = some (.int .i64 (g 1)) ∧ x.cell? ⟨T, 9, none⟩ = some (.int .i64 (g 2)) ∧ x.cell? ⟨T, 10, none⟩ = some (.int .i64 (g 3)) :=
  h.hold.box.eleven

/-- One number of an item. -/
theorem Gd.Law.at {w x : World} {T gC gE gI cC cE cI : Nat} {s g c : Nat → Int} {E I : Nat → Nat → Int} (h : Gd.Law w x T gC gE gI cC cE cI s g c E I) (q : Nat) (hq : q < 160) (v : Int) (hv : I (q / 4) (q % 4) = v) : x.cell? ⟨gI, q, none⟩ = some (.int .i64 v) := by
  rw [h.hold.lists.items.cell hq, ← hv]
  rfl

end Go.Proofs.Ytbploaihicakeaa

namespace Go.Proofs.Ytbploaihicakeaa
open Go.RowKit

/-- What a call has answered, laid over a box that was there. -/
theorem Gd.Law.over {w x x' : World} {T gC gE gI cC cE cI jC jE jI dC dE dI : Nat} {s g c s' g' c' : Nat → Int} {E I F J : Nat → Nat → Int} (h : Gd.Law w x T gC gE gI cC cE cI s g c E I) (hcap : 32 ≤ dE) (l1 : x.heap.size ≤ jC) (l2 : x.heap.size ≤ jE) (l3 : x.heap.size ≤ jI) (n1 : jC ≠ jE) (n2 : jC ≠ jI) (n3 : jE ≠ jI) (hL : Gd.Lists x' jC jE jI c' F J) (hg : x.grownBy x' none) :
    Gd.Law w (x'.setCells T 0 (Gd.world s' jC jE jI dC dE dI g').toList) T jC jE jI dC dE dI s' g' c' F J := by
  have h1 := h.hold.box.lt
  have h2 := h.grown.size
  have r := grown_sets (g := T) (Gd.world s' jC jE jI dC dE dI g').toList 0 x' (World.grownBy.refl _ _)
  exact ⟨⟨(h.hold.box.on hg).whole s' g' jC jE jI dC dE dI, ⟨hL.cells.grown r (by simp; omega), hL.ents.grown r (by simp; omega), hL.items.grown r (by simp; omega)⟩, by omega, by omega, by omega, n1, n2, n3⟩, h.lT, by omega, by omega, hcap, own_sets h.lT _ 0 x' (grown_trans h.grown hg)⟩

/-- A piece of gold in row k, where nothing else is: it is counted, and gone. -/
theorem Gd.gold_pick {x y gd : Int} {k : Nat} {shop : Bool} (hk : k < 40) : Gd.act (En.put (fun _ _ => 0) k (Gd.row 4 1 x y)) 40 2 x y shop gd 5 = (fun _ _ => 0) ∧ Gd.goldOf (En.put (fun _ _ => 0) k (Gd.row 4 1 x y)) 2 x y shop gd 5 = min (gd + 5) 999 := by
  have hf : Gd.find (En.put (fun _ _ => 0) k (Gd.row 4 1 x y)) 40 1 x y = (k : Int) := Gd.find_at hk (by rw [En.put_same]; rfl) (by rw [En.put_same]; rfl) (by rw [En.put_same]; rfl) (fun j hj hc => by
    rw [En.put_other (by omega)] at hc
    have : (0 : Int) = 1 := hc.1
    omega)
  have h0 : En.put (fun _ _ => 0) k (Gd.row 4 1 x y) k 0 = 4 := by
    rw [En.put_same]
    rfl
  constructor
  · unfold Gd.act Gd.pick
    rw [if_pos rfl, hf, Int.toNat_natCast, h0, if_pos ⟨by omega, rfl⟩]
    funext j
    by_cases e : j = k
    · subst e
      rw [En.put_same]
      rfl
    · rw [En.put_other e, En.put_other e]
  · unfold Gd.goldOf
    rw [if_pos rfl, hf, Int.toNat_natCast, h0, if_pos ⟨by omega, rfl⟩]

theorem Gd.ok_gold {c : Nat → Int} {kd : Int} {kc k : Nat} (h1 : 1 ≤ kd) (h4 : kd ≤ 4) (hkc : kc < 384) (hw : Gr.walkB (c kc) = true) : Gd.Ok c 40 (En.put (fun _ _ => 0) k (Gd.row kd 1 ((kc : Int) % 24) ((kc : Int) / 24))) := by
  have hp := (Gd.fit_cell (c := c) h1 h4 hkc hw).placed (fun _ => rfl)
  exact (Gd.ok_none c).put (.inr ⟨hp, fun j _ _ hsh => hp.where_ne hsh.1.symm⟩)

theorem Gd.slot_none (seat : Int) : Gd.slot (fun _ _ => 0) 40 seat = ((0 : Nat) : Int) :=
  Gd.slot_at (by omega) (by
    rw [Gd.find_no fun j _ hc => by
      have : (0 : Int) = 2 := hc.1
      omega]
    omega) (fun j hj => by omega)

theorem Gd.fine_give {c g : Nat → Int} {E I J : Nat → Nat → Int} {t : Nat} {v : Int} (h : Gd.Fine c g E I) (h0 : 0 ≤ v) (h9 : v ≤ 999) (hJ : Gd.Ok c 40 J) : Gd.Fine c (Gd.give g t v) E J :=
  { h with
    gold := fun k hk => by
      unfold Gd.give
      by_cases e : k = t
      · rw [if_pos e]; exact ⟨h0, h9⟩
      · rw [if_neg e]; exact h.gold k hk
    ok := hJ }

end Go.Proofs.Ytbploaihicakeaa
