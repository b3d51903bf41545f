/-
  The middle of the law package's own good: its rows of inputs.
-/
import Derived.Test.YtiegccdgoemamaaWireGoodTail
import Derived.Deep.Onto
namespace Go.Proofs.Ytiegccdgoemamaa
open Go.RowKit

/-- A row that good has made. -/
def Wr.Out1 (x : World) (lo : Nat) (u : Option Addr × Nat × Nat) (n : Nat) (z : Nat → Int) : Prop := u.2.1 = n ∧ x.ownsRow lo 3 1 (.slice u.1 u.2.1 u.2.2) n (Wr.nums n z)

theorem Wr.Out1.turn {x y : World} {lo : Nat} {u : Option Addr × Nat × Nat} {n : Nat} {z : Nat → Int} {B : Nat → Prop} (h : Wr.Out1 x lo u n z) (ht : Turn B x y) (hB : ∀ b, B b → b < lo) : Wr.Out1 y lo u n z :=
  ⟨h.1, Wr.owns_turn h.2 ht (fun b hb e => by have := (h.2.lt b e).1; have := hB b hb; omega)⟩

theorem Wr.Out1.on {x y : World} {lo : Nat} {u : Option Addr × Nat × Nat} {n : Nat} {z : Nat → Int} (h : Wr.Out1 x lo u n z) (hg : x.grownBy y none) : Wr.Out1 y lo u n z := h.turn (Turn.new (B := fun _ => False) hg) (fun _ q => q.elim)

theorem Wr.Out1.of {w x : World} {lo : Nat} {v : Value} {n : Nat} {z : Nat → Int} (h : Wr.NewRow w x v n z) (hlo : lo ≤ w.heap.size) : ∃ u : Option Addr × Nat × Nat, v = .slice u.1 u.2.1 u.2.2 ∧ Wr.Out1 x lo u n z := by
  have h1 := h.1.mono hlo
  rcases h.1.2 with ⟨rfl, hn⟩ | ⟨g, cap, cur, rfl, _⟩
  · exact ⟨(none, 0, 0), rfl, hn.symm, h1⟩
  · exact ⟨(some ⟨g, 0, none⟩, n, cap), rfl, rfl, h1⟩

/-- A row of it is another. -/
def Wr.G.setR (g : Wr.G) (k : Nat) (u : Option Addr × Nat × Nat) : Wr.G := { g with row := fun i => if i = k then u else g.row i }

theorem Wr.G.setR_box (g : Wr.G) (i : Nat) (hi : i < 4) (u : Option Addr × Nat × Nat) : (fun j => if j = 22 + i then Value.slice u.1 u.2.1 u.2.2 else g.box j) = (g.setR (1 + i) u).box := by
  rcases (show i = 0 ∨ i = 1 ∨ i = 2 ∨ i = 3 by omega) with rfl | rfl | rfl | rfl
  · exact Wr.G.set22_box g u
  · exact Wr.G.set23_box g u
  · exact Wr.G.set24_box g u
  · exact Wr.G.set25_box g u

/-- The first i seats are done. -/
structure Wr.Part (x : World) (lo : Nat) (g Gb G : Wr.G) (z : Nat → Nat → Int) (i : Nat) : Prop where
  n : ∀ k, G.n k = if (6 ≤ k ∧ k < 6 + i) ∨ (18 ≤ k ∧ k < 18 + i) then g.n k % 1073741824 else Gb.n k
  plain : G.watch = g.watch ∧ G.bits = g.bits ∧ G.recs = g.recs ∧ G.data = g.data
  new : ∀ j, j < 1 + i → Wr.Out1 x lo (G.row j) (min (g.row j).2.1 255) (fun t => z j t % 11)
  old : ∀ j, 1 + i ≤ j → G.row j = g.row j

theorem Wr.Part.next {x y : World} {lo : Nat} {g Gb G : Wr.G} {z : Nat → Nat → Int} {i : Nat} (h : Wr.Part x lo g Gb G z i) (hi : i < 4) {B : Nat → Prop} (ht : Turn B x y) (hB : ∀ b, B b → b < lo) {u : Option Addr × Nat × Nat} (hu : Wr.Out1 y lo u (min (g.row (1 + i)).2.1 255) (fun t => z (1 + i) t % 11)) :
    Wr.Part y lo g Gb (((G.num (6 + i) (g.n (6 + i) % 1073741824)).num (18 + i) (g.n (18 + i) % 1073741824)).setR (1 + i) u) z (i + 1) := by
  refine ⟨fun k => ?_, h.plain, fun j hj => ?_, fun j hj => ?_⟩
  · show (if k = 18 + i then g.n (18 + i) % 1073741824 else if k = 6 + i then g.n (6 + i) % 1073741824 else G.n k) = _
    by_cases e1 : k = 18 + i
    · rw [if_pos e1, if_pos (by omega), e1]
    · rw [if_neg e1]
      by_cases e2 : k = 6 + i
      · rw [if_pos e2, if_pos (by omega), e2]
      · rw [if_neg e2, h.n k]
        by_cases e3 : (6 ≤ k ∧ k < 6 + i) ∨ (18 ≤ k ∧ k < 18 + i)
        · rw [if_pos e3, if_pos (by omega)]
        · rw [if_neg e3, if_neg (by omega)]
  · show Wr.Out1 y lo (if j = 1 + i then u else G.row j) _ _
    by_cases e : j = 1 + i
    · rw [if_pos e, e]; exact hu
    · rw [if_neg e]; exact (h.new j (by omega)).turn ht hB
  · show (if j = 1 + i then u else G.row j) = _
    rw [if_neg (by omega)]
    exact h.old j (by omega)

/-- What good answers. -/
structure Wr.Goods (w w' : World) (lo : Nat) (Gb g g' : Wr.G) (z : Nat → Nat → Int) (zr : Nat → Nat → Int) : Prop where
  grown : w.grownBy w' none
  n : ∀ k, g'.n k = if (6 ≤ k ∧ k < 10) ∨ (18 ≤ k ∧ k < 22) then g.n k % 1073741824 else Gb.n k
  watch : g'.watch = g.watch
  bits : g'.bits = g.bits
  rows : ∀ j, j < 5 → Wr.Out1 w' lo (g'.row j) (min (g.row j).2.1 255) (fun t => z j t % 11)
  recs : g'.recs.2.1 = min g.recs.2.1 400 ∧ w'.ownsRow lo 50 5 (.slice g'.recs.1 g'.recs.2.1 g'.recs.2.2) (min g.recs.2.1 400) (Wr.recList (min g.recs.2.1 400) (fun i => Wr.okRec (zr i)))
  data : g'.data = Wr.cut64 g.data

set_option maxRecDepth 16000 in
set_option maxHeartbeats 12800000 in
theorem good15_mid (g Gb : Wr.G) (z zr : Nat → Nat → Int) (w x : World) (M Z lo : Nat) (hG : Wr.Gd w x M Z Gb.box) (hlo : M < lo ∧ Z < lo ∧ lo ≤ x.heap.size) (hb : Gb.watch = g.watch ∧ Gb.bits = g.bits ∧ Gb.recs = g.recs ∧ Gb.data = g.data ∧ Gb.row = g.row)
    (hn : ∀ k, (6 ≤ k ∧ k < 10) ∨ (18 ≤ k ∧ k < 22) → Gb.n k = g.n k) (hz : ∀ j, j < 5 → Wr.RowIn w (g.row j) (z j)) (hr : Wr.RecsIn w g.recs zr) (hd : g.data.2.1 ≤ 1048576 ∧ g.data.2.1 ≤ g.data.2.2) (Q : Ending → World → Prop)
    (hQ : ∀ g' w', Wr.Goods w w' lo Gb g g' z zr → Q (.returned (.agg g'.cells)) w')
    (t0 t3 t4 t5 t6 t7 t8 t9 t10 t11 t12 t13 t14 t15 t16 t17 t18 t19 t20 t21 t22 t23 t24 t25 t26 t27 t28 t29 t30 t31 t32 t33 t34 t35 t36 t37 t38 t39 t40 t41 t42 t43 t44 t45 t46 t47 t48 t49 t50 t51 t52 t53 t54 t55 t56 t57 t58 t59 t60 t61 t62 t63 t64 t65 t66 t67 t68 t69 t70 t71 t72 t73 t74 t75 t76 t77 t78 t79 t80 t81 t82 t83 t84 t85 t86 t87 t88 t89 t90 t91 t92 t93 t94 t95 t96 t97 t98 t99 t100 t101 t102 t103 t104 t105 t106 t107 t108 t109 t110 t111 t112 t113 t114 t115 t116 t117 t118 t119 t120 t121 t122 t123 t124 t125 t126 t127 t128 t129 t130 t131 t132 t133 t134 t135 t136 t137 t138 t139 t140 t141 t142 t143 : Value) :
    Code.wp Try.prog ((Try.f18.body.map (Wr.cdrop 7)).getD .skip) (bodyPost Try.prog Try.f18 Q) ⟨#[t0, .pointer (some ⟨M, 0, none⟩), .pointer (some ⟨Z, 0, none⟩), t3, t4, t5, t6, t7, t8, t9, t10, t11, t12, t13, t14, t15, t16, t17, t18, t19, t20, t21, t22, t23, t24, t25, t26, t27, t28, t29, t30, t31, t32, t33, t34, t35, t36, t37, t38, t39, t40, t41, t42, t43, t44, t45, t46, t47, t48, t49, t50, t51, t52, t53, t54, t55, t56, t57, t58, t59, t60, t61, t62, t63, t64, t65, t66, t67, t68, t69, t70, t71, t72, t73, t74, t75, t76, t77, t78, t79, t80, t81, t82, t83, t84, t85, t86, t87, t88, t89, t90, t91, t92, t93, t94, t95, t96, t97, t98, t99, t100, t101, t102, t103, t104, t105, t106, t107, t108, t109, t110, t111, t112, t113, t114, t115, t116, t117, t118, t119, t120, t121, t122, t123, t124, t125, t126, t127, t128, t129, t130, t131, t132, t133, t134, t135, t136, t137, t138, t139, t140, t141, t142, t143], []⟩ x := by
  conv => arg 2; whnf
  have cw := hide fun (a n : Int) (h1 : 0 < n) (h2 : n ≤ 4611686018427387904) x => within15_any a n x h1 h2
  have HLO := hide hlo
  have HNN := hide hn
  have HZ := hide hz
  have HR := hide hr
  have HD := hide hd
  have HQ := hide hQ
  have HB := hide hb
  have HG := hide hG
  have ci := hide fun (u : Option Addr × Nat × Nat) (zz : Nat → Int) y (h : Wr.RowIn y u zz) => inputs15_any u zz y h
  have HRI := hide (show ∀ j, j < 5 → ∀ y, w.grownBy y none → Wr.RowIn y (g.row j) (z j) from fun j hj y hg => by
    obtain ⟨h1, h2⟩ := hz j hj
    refine ⟨h1, fun i hi => ?_⟩
    obtain ⟨b, o, q1, q2, q3, q4⟩ := h2 i hi
    exact ⟨b, o, q1, Nat.lt_of_lt_of_le q2 hg.size, (grown_cell hg b _ q2 (by simp)).trans q3, q4⟩)
  have c12 : x.cell? ⟨M, 12, none⟩ = some (.slice (g.row 0).1 (g.row 0).2.1 (g.row 0).2.2) := by
    rw [hG.box.cell (i := 12) (by omega)]
    show some (Value.slice (Gb.row 0).1 (Gb.row 0).2.1 (Gb.row 0).2.2) = _
    rw [hb.2.2.2.2]
  have cI := hide (unhide ci (g.row 0) (z 0) x (unhide HRI 0 (by omega) x hG.grown))
  clear hG hlo hn hz hr hd hQ hb
  obtain ⟨u0, hu0⟩ : ∃ u, g.row 0 = u := ⟨_, rfl⟩
  have HU0 := hide hu0
  rw [hu0] at c12 cI
  clear hu0
  go_wp2_with fail
  refine (unhide cI).mono ?_
  rintro e y ⟨v, rfl, hnr⟩
  obtain ⟨r0, rfl, hr0⟩ := Wr.Out1.of hnr (unhide HLO).2.2
  have HY := hide hnr.2
  have HR0 := hide hr0
  have fM := ((unhide HG).on hnr.2).box.free
  have c12' : y.cell? ⟨M, 12, none⟩ = some (.slice u0.1 u0.2.1 u0.2.2) := (grown_cell hnr.2 M 12 (unhide HG).box.lt (by simp)).trans c12
  clear hnr hr0 cI c12
  go_upto_region 8 with fail
  rename_i K2 h2 K1 h1
  have hK0 := hide h2
  clear h2
  have htm : Turn (fun b => b = M) y (y.setCell ⟨M, 12, none⟩ (.slice r0.1 r0.2.1 r0.2.2)) := (Turn.refl _ y).store M 12 _ rfl
  have I0 : Hid (Wr.Gd w (y.setCell ⟨M, 12, none⟩ (.slice r0.1 r0.2.1 r0.2.2)) M Z (Gb.set12 r0).box ∧ Wr.Part (y.setCell ⟨M, 12, none⟩ (.slice r0.1 r0.2.1 r0.2.2)) lo g Gb (Gb.set12 r0) z 0 ∧ lo ≤ (y.setCell ⟨M, 12, none⟩ (.slice r0.1 r0.2.1 r0.2.2)).heap.size) := by
    have h1 := ((unhide HG).on (unhide HY)).put 12 (.slice r0.1 r0.2.1 r0.2.2)
    rw [Wr.G.set12_box Gb r0] at h1
    obtain ⟨b1, b2, b3, b4, b5⟩ := unhide HB
    refine ⟨h1, ⟨fun k => ?_, ⟨b1, b2, b3, b4⟩, fun j hj => ?_, fun j hj => ?_⟩, Nat.le_trans (unhide HLO).2.2 (Nat.le_trans (unhide HY).size htm.size)⟩
    · rw [if_neg (by omega)]; rfl
    · obtain rfl : j = 0 := by omega
      have h0 := (unhide HR0).turn htm (fun b e => by rw [e]; exact (unhide HLO).1)
      rw [← unhide HU0] at h0
      exact h0
    · show (if j = 0 then r0 else Gb.row j) = _
      rw [if_neg (by omega), b5]
  clear htm
  obtain ⟨y1, hy1⟩ : ∃ q, y.setCell ⟨M, 12, none⟩ (.slice r0.1 r0.2.1 r0.2.2) = q := ⟨_, rfl⟩
  rw [hy1] at I0 ⊢
  clear hy1 c12' fM HY HR0
  go_wp2_with fail
  go_loopw [3] (fun v3 wr => ∃ (i : Nat) (G : Wr.G), i ≤ 4 ∧ v3 = .int .i64 (i : Int) ∧ Hid (Wr.Gd w wr M Z G.box ∧ Wr.Part wr lo g Gb G z i ∧ lo ≤ wr.heap.size)) (fun v3 _ => 5 - (intOf v3).toNat)
  case atStart => exact ⟨0, _, by omega, rfl, unhide I0⟩
  case round =>
    clear I0
    obtain ⟨i, G, hi, rfl, hrel⟩ := hrel
    by_cases hlt : i < 4
    · have hlt' : (i : Int) < 4 := by omega
      have hl0 : (0 : Int) ≤ (i : Int) := by omega
      have HI := hide hlt
      have CE := hide (show ∀ y F, Wr.Gd w y M Z F → ∀ k, k < 30 → y.cell? ⟨M, k, none⟩ = some (F k) from fun y F h k hk => h.box.cell hk)
      have b6 : G.box (6 + i) = .int .i64 (g.n (6 + i)) := by
        have h : G.n (6 + i) = g.n (6 + i) := by rw [(unhide hrel).2.1.n, if_neg (by omega), unhide HNN (6 + i) (by omega)]
        rw [← h]
        rcases (show i = 0 ∨ i = 1 ∨ i = 2 ∨ i = 3 by omega) with rfl | rfl | rfl | rfl <;> rfl
      have b18 : G.box (18 + i) = .int .i64 (g.n (18 + i)) := by
        have h : G.n (18 + i) = g.n (18 + i) := by rw [(unhide hrel).2.1.n, if_neg (by omega), unhide HNN (18 + i) (by omega)]
        rw [← h]
        rcases (show i = 0 ∨ i = 1 ∨ i = 2 ∨ i = 3 by omega) with rfl | rfl | rfl | rfl <;> rfl
      have b22 : G.box (22 + i) = .slice (g.row (1 + i)).1 (g.row (1 + i)).2.1 (g.row (1 + i)).2.2 := by
        rw [← (unhide hrel).2.1.old (1 + i) (by omega)]
        rcases (show i = 0 ∨ i = 1 ∨ i = 2 ∨ i = 3 by omega) with rfl | rfl | rfl | rfl <;> rfl
      have J := hide ((unhide hrel).1.on (grown_drew (World.grownBy.refl wr none) 1))
      have JG := hide (grown_drew (World.grownBy.refl wr none) 1)
      have HREL := hide (And.intro (unhide hrel).2.1 (unhide hrel).2.2)
      obtain ⟨q6, hq6⟩ : ∃ q, g.n (6 + i) % 1073741824 = q := ⟨_, rfl⟩
      obtain ⟨q8, hq8⟩ : ∃ q, g.n (18 + i) % 1073741824 = q := ⟨_, rfl⟩
      have HQ6 := hide hq6
      have HQ8 := hide hq8
      obtain ⟨n6, k6⟩ : ∃ q, g.n (6 + i) = q := ⟨_, rfl⟩
      obtain ⟨n8, k8⟩ : ∃ q, g.n (18 + i) = q := ⟨_, rfl⟩
      rw [k6] at b6 hq6
      rw [k8] at b18 hq8
      clear k6 k8 hi hlt hrel
      go_upto_region 11 with fail
      have hde : wr.drew = wr.drewN 1 := rfl
      refine wp_region_till (h := 17) (S := fun y => y.cell? ⟨M, 18 + i, none⟩ = some (.int .i64 n8)) (by kernel_rfl) ?_
      rw [hde]
      generalize wr.drewN 1 = yd at J JG ⊢
      clear hde
      have c6 : yd.cell? ⟨M, 6 + i, none⟩ = some (.int .i64 n6) := by
        have := unhide CE yd _ (unhide J) (6 + i) (by have := unhide HI; omega)
        rw [this, b6]
      have c18 : yd.cell? ⟨M, 18 + i, none⟩ = some (.int .i64 n8) := by
        have := unhide CE yd _ (unhide J) (18 + i) (by have := unhide HI; omega)
        rw [this, b18]
      have hS0 := c18
      have hS1 : (yd.setCell ⟨M, 6 + i, none⟩ (.int .i64 q6)).cell? ⟨M, 18 + i, none⟩ = some (.int .i64 n8) := by
        rw [((unhide J).put (6 + i) (.int .i64 q6)).box.cell (i := 18 + i) (by have := unhide HI; omega), if_neg (by omega), b18]
      have fM := (unhide J).box.free
      refine wpTill_take (i := 0) (v := ?_) [17] rfl (by kernel_rfl) (by kernel_rfl) (by kernel_rfl) (by kernel_rfl) (fun _ _ _ h => h) hS0 (Or.inl ⟨by rfl, ?_⟩) ?_
      rotate_left
      · intro x hSx
        clear hSx
        go_simp
        try with_reducible rfl
      simp only [Act.put, List.getElem_toArray, List.getElem_cons_zero, List.setIfInBounds_toArray, List.set_cons_succ, List.set_cons_zero]
      refine wpTill_take (i := 1) (v := ?_) [17] rfl (by kernel_rfl) (by kernel_rfl) (by kernel_rfl) (by kernel_rfl) (fun _ _ _ h => h) hS0 (Or.inl ⟨by rfl, ?_⟩) ?_
      rotate_left
      · intro x hSx
        clear hSx
        go_simp
        try with_reducible rfl
      simp only [Act.put, List.getElem_toArray, List.getElem_cons_zero, List.getElem_cons_succ, List.setIfInBounds_toArray, List.set_cons_succ, List.set_cons_zero]
      refine wpTill_take (i := 2) (v := ?_) [17] rfl (by kernel_rfl) (by kernel_rfl) (by kernel_rfl) (by kernel_rfl) (fun _ _ _ h => h) hS0 (Or.inl ⟨by rfl, ?_⟩) ?_
      rotate_left
      · intro x hSx
        clear hSx
        go_simp
        try with_reducible rfl
      simp only [Act.put, List.getElem_toArray, List.getElem_cons_zero, List.getElem_cons_succ, List.setIfInBounds_toArray, List.set_cons_succ, List.set_cons_zero]
      refine wpTill_take (i := 3) (v := ?_) [17] rfl (by kernel_rfl) (by kernel_rfl) (by kernel_rfl) (by kernel_rfl) (fun _ _ _ h => h) hS0 (Or.inl ⟨by rfl, ?_⟩) ?_
      rotate_left
      · intro x hSx
        clear hSx
        go_simp
        try with_reducible rfl
      simp only [Act.put, List.getElem_toArray, List.getElem_cons_zero, List.getElem_cons_succ, List.setIfInBounds_toArray, List.set_cons_succ, List.set_cons_zero]
      refine wpTill_take (i := 4) (v := ?_) [17] rfl (by kernel_rfl) (by kernel_rfl) (by kernel_rfl) (by kernel_rfl) (fun _ _ _ h => h) hS0 (Or.inl ⟨by rfl, ?_⟩) ?_
      rotate_left
      · intro x hSx
        clear hSx
        go_simp
        try with_reducible rfl
      simp only [Act.put, List.getElem_toArray, List.getElem_cons_zero, List.getElem_cons_succ, List.setIfInBounds_toArray, List.set_cons_succ, List.set_cons_zero]
      refine wpTill_take (i := 7) (v := ?_) [17] rfl (by kernel_rfl) (by kernel_rfl) (by kernel_rfl) (by kernel_rfl) (fun _ _ _ h => h) hS0 (Or.inl ⟨by rfl, ?_⟩) ?_
      rotate_left
      · intro x hSx
        clear hSx
        go_simp
        try with_reducible rfl
      simp only [Act.put, List.getElem_toArray, List.getElem_cons_zero, List.getElem_cons_succ, List.setIfInBounds_toArray, List.set_cons_succ, List.set_cons_zero]
      refine wpTill_take (i := 8) (v := ?_) [17] rfl (by kernel_rfl) (by kernel_rfl) (by kernel_rfl) (by kernel_rfl) (fun _ _ _ h => h) hS0 (Or.inl ⟨by rfl, ?_⟩) ?_
      rotate_left
      · intro x hSx
        clear hSx
        go_simp
        try with_reducible rfl
      simp only [Act.put, List.getElem_toArray, List.getElem_cons_zero, List.getElem_cons_succ, List.setIfInBounds_toArray, List.set_cons_succ, List.set_cons_zero]
      refine wpTill_take (i := 9) (v := ?_) [17] rfl (by kernel_rfl) (by kernel_rfl) (by kernel_rfl) (by kernel_rfl) (fun _ _ _ h => h) hS0 (Or.inl ⟨by rfl, ?_⟩) ?_
      rotate_left
      · intro x hSx
        clear hSx
        go_simp
        try with_reducible rfl
      simp only [Act.put, List.getElem_toArray, List.getElem_cons_zero, List.getElem_cons_succ, List.setIfInBounds_toArray, List.set_cons_succ, List.set_cons_zero]
      refine wpTill_take (i := 10) (v := ?_) [17] rfl (by kernel_rfl) (by kernel_rfl) (by kernel_rfl) (by kernel_rfl) (fun _ _ _ h => h) hS0 (Or.inl ⟨by rfl, ?_⟩) ?_
      rotate_left
      · intro x hSx
        have u := hSx
        clear hSx
        go_simp
        try with_reducible rfl
      simp only [Act.put, List.getElem_toArray, List.getElem_cons_zero, List.getElem_cons_succ, List.setIfInBounds_toArray, List.set_cons_succ, List.set_cons_zero]
      refine wpTill_take (i := 12) (v := ?_) [17] rfl (by kernel_rfl) (by kernel_rfl) (by kernel_rfl) (by kernel_rfl) (fun _ _ _ h => h) hS0 (Or.inl ⟨by rfl, ?_⟩) ?_
      rotate_left
      · intro x hSx
        clear hSx
        go_simp
        try with_reducible rfl
      simp only [Act.put, List.getElem_toArray, List.getElem_cons_zero, List.getElem_cons_succ, List.setIfInBounds_toArray, List.set_cons_succ, List.set_cons_zero]
      refine wpTill_take (i := 15) (v := ?_) [16, 17] rfl (by kernel_rfl) (by kernel_rfl) (by kernel_rfl) (by kernel_rfl) (fun _ _ _ h => h) hS0 (Or.inl ⟨by rfl, ?_⟩) ?_
      rotate_left
      · intro x hSx
        clear hSx
        go_simp
        try with_reducible rfl
      simp only [Act.put, List.getElem_toArray, List.getElem_cons_zero, List.getElem_cons_succ, List.setIfInBounds_toArray, List.set_cons_succ, List.set_cons_zero]
      refine wpTill_only (j := 5) (by kernel_rfl) rfl (fun K hK => ?_)
      go_simp
      refine hK.out _ _ (fun _ => hS0) ?_
      clear hK K
      refine wpTill_only (j := 6) (by kernel_rfl) rfl (fun K hK => ?_)
      go_simp
      refine (unhide cw _ _ (by decide) (by decide) _).mono ?_
      rintro e wq ⟨rfl, hwq⟩
      obtain rfl : yd = wq := hwq.symm
      try go_simp
      try rw [hq6]
      refine hK.out _ _ (fun _ => hS0) ?_
      clear hK K
      refine wpTill_take (i := 13) (v := ?_) [17] rfl (by kernel_rfl) (by kernel_rfl) (by kernel_rfl) (by kernel_rfl) (fun _ _ _ h => h) hS0 (Or.inl ⟨by rfl, ?_⟩) ?_
      rotate_left
      · intro x hSx
        clear hSx
        go_simp
        try with_reducible rfl
      simp only [Act.put, List.getElem_toArray, List.getElem_cons_zero, List.getElem_cons_succ, List.setIfInBounds_toArray, List.set_cons_succ, List.set_cons_zero]
      refine wpTill_only (j := 11) (by kernel_rfl) rfl (fun K hK => ?_)
      go_simp
      refine (unhide cw _ _ (by decide) (by decide) _).mono ?_
      rintro e wq ⟨rfl, hwq⟩
      obtain rfl : yd = wq := hwq.symm
      try go_simp
      try rw [hq8]
      refine hK.out _ _ (fun _ => hS0) ?_
      clear hK K
      refine wpTill_only (j := 14) (by kernel_rfl) rfl (fun K hK => ?_)
      go_simp
      refine hK.out _ _ (fun _ => hS1) ?_
      clear hK K
      refine wpTill_take (i := 16) (v := ?_) [17] rfl (by kernel_rfl) (by kernel_rfl) (by kernel_rfl) (by kernel_rfl) (fun _ _ _ h => h) hS1 (Or.inl ⟨by rfl, ?_⟩) ?_
      rotate_left
      · intro x hSx
        clear hSx
        go_simp
        try with_reducible rfl
      simp only [Act.put, List.getElem_toArray, List.getElem_cons_zero, List.getElem_cons_succ, List.setIfInBounds_toArray, List.set_cons_succ, List.set_cons_zero]
      refine wpTill_only (j := 17) (by kernel_rfl) rfl (fun K hK => ?_)
      go_simp
      refine hK.out _ _ (fun hx => absurd (hx.symm.trans (by kernel_rfl)) Bool.false_ne_true) ?_
      clear hK K
      refine wpTill_done (by kernel_rfl) ?_ _
      have J1 := (unhide J).put (6 + i) (.int .i64 q6)
      rw [Wr.G.num_box G (6 + i) q6 (by have := unhide HI; omega)] at J1
      replace J1 := J1.put (18 + i) (.int .i64 q8)
      rw [Wr.G.num_box (G.num (6 + i) q6) (18 + i) q8 (by have := unhide HI; omega)] at J1
      have JJ := hide J1
      have TT := hide (show Turn (fun b => b = M) yd ((yd.setCell ⟨M, 6 + i, none⟩ (.int .i64 q6)).setCell ⟨M, 18 + i, none⟩ (.int .i64 q8)) from ((Turn.refl (fun b => b = M) yd).store M (6 + i) _ rfl).store M (18 + i) _ rfl)
      have B22 : Hid (((G.num (6 + i) q6).num (18 + i) q8).box (22 + i) = .slice (g.row (1 + i)).1 (g.row (1 + i)).2.1 (g.row (1 + i)).2.2) := by
        have h4 := unhide HI
        show _ = _
        rw [← b22]
        rcases (show i = 0 ∨ i = 1 ∨ i = 2 ∨ i = 3 by omega) with rfl | rfl | rfl | rfl <;> rfl
      go_upto_region 12 with fail
      obtain ⟨y2, hy2⟩ : ∃ q, (yd.setCell ⟨M, 6 + i, none⟩ (.int .i64 q6)).setCell ⟨M, 18 + i, none⟩ (.int .i64 q8) = q := ⟨_, rfl⟩
      rw [hy2] at JJ TT ⊢
      clear hy2 J1 c6 c18 hS0 hS1 fM J b6 b18 b22
      have c22 : y2.cell? ⟨M, 22 + i, none⟩ = some (.slice (g.row (1 + i)).1 (g.row (1 + i)).2.1 (g.row (1 + i)).2.2) := by
        rw [unhide CE y2 _ (unhide JJ) (22 + i) (by have := unhide HI; omega), unhide B22]
      have cI := hide (unhide ci (g.row (1 + i)) (z (1 + i)) y2 (unhide HRI (1 + i) (by have := unhide HI; omega) y2 (unhide JJ).grown))
      obtain ⟨ui, hui⟩ : ∃ u, g.row (1 + i) = u := ⟨_, rfl⟩
      have HUI := hide hui
      rw [hui] at c22 cI
      clear hui B22
      go_wp2_with fail
      refine (unhide cI).mono ?_
      rintro e y3 ⟨v, rfl, hnr⟩
      have HL2 := hide (show lo ≤ y2.heap.size from Nat.le_trans (unhide HREL).2 (Nat.le_trans (unhide JG).size (unhide TT).size))
      obtain ⟨ri, rfl, hri⟩ := Wr.Out1.of hnr (unhide HL2)
      have HY3 := hide hnr.2
      have HRI3 := hide hri
      have fM := ((unhide JJ).on hnr.2).box.free
      have c22' : y3.cell? ⟨M, 22 + i, none⟩ = some (.slice ui.1 ui.2.1 ui.2.2) := (grown_cell hnr.2 M _ (unhide JJ).box.lt (by simp)).trans c22
      clear hnr hri cI c22
      have htm : Turn (fun b => b = M) y3 (y3.setCell ⟨M, 22 + i, none⟩ (.slice ri.1 ri.2.1 ri.2.2)) := (Turn.refl _ y3).store M (22 + i) _ rfl
      have FIN : Hid (Wr.Gd w (y3.setCell ⟨M, 22 + i, none⟩ (.slice ri.1 ri.2.1 ri.2.2)) M Z (((G.num (6 + i) (g.n (6 + i) % 1073741824)).num (18 + i) (g.n (18 + i) % 1073741824)).setR (1 + i) ri).box ∧ Wr.Part (y3.setCell ⟨M, 22 + i, none⟩ (.slice ri.1 ri.2.1 ri.2.2)) lo g Gb (((G.num (6 + i) (g.n (6 + i) % 1073741824)).num (18 + i) (g.n (18 + i) % 1073741824)).setR (1 + i) ri) z (i + 1) ∧ lo ≤ (y3.setCell ⟨M, 22 + i, none⟩ (.slice ri.1 ri.2.1 ri.2.2)).heap.size) := by
        have h1 := ((unhide JJ).on (unhide HY3)).put (22 + i) (.slice ri.1 ri.2.1 ri.2.2)
        rw [Wr.G.setR_box _ i (unhide HI) ri] at h1
        rw [unhide HQ6, unhide HQ8]
        refine ⟨h1, ?_, Nat.le_trans (unhide HL2) (Nat.le_trans (unhide HY3).size htm.size)⟩
        have h2 := (unhide HREL).1.next (y := y3.setCell ⟨M, 22 + i, none⟩ (.slice ri.1 ri.2.1 ri.2.2)) (B := fun b => b = M) (unhide HI) ((((Turn.new (B := fun b => b = M) (unhide JG)).trans (unhide TT) (fun _ _ e => e)).then (unhide HY3)).trans htm (fun _ _ e => e)) (fun b e => by rw [e]; exact (unhide HLO).1) (u := ri) (by
          have h3 := (unhide HRI3).turn htm (fun b e => by rw [e]; exact (unhide HLO).1)
          rw [← unhide HUI] at h3
          exact h3)
        rw [unhide HQ6, unhide HQ8] at h2
        exact h2
      clear htm HY3 HRI3 HL2 JJ TT JG HREL HQ6 HQ8 HUI hq6 hq8 CE
      go_wp2
      go_roundw
      case rel => exact ⟨i + 1, _, by have := unhide HI; omega, by go_num, unhide FIN⟩
      case measure => simp [intOf]; have := unhide HI; omega
    · obtain rfl : i = 4 := by omega
      have hge : ¬ ((4 : Nat) : Int) < 4 := by omega
      clear hi hlt
      go_wp2_with fail
      obtain ⟨p1, p2, p3, p4⟩ := (unhide hrel).2.1.plain
      have hr2 := unhide HR
      have hd2 := unhide HD
      rw [← p3] at hr2
      rw [← p4] at hd2
      exact unhide hK0 _ _ (good15_tail G zr w wr M Z (unhide hrel).1 hr2 hd2 Q (fun x' v n hn ht hg ho => unhide HQ _ _ (by
        have h21 : v.2.1 = n := by
          rcases ho.2 with ⟨e1, e2⟩ | ⟨gg, cap, cur, e1, _⟩
          · simp only [Value.slice.injEq] at e1
            omega
          · simp only [Value.slice.injEq] at e1
            exact e1.2.1
        refine ⟨hg, fun k => (unhide hrel).2.1.n k, p1, p2, fun j hj => ?_, ⟨?_, ?_⟩, ?_⟩
        · exact ((unhide hrel).2.1.new j (by omega)).turn ht (fun b e => by
            rcases e with e | e
            · rw [e]; exact (unhide HLO).1
            · rw [e]; exact (unhide HLO).2.1)
        · rw [← p3, ← hn]; exact h21
        · have ho2 := ho.mono (unhide hrel).2.2
          rw [← p3, ← hn]
          exact ho2
        · show Wr.cut64 G.data = _
          rw [p4])) _ _ _ _ _ _ _ _ _ _ _ _ _ _ _ _ _ _ _ _ _ _ _ _ _ _ _ _ _ _ _ _ _ _ _ _ _ _ _ _ _ _ _ _ _ _ _ _ _ _ _ _ _ _ _ _ _ _ _ _ _ _ _ _ _ _ _ _ _ _ _ _ _ _ _ _ _ _ _ _ _ _ _ _ _ _ _ _ _ _ _ _ _ _ _ _ _ _ _ _ _ _ _ _ _ _ _ _ _ _ _ _ _ _ _ _ _ _ _ _ _ _ _ _ _ _ _ _ _ _ _ _ _ _ _ _ _ _ _ _ _ _)

end Go.Proofs.Ytiegccdgoemamaa
