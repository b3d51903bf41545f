/-
  The end of the law package's own good: its records, its bytes, what is handed back.
-/
import Derived.Test.YtiegccdgoemamaaWireGoodBox
namespace Go.Proofs.Ytiegccdgoemamaa
open Go.RowKit

theorem Wr.info_rec : (Try.prog.info? 50).map (fun i => (i.zero, i.size, i.bytes)) = some (some (.agg #[.int .i64 0, .int .i64 0, .int .i64 0, .int .i64 0, .int .i64 0]), 5, 40) := by kernel_rfl

/-- A record such as may be. -/
def Wr.okRec (r : Nat → Int) (j : Nat) : Int := if j = 0 then 1 + r 0 % 3 else if j = 1 then r 1 % 11 else if j = 2 then r 2 % 4 else r j % 1073741824

/-- The cells of records. -/
def Wr.recList (n : Nat) (z : Nat → Nat → Int) : List Value := (List.range (n * 5)).map (fun c => .int .i64 (z (c / 5) (c % 5)))

theorem Wr.recList_len (n : Nat) (z : Nat → Nat → Int) : (Wr.recList n z).length = n * 5 := by simp [Wr.recList]
theorem Wr.recList_at {n c : Nat} {z : Nat → Nat → Int} (h : c < n * 5) : (Wr.recList n z)[c]? = some (.int .i64 (z (c / 5) (c % 5))) := by
  unfold Wr.recList
  rw [List.getElem?_map, List.getElem?_range h]
  rfl

theorem Wr.recList_more (n : Nat) (z : Nat → Nat → Int) : Wr.recList n z ++ [.int .i64 (z n 0), .int .i64 (z n 1), .int .i64 (z n 2), .int .i64 (z n 3), .int .i64 (z n 4)] = Wr.recList (n + 1) z := by
  apply List.ext_getElem?
  intro i
  by_cases h1 : i < n * 5
  · rw [List.getElem?_append_left (by rw [Wr.recList_len]; exact h1), Wr.recList_at h1, Wr.recList_at (by omega)]
  · rw [List.getElem?_append_right (by rw [Wr.recList_len]; omega), Wr.recList_len]
    by_cases h2 : i < (n + 1) * 5
    · rw [Wr.recList_at h2]
      obtain ⟨j, hj, rfl⟩ : ∃ j, j < 5 ∧ i = n * 5 + j := ⟨i - n * 5, by omega, by omega⟩
      rw [show n * 5 + j - n * 5 = j by omega, show (n * 5 + j) % 5 = j by omega, show (n * 5 + j) / 5 = n by omega]
      rcases (show j = 0 ∨ j = 1 ∨ j = 2 ∨ j = 3 ∨ j = 4 by omega) with rfl | rfl | rfl | rfl | rfl <;> rfl
    · rw [List.getElem?_eq_none (by show 5 ≤ _; omega), List.getElem?_eq_none (by rw [Wr.recList_len]; omega)]

theorem Wr.owns_turn {x y : World} {base : Nat} {e : TypeId} {size : Nat} {v : Value} {n : Nat} {xs : List Value} {B : Nat → Prop} (h : x.ownsRow base e size v n xs) (ht : Turn B x y) (hB : ∀ b, B b → v.ownBlock ≠ some b) : y.ownsRow base e size v n xs := by
  rcases h.2 with ⟨rfl, rfl⟩ | ⟨g, cap, cur, rfl, h1, h2, h3⟩
  · exact ⟨h.1, .inl ⟨rfl, rfl⟩⟩
  · exact ⟨h.1, .inr ⟨g, cap, cur, rfl, h1, (ht.block g (Array.getElem?_eq_some_iff.1 h2).1 (fun q => hB g q rfl)).trans h2, h3⟩⟩

/-- What a list's head is. -/
def Wr.cut64 (u : Option Addr × Nat × Nat) : Option Addr × Nat × Nat := if 64 < u.2.1 then (u.1, 64, u.2.2) else u

set_option maxRecDepth 16000 in
set_option maxHeartbeats 12800000 in
theorem good15_tail (G : Wr.G) (zr : Nat → Nat → Int) (w x : World) (M Z : Nat) (hG : Wr.Gd w x M Z G.box) (hr : Wr.RecsIn w G.recs zr) (hd : G.data.2.1 ≤ 1048576 ∧ G.data.2.1 ≤ G.data.2.2) (Q : Ending → World → Prop)
    (hQ : ∀ x' v n, n = min G.recs.2.1 400 → Turn (fun b => b = M ∨ b = Z) x x' → w.grownBy x' none → x'.ownsRow x.heap.size 50 5 (.slice v.1 v.2.1 v.2.2) n (Wr.recList n (fun i => Wr.okRec (zr i))) → Q (.returned (.agg ((G.set17 v).set29 (Wr.cut64 G.data)).cells)) x')
    (t0 t3 t4 t5 t6 t7 t8 t9 t10 t11 t12 t13 t14 t15 t16 t17 t18 t19 t20 t21 t22 t23 t24 t25 t26 t27 t28 t29 t30 t31 t32 t33 t34 t35 t36 t37 t38 t39 t40 t41 t42 t43 t44 t45 t46 t47 t48 t49 t50 t51 t52 t53 t54 t55 t56 t57 t58 t59 t60 t61 t62 t63 t64 t65 t66 t67 t68 t69 t70 t71 t72 t73 t74 t75 t76 t77 t78 t79 t80 t81 t82 t83 t84 t85 t86 t87 t88 t89 t90 t91 t92 t93 t94 t95 t96 t97 t98 t99 t100 t101 t102 t103 t104 t105 t106 t107 t108 t109 t110 t111 t112 t113 t114 t115 t116 t117 t118 t119 t120 t121 t122 t123 t124 t125 t126 t127 t128 t129 t130 t131 t132 t133 t134 t135 t136 t137 t138 t139 t140 t141 t142 t143 : Value) :
    Code.wp Try.prog ((Try.f18.body.map (Wr.cdrop 9)).getD .skip) (bodyPost Try.prog Try.f18 Q) ⟨#[t0, .pointer (some ⟨M, 0, none⟩), .pointer (some ⟨Z, 0, none⟩), t3, t4, t5, t6, t7, t8, t9, t10, t11, t12, t13, t14, t15, t16, t17, t18, t19, t20, t21, t22, t23, t24, t25, t26, t27, t28, t29, t30, t31, t32, t33, t34, t35, t36, t37, t38, t39, t40, t41, t42, t43, t44, t45, t46, t47, t48, t49, t50, t51, t52, t53, t54, t55, t56, t57, t58, t59, t60, t61, t62, t63, t64, t65, t66, t67, t68, t69, t70, t71, t72, t73, t74, t75, t76, t77, t78, t79, t80, t81, t82, t83, t84, t85, t86, t87, t88, t89, t90, t91, t92, t93, t94, t95, t96, t97, t98, t99, t100, t101, t102, t103, t104, t105, t106, t107, t108, t109, t110, t111, t112, t113, t114, t115, t116, t117, t118, t119, t120, t121, t122, t123, t124, t125, t126, t127, t128, t129, t130, t131, t132, t133, t134, t135, t136, t137, t138, t139, t140, t141, t142, t143], []⟩ x := by
  conv => arg 2; whnf
  obtain ⟨i0, hi, hz0, hz1, hz2⟩ := info_parts Wr.info_rec
  have cw := hide fun (a n : Int) (h1 : 0 < n) (h2 : n ≤ 4611686018427387904) x => within15_any a n x h1 h2
  have HG := hide hG
  have HD := hide hd
  obtain ⟨ra, rn, rc, hrc⟩ : ∃ a n c, G.recs = (a, n, c) := ⟨_, _, _, rfl⟩
  rw [hrc] at hr hQ
  have HRC := hide hrc
  have HR := hide hr
  have HQ := hide hQ
  have hn : rn ≤ 1048576 := hr.1
  have hn' : (rn : Int) ≤ 1048576 := by omega
  clear hG hr hd hQ hn hrc
  go_wp2_with fail
  go_loopw [4, 5] (fun v4 v5 wr => ∃ i : Nat, i ≤ rn ∧ i ≤ 400 ∧ v5 = .int .i64 (i : Int) ∧ Hid (Wr.Gd w wr M Z G.box ∧ wr.ownsRow x.heap.size 50 5 v4 i (Wr.recList i (fun i => Wr.okRec (zr i))) ∧ Turn (fun b => b = M ∨ b = Z) x wr)) (fun _ v5 _ => 500 - (intOf v5).toNat)
  case atStart => exact ⟨0, by omega, by omega, rfl, unhide HG, World.ownsRow_nil _ _ _ _, Turn.refl _ _⟩
  case round =>
    obtain ⟨i, hi1, hi2, rfl, hrel⟩ := hrel
    have c17 : wr.cell? ⟨M, 17, none⟩ = some (.slice ra rn rc) := by
      rw [(unhide hrel).1.box.cell (i := 17) (by omega)]
      show some (Value.slice G.recs.1 G.recs.2.1 G.recs.2.2) = _
      rw [unhide HRC]
    by_cases hlt : i < rn ∧ i < 400
    · obtain ⟨hl1, hl2⟩ := hlt
      obtain ⟨b, p, ha, hb, hc⟩ := (unhide HR).2.2.1 i hl1
      have ha' : ra = some ⟨b, p, none⟩ := ha
      subst ha'
      have hgr := (unhide hrel).1.grown
      have HI := hide (And.intro hl1 hl2)
      have r0 : wr.cell? ⟨b, p + i * 5, none⟩ = some (.int .i64 (zr i 0)) := (grown_cell hgr b _ hb (by simp)).trans (hc 0 (by omega))
      have r1 : wr.cell? ⟨b, p + i * 5 + 1, none⟩ = some (.int .i64 (zr i 1)) := (grown_cell hgr b _ hb (by simp)).trans (hc 1 (by omega))
      have r2 : wr.cell? ⟨b, p + i * 5 + 2, none⟩ = some (.int .i64 (zr i 2)) := (grown_cell hgr b _ hb (by simp)).trans (hc 2 (by omega))
      have r3 : wr.cell? ⟨b, p + i * 5 + 3, none⟩ = some (.int .i64 (zr i 3)) := (grown_cell hgr b _ hb (by simp)).trans (hc 3 (by omega))
      have r4 : wr.cell? ⟨b, p + i * 5 + 4, none⟩ = some (.int .i64 (zr i 4)) := (grown_cell hgr b _ hb (by simp)).trans (hc 4 (by omega))
      have hl1' : (i : Int) < (rn : Int) := by omega
      have hl2' : (i : Int) < 400 := by omega
      have HOK := hide (show Wr.okRec (zr i) = Wr.okRec (fun j => zr i j) from rfl)
      obtain ⟨e0, k0⟩ : ∃ e, zr i 0 = e := ⟨_, rfl⟩
      obtain ⟨e1, k1⟩ : ∃ e, zr i 1 = e := ⟨_, rfl⟩
      obtain ⟨e2, k2⟩ : ∃ e, zr i 2 = e := ⟨_, rfl⟩
      obtain ⟨e3, k3⟩ : ∃ e, zr i 3 = e := ⟨_, rfl⟩
      obtain ⟨e4, k4⟩ : ∃ e, zr i 4 = e := ⟨_, rfl⟩
      rw [k0] at r0
      rw [k1] at r1
      rw [k2] at r2
      rw [k3] at r3
      rw [k4] at r4
      have HKS := hide (And.intro k0 (And.intro k1 (And.intro k2 (And.intro k3 k4))))
      clear ha hb hc hl1 hl2 hi1 hi2 hgr k0 k1 k2 k3 k4 HOK
      go_wp2_with fail
      have HWV := hide hrel
      obtain ⟨X, hX⟩ : ∃ X, wr.alloc (.cells #[.int .i64 e0, .int .i64 e1, .int .i64 e2, .int .i64 e3, .int .i64 e4] 50) = X := ⟨_, rfl⟩
      have hA := Arr.lit (heap_alloc_new wr (.cells #[.int .i64 e0, .int .i64 e1, .int .i64 e2, .int .i64 e3, .int .i64 e4] 50))
      have hgX : wr.grownBy X none := by rw [← hX]; exact World.grownBy_alloc _ _ _
      obtain ⟨R, hRR⟩ : ∃ R, wr.heap.size = R := ⟨_, rfl⟩
      rw [hX, hRR] at hA
      rw [hX, hRR]
      have hgd := grown_drew hgX 1
      have hAd := hA.grown (grown_drew (World.grownBy.refl X none) 1) (by simp)
      have hde : X.drew = X.drewN 1 := rfl
      refine wp_region_till (h := 19) (S := fun y => Hid (y.cell? ⟨R, 0, none⟩ = some (.int .i64 e0) ∧ y.cell? ⟨R, 1, none⟩ = some (.int .i64 e1) ∧ y.cell? ⟨R, 2, none⟩ = some (.int .i64 e2) ∧ y.cell? ⟨R, 3, none⟩ = some (.int .i64 e3) ∧ y.cell? ⟨R, 4, none⟩ = some (.int .i64 e4))) (by kernel_rfl) ?_
      rw [hde]
      generalize X.drewN 1 = yd at hgd hAd ⊢
      have hS0 : Hid (yd.cell? ⟨R, 0, none⟩ = some (.int .i64 e0) ∧ yd.cell? ⟨R, 1, none⟩ = some (.int .i64 e1) ∧ yd.cell? ⟨R, 2, none⟩ = some (.int .i64 e2) ∧ yd.cell? ⟨R, 3, none⟩ = some (.int .i64 e3) ∧ yd.cell? ⟨R, 4, none⟩ = some (.int .i64 e4)) := ⟨hAd.cell (i := 0) (by simp), hAd.cell (i := 1) (by simp), hAd.cell (i := 2) (by simp), hAd.cell (i := 3) (by simp), hAd.cell (i := 4) (by simp)⟩
      have HYD := hide hgd
      clear hA hgX hX hgd hAd hde hrel c17 r0 r1 r2 r3 r4 hRR
      obtain ⟨q0, hq0⟩ : ∃ q, e0 % 3 = q := ⟨_, rfl⟩
      obtain ⟨q1, hq1⟩ : ∃ q, e1 % 11 = q := ⟨_, rfl⟩
      obtain ⟨q2, hq2⟩ : ∃ q, e2 % 4 = q := ⟨_, rfl⟩
      obtain ⟨q3, hq3⟩ : ∃ q, e3 % 1073741824 = q := ⟨_, rfl⟩
      obtain ⟨q4, hq4⟩ : ∃ q, e4 % 1073741824 = q := ⟨_, rfl⟩
      have hw0 : IntKind.i64.wrap (1 + q0) = 1 + q0 := by rw [IntKind.wrap_i64]; omega
      have HOKR : Hid (∀ j, j < 5 → (fun j => if j = 0 then 1 + q0 else if j = 1 then q1 else if j = 2 then q2 else if j = 3 then q3 else q4) j = Wr.okRec (zr i) j) := fun j hj => by
        obtain ⟨k0, k1, k2, k3, k4⟩ := unhide HKS
        unfold Wr.okRec
        rcases (show j = 0 ∨ j = 1 ∨ j = 2 ∨ j = 3 ∨ j = 4 by omega) with rfl | rfl | rfl | rfl | rfl
        · show 1 + q0 = _; rw [if_pos rfl, k0, hq0]
        · show q1 = _; rw [if_neg (by decide), if_pos rfl, k1, hq1]
        · show q2 = _; rw [if_neg (by decide), if_neg (by decide), if_pos rfl, k2, hq2]
        · show q3 = _; rw [if_neg (by decide), if_neg (by decide), if_neg (by decide), k3, hq3]
        · show q4 = _; rw [if_neg (by decide), if_neg (by decide), if_neg (by decide), k4, hq4]
      have hi4 : i ≤ 400 := by have := unhide HI; omega
      have hgn : Hid (yd.grownBy (yd.alloc (.cells #[.int .i64 (1 + q0), .int .i64 q1, .int .i64 q2, .int .i64 q3, .int .i64 q4] 50)) none) := World.grownBy_alloc _ _ _
      have hS1 : Hid ((yd.alloc (.cells #[.int .i64 (1 + q0), .int .i64 q1, .int .i64 q2, .int .i64 q3, .int .i64 q4] 50)).cell? ⟨R, 0, none⟩ = some (.int .i64 e0) ∧ (yd.alloc (.cells #[.int .i64 (1 + q0), .int .i64 q1, .int .i64 q2, .int .i64 q3, .int .i64 q4] 50)).cell? ⟨R, 1, none⟩ = some (.int .i64 e1) ∧ (yd.alloc (.cells #[.int .i64 (1 + q0), .int .i64 q1, .int .i64 q2, .int .i64 q3, .int .i64 q4] 50)).cell? ⟨R, 2, none⟩ = some (.int .i64 e2) ∧ (yd.alloc (.cells #[.int .i64 (1 + q0), .int .i64 q1, .int .i64 q2, .int .i64 q3, .int .i64 q4] 50)).cell? ⟨R, 3, none⟩ = some (.int .i64 e3) ∧ (yd.alloc (.cells #[.int .i64 (1 + q0), .int .i64 q1, .int .i64 q2, .int .i64 q3, .int .i64 q4] 50)).cell? ⟨R, 4, none⟩ = some (.int .i64 e4)) := by
        obtain ⟨s0, s1, s2, s3, s4⟩ := unhide hS0
        exact ⟨cell_past _ (Go.block_lt_of_cell s0) s0, cell_past _ (Go.block_lt_of_cell s1) s1, cell_past _ (Go.block_lt_of_cell s2) s2, cell_past _ (Go.block_lt_of_cell s3) s3, cell_past _ (Go.block_lt_of_cell s4) s4⟩
      have HO2 : Hid ((yd.alloc (.cells #[.int .i64 (1 + q0), .int .i64 q1, .int .i64 q2, .int .i64 q3, .int .i64 q4] 50)).ownsRow x.heap.size 50 5 u4 i (Wr.recList i (fun i => Wr.okRec (zr i)))) := ((unhide HWV).2.1.kept (unhide HYD) (by
        cases hb : u4.ownBlock with
        | none => exact .inl rfl
        | some b => exact .inr (by simp))).alloc _
      have HSZ : Hid (x.heap.size ≤ (yd.alloc (.cells #[.int .i64 (1 + q0), .int .i64 q1, .int .i64 q2, .int .i64 q3, .int .i64 q4] 50)).heap.size) := Nat.le_trans (unhide HWV).2.2.size (Nat.le_trans (unhide HYD).size (unhide hgn).size)
      have HNEW : Hid (∀ j u, (Wr.rcd (fun j => if j = 0 then 1 + q0 else if j = 1 then q1 else if j = 2 then q2 else if j = 3 then q3 else q4)).toList[j]? = some u → (yd.alloc (.cells #[.int .i64 (1 + q0), .int .i64 q1, .int .i64 q2, .int .i64 q3, .int .i64 q4] 50)).cell? ((⟨yd.heap.size, 0, none⟩ : Addr).add j) = some u) := fun j u hj => by
        have hA := Arr.lit (heap_alloc_new yd (.cells #[.int .i64 (1 + q0), .int .i64 q1, .int .i64 q2, .int .i64 q3, .int .i64 q4] 50))
        rw [Go.WideShapes.add_plain, Nat.zero_add]
        have hj5 : j < 5 := (List.getElem?_eq_some_iff.1 hj).1
        rw [hA.cell (i := j) hj5, ← hj]
        rcases (show j = 0 ∨ j = 1 ∨ j = 2 ∨ j = 3 ∨ j = 4 by omega) with rfl | rfl | rfl | rfl | rfl <;> rfl
      refine wpTill_take (i := 0) (v := ?_) [19] rfl (by kernel_rfl) (by kernel_rfl) (by kernel_rfl) (by kernel_rfl) (fun _ _ _ h => h) hS0 (Or.inl ⟨by rfl, ?_⟩) ?_
      rotate_left
      · intro x hSx
        clear hSx
        go_simp
        try with_reducible rfl
      simp only [Act.put, List.getElem_toArray, List.getElem_cons_zero, List.setIfInBounds_toArray, List.set_cons_succ, List.set_cons_zero]
      refine wpTill_take (i := 1) (v := ?_) [2, 3, 4, 17, 18, 19] rfl (by kernel_rfl) (by kernel_rfl) (by kernel_rfl) (by kernel_rfl) (fun _ _ _ h => h) hS0 (Or.inl ⟨by rfl, ?_⟩) ?_
      rotate_left
      · intro x hSx
        clear hSx
        go_simp
        try with_reducible rfl
      simp only [Act.put, List.getElem_toArray, List.getElem_cons_zero, List.getElem_cons_succ, List.setIfInBounds_toArray, List.set_cons_succ, List.set_cons_zero]
      refine wpTill_take (i := 2) (v := ?_) [3, 4, 17, 18, 19] rfl (by kernel_rfl) (by kernel_rfl) (by kernel_rfl) (by kernel_rfl) (fun _ _ _ h => h) hS0 (Or.inl ⟨by rfl, ?_⟩) ?_
      rotate_left
      · intro x hSx
        have u := (unhide hSx).1
        clear hSx
        go_simp
        try with_reducible rfl
      simp only [Act.put, List.getElem_toArray, List.getElem_cons_zero, List.getElem_cons_succ, List.setIfInBounds_toArray, List.set_cons_succ, List.set_cons_zero]
      refine wpTill_take (i := 5) (v := ?_) [6, 7, 17, 18, 19] rfl (by kernel_rfl) (by kernel_rfl) (by kernel_rfl) (by kernel_rfl) (fun _ _ _ h => h) hS0 (Or.inl ⟨by rfl, ?_⟩) ?_
      rotate_left
      · intro x hSx
        clear hSx
        go_simp
        try with_reducible rfl
      simp only [Act.put, List.getElem_toArray, List.getElem_cons_zero, List.getElem_cons_succ, List.setIfInBounds_toArray, List.set_cons_succ, List.set_cons_zero]
      refine wpTill_take (i := 6) (v := ?_) [7, 17, 18, 19] rfl (by kernel_rfl) (by kernel_rfl) (by kernel_rfl) (by kernel_rfl) (fun _ _ _ h => h) hS0 (Or.inl ⟨by rfl, ?_⟩) ?_
      rotate_left
      · intro x hSx
        have u := (unhide hSx).2.1
        clear hSx
        go_simp
        try with_reducible rfl
      simp only [Act.put, List.getElem_toArray, List.getElem_cons_zero, List.getElem_cons_succ, List.setIfInBounds_toArray, List.set_cons_succ, List.set_cons_zero]
      refine wpTill_take (i := 8) (v := ?_) [9, 10, 13, 16, 19] rfl (by kernel_rfl) (by kernel_rfl) (by kernel_rfl) (by kernel_rfl) (fun _ _ _ h => h) hS0 (Or.inl ⟨by rfl, ?_⟩) ?_
      rotate_left
      · intro x hSx
        clear hSx
        go_simp
        try with_reducible rfl
      simp only [Act.put, List.getElem_toArray, List.getElem_cons_zero, List.getElem_cons_succ, List.setIfInBounds_toArray, List.set_cons_succ, List.set_cons_zero]
      refine wpTill_take (i := 9) (v := ?_) [10, 13, 16, 19] rfl (by kernel_rfl) (by kernel_rfl) (by kernel_rfl) (by kernel_rfl) (fun _ _ _ h => h) hS0 (Or.inl ⟨by rfl, ?_⟩) ?_
      rotate_left
      · intro x hSx
        have u := (unhide hSx).2.2.1
        clear hSx
        go_simp
        try with_reducible rfl
      simp only [Act.put, List.getElem_toArray, List.getElem_cons_zero, List.getElem_cons_succ, List.setIfInBounds_toArray, List.set_cons_succ, List.set_cons_zero]
      refine wpTill_take (i := 11) (v := ?_) [12, 13, 16, 19] rfl (by kernel_rfl) (by kernel_rfl) (by kernel_rfl) (by kernel_rfl) (fun _ _ _ h => h) hS0 (Or.inl ⟨by rfl, ?_⟩) ?_
      rotate_left
      · intro x hSx
        clear hSx
        go_simp
        try with_reducible rfl
      simp only [Act.put, List.getElem_toArray, List.getElem_cons_zero, List.getElem_cons_succ, List.setIfInBounds_toArray, List.set_cons_succ, List.set_cons_zero]
      refine wpTill_take (i := 12) (v := ?_) [13, 16, 19] rfl (by kernel_rfl) (by kernel_rfl) (by kernel_rfl) (by kernel_rfl) (fun _ _ _ h => h) hS0 (Or.inl ⟨by rfl, ?_⟩) ?_
      rotate_left
      · intro x hSx
        have u := (unhide hSx).2.2.2.1
        clear hSx
        go_simp
        try with_reducible rfl
      simp only [Act.put, List.getElem_toArray, List.getElem_cons_zero, List.getElem_cons_succ, List.setIfInBounds_toArray, List.set_cons_succ, List.set_cons_zero]
      refine wpTill_take (i := 14) (v := ?_) [15, 16, 19] rfl (by kernel_rfl) (by kernel_rfl) (by kernel_rfl) (by kernel_rfl) (fun _ _ _ h => h) hS0 (Or.inl ⟨by rfl, ?_⟩) ?_
      rotate_left
      · intro x hSx
        clear hSx
        go_simp
        try with_reducible rfl
      simp only [Act.put, List.getElem_toArray, List.getElem_cons_zero, List.getElem_cons_succ, List.setIfInBounds_toArray, List.set_cons_succ, List.set_cons_zero]
      refine wpTill_take (i := 15) (v := ?_) [16, 19] rfl (by kernel_rfl) (by kernel_rfl) (by kernel_rfl) (by kernel_rfl) (fun _ _ _ h => h) hS0 (Or.inl ⟨by rfl, ?_⟩) ?_
      rotate_left
      · intro x hSx
        have u := (unhide hSx).2.2.2.2
        clear hSx
        go_simp
        try with_reducible rfl
      simp only [Act.put, List.getElem_toArray, List.getElem_cons_zero, List.getElem_cons_succ, List.setIfInBounds_toArray, List.set_cons_succ, List.set_cons_zero]
      refine wpTill_only (j := 3) (by kernel_rfl) rfl (fun K hK => ?_)
      go_simp
      refine (unhide cw _ _ (by decide) (by decide) _).mono ?_
      rintro e wq ⟨rfl, hwq⟩
      obtain rfl : yd = wq := hwq.symm
      try go_simp
      try rw [hq0]
      refine hK.out _ _ (fun _ => hS0) ?_
      clear hK K
      refine wpTill_take (i := 4) (v := ?_) [17, 18, 19] rfl (by kernel_rfl) (by kernel_rfl) (by kernel_rfl) (by kernel_rfl) (fun _ _ _ h => h) hS0 (Or.inl ⟨by rfl, ?_⟩) ?_
      rotate_left
      · intro x hSx
        clear hSx
        go_simp
        try with_reducible rfl
      simp only [Act.put, List.getElem_toArray, List.getElem_cons_zero, List.getElem_cons_succ, List.setIfInBounds_toArray, List.set_cons_succ, List.set_cons_zero]
      refine wpTill_only (j := 7) (by kernel_rfl) rfl (fun K hK => ?_)
      go_simp
      refine (unhide cw _ _ (by decide) (by decide) _).mono ?_
      rintro e wq ⟨rfl, hwq⟩
      obtain rfl : yd = wq := hwq.symm
      try go_simp
      try rw [hq1]
      refine hK.out _ _ (fun _ => hS0) ?_
      clear hK K
      refine wpTill_only (j := 10) (by kernel_rfl) rfl (fun K hK => ?_)
      go_simp
      refine (unhide cw _ _ (by decide) (by decide) _).mono ?_
      rintro e wq ⟨rfl, hwq⟩
      obtain rfl : yd = wq := hwq.symm
      try go_simp
      try rw [hq2]
      refine hK.out _ _ (fun _ => hS0) ?_
      clear hK K
      refine wpTill_only (j := 13) (by kernel_rfl) rfl (fun K hK => ?_)
      go_simp
      refine (unhide cw _ _ (by decide) (by decide) _).mono ?_
      rintro e wq ⟨rfl, hwq⟩
      obtain rfl : yd = wq := hwq.symm
      try go_simp
      try rw [hq3]
      refine hK.out _ _ (fun _ => hS0) ?_
      clear hK K
      refine wpTill_only (j := 16) (by kernel_rfl) rfl (fun K hK => ?_)
      go_simp
      refine (unhide cw _ _ (by decide) (by decide) _).mono ?_
      rintro e wq ⟨rfl, hwq⟩
      obtain rfl : yd = wq := hwq.symm
      try go_simp
      try rw [hq4]
      refine hK.out _ _ (fun _ => hS0) ?_
      clear hK K
      refine wpTill_take (i := 17) (v := ?_) [18, 19] rfl (by kernel_rfl) (by kernel_rfl) (by kernel_rfl) (by kernel_rfl) (fun _ _ _ h => h) hS0 (Or.inl ⟨by rfl, ?_⟩) ?_
      rotate_left
      · intro x hSx
        clear hSx
        go_simp
        try with_reducible rfl
      simp only [Act.put, List.getElem_toArray, List.getElem_cons_zero, List.getElem_cons_succ, List.setIfInBounds_toArray, List.set_cons_succ, List.set_cons_zero]
      refine wpTill_only (j := 18) (by kernel_rfl) rfl (fun K hK => ?_)
      go_simp
      refine hK.out _ _ (fun _ => hS1) ?_
      clear hK K
      refine wpTill_only (j := 19) (by kernel_rfl) rfl (fun K hK => ?_)
      refine Wr.wanted (by rfl) ?_
      refine wp_append_own _ _ _ 25 rfl x.heap.size 50 i0 (.agg #[.int .i64 0, .int .i64 0, .int .i64 0, .int .i64 0, .int .i64 0]) 5 40 Try.underlying25 hi hz0 hz1 hz2 rfl (by decide) u4 i _ rfl (unhide HO2) ⟨yd.heap.size, 0, none⟩ 1 1 (Wr.rcd (fun j => if j = 0 then 1 + q0 else if j = 1 then q1 else if j = 2 then q2 else if j = 3 then q3 else q4)).toList rfl rfl (fun j u hj => ?qa) (fun u hu => ?qb) ?qc ?qd (unhide HSZ) ?_
      case qa => exact unhide HNEW j u hj
      case qb =>
        simp only [Wr.rcd, List.mem_cons, List.not_mem_nil, or_false] at hu
        rcases hu with rfl | rfl | rfl | rfl | rfl <;> rfl
      case qc => unfold maxLen; omega
      case qd => omega
      intro v' w' hown hg _
      refine hK.out _ _ (fun hx => absurd (hx.symm.trans (by kernel_rfl)) Bool.false_ne_true) ?_
      clear hK K
      refine wpTill_only (j := 20) (by kernel_rfl) rfl (fun K hK => ?_)
      go_simp
      refine hK.out _ _ (fun hx => absurd (hx.symm.trans (by kernel_rfl)) Bool.false_ne_true) ?_
      clear hK K
      refine wpTill_done (by kernel_rfl) ?_ _
      have HOWN := hide (show w'.ownsRow x.heap.size 50 5 v' (i + 1) (Wr.recList (i + 1) (fun i => Wr.okRec (zr i))) from by
        rw [← Wr.recList_more]
        have e : ([.int .i64 (Wr.okRec (zr i) 0), .int .i64 (Wr.okRec (zr i) 1), .int .i64 (Wr.okRec (zr i) 2), .int .i64 (Wr.okRec (zr i) 3), .int .i64 (Wr.okRec (zr i) 4)] : List Value) = (Wr.rcd (fun j => if j = 0 then 1 + q0 else if j = 1 then q1 else if j = 2 then q2 else if j = 3 then q3 else q4)).toList := by
          have hk := unhide HOKR
          have a0 := hk 0 (by omega)
          have a1 := hk 1 (by omega)
          have a2 := hk 2 (by omega)
          have a3 := hk 3 (by omega)
          have a4 := hk 4 (by omega)
          rw [← a0, ← a1, ← a2, ← a3, ← a4]
          rfl
        rw [e]
        exact hown)
      have HGD := hide (show Wr.Gd w w' M Z G.box from ((unhide HWV).1.on (grown_trans (unhide HYD) (unhide hgn))).far hg (fun b hb => by
        have h1 := ((unhide HO2).lt b hb).1
        have h2 := (unhide HG).box.lt
        obtain ⟨q, hq⟩ := (unhide HG).res
        have h3 := hq.lt
        have h4 := (unhide HG).grown.size
        omega))
      have HTU := hide (show Turn (fun b => b = M ∨ b = Z) x w' from ((unhide HWV).2.2.then (grown_trans (unhide HYD) (unhide hgn))).trans (C := fun b => u4.ownBlock = some b) ⟨hg.os, hg.tape, hg.output, hg.size, fun k hk hn => hg.block k hk (fun e => hn e.symm)⟩ (fun b hb e => by
        have h1 := ((unhide HO2).lt b e).1
        omega))
      clear hown hg HO2 HSZ HNEW HOKR HYD hgn HWV hS0 hS1 HKS hw0
      go_wp2
      go_roundw
      case rel => exact ⟨i + 1, by have := unhide HI; omega, by have := unhide HI; omega, by go_num, unhide HGD, unhide HOWN, unhide HTU⟩
      case measure => simp [intOf]; have := unhide HI; omega
    · have HM := hide (show i = min rn 400 by omega)
      obtain ⟨va, vn, vc, hv⟩ : ∃ a n c, u4 = .slice a n c := by
        rcases (unhide hrel).2.1.2 with ⟨h1, _⟩ | ⟨g, cap, cur, h1, _⟩
        · exact ⟨none, 0, 0, h1⟩
        · exact ⟨_, _, _, h1⟩
      subst hv
      by_cases hl : i < rn
      · have hl' : (i : Int) < (rn : Int) := by omega
        have h400 : ¬ (i : Int) < 400 := by omega
        clear hlt hl hi1 hi2
        have f17 := (unhide hrel).1.box.free
        have HX := hide ((unhide hrel).1.put 17 (.slice va vn vc))
        rw [Wr.G.set17_box G (va, vn, vc)] at HX
        go_upto_region 20 with fail
        obtain ⟨y, hy⟩ : ∃ z, wr.setCell ⟨M, 17, none⟩ (.slice va vn vc) = z := ⟨_, rfl⟩
        have htm : Turn (fun b => b = M) wr (wr.setCell ⟨M, 17, none⟩ (.slice va vn vc)) := (Turn.refl _ wr).store M 17 _ rfl
        have HOX := hide (show y.ownsRow x.heap.size 50 5 (.slice va vn vc) i (Wr.recList i (fun i => Wr.okRec (zr i))) from by
          rw [← hy]
          exact Wr.owns_turn (unhide hrel).2.1 htm (fun b e h => by
            have h1 := ((unhide hrel).2.1.lt b h).1
            have := (unhide HG).box.lt
            omega))
        have HTX := hide (show Turn (fun b => b = M ∨ b = Z) x y from by
          rw [← hy]
          exact (unhide hrel).2.2.trans htm (fun _ _ e => .inl e))
        rw [hy] at HX ⊢
        clear hy htm f17 c17 hrel
        obtain ⟨da, dn, dc, hdd⟩ : ∃ a n c, G.data = (a, n, c) := ⟨_, _, _, rfl⟩
        have HDD := hide hdd
        have c29 : y.cell? ⟨M, 29, none⟩ = some (.slice da dn dc) := by
          rw [(unhide HX).box.cell (i := 29) (by omega)]
          show some (Value.slice G.data.1 G.data.2.1 G.data.2.2) = _
          rw [hdd]
        have hd1 : (dn : Int) ≤ 1048576 := by have := (unhide HD).1; rw [hdd] at this; simp at this; omega
        have hd2 : (dn : Int) ≤ (dc : Int) := by have := (unhide HD).2; rw [hdd] at this; simp at this; omega
        clear hdd
        by_cases h64 : 64 < dn
        · have h64' : (64 : Int) < (dn : Int) := by omega
          have h64c : (64 : Int) ≤ (dc : Int) := by omega
          have f29 := (unhide HX).box.free
          have HX2 := hide ((unhide HX).put 29 (.slice da 64 dc))
          rw [Wr.G.set29_box (G.set17 (va, vn, vc)) (da, 64, dc)] at HX2
          go_upto_region 22 with fail
          obtain ⟨y2, hy⟩ : ∃ z, y.setCell ⟨M, 29, none⟩ (.slice da 64 dc) = z := ⟨_, rfl⟩
          have htm : Turn (fun b => b = M) y (y.setCell ⟨M, 29, none⟩ (.slice da 64 dc)) := (Turn.refl _ y).store M 29 _ rfl
          have HOX2 := hide (show y2.ownsRow x.heap.size 50 5 (.slice va vn vc) i (Wr.recList i (fun i => Wr.okRec (zr i))) from by
            rw [← hy]
            exact Wr.owns_turn (unhide HOX) htm (fun b e h => by
              have h1 := ((unhide HOX).lt b h).1
              have := (unhide HG).box.lt
              omega))
          have HTX2 := hide (show Turn (fun b => b = M ∨ b = Z) x y2 from by
            rw [← hy]
            exact (unhide HTX).trans htm (fun _ _ e => .inl e))
          rw [hy] at HX2 ⊢
          clear hy htm f29 c29 HX HOX HTX
          have HOX := HOX2
          have HTX := HTX2
          clear HOX2 HTX2

          obtain ⟨C, hC⟩ : ∃ C, Wr.G.cells ((G.set17 (va, vn, vc)).set29 (da, 64, dc)) = C := ⟨_, rfl⟩
          have hsz : C.size = 30 := by rw [← hC]; rfl
          have hrg : y2.rangeAt M 0 C.toList := fun j u hj => by
            have hj30 : j < 30 := by
              have := (List.getElem?_eq_some_iff.1 hj).1
              simpa [hsz] using this
            have h1 := Wr.G.at ((G.set17 (va, vn, vc)).set29 (da, 64, dc)) j hj30
            rw [hC] at h1
            rw [Array.getElem?_toList, h1] at hj
            rw [Nat.zero_add, (unhide HX2).box.cell hj30]
            exact hj
          have hth : y2.there Z 0 C.size := fun j hj => by
            obtain ⟨q, hq⟩ := (unhide HX2).res
            rw [hsz] at hj
            rw [Nat.zero_add]
            exact ⟨by rw [hq.cell hj]; rfl, hq.free j⟩
          have hone : C.all (·.oneCell') = true := by rw [← hC]; exact Wr.G.one _
          have hi1 : (Try.prog.info? 29).map (·.size) = some C.toList.length := by
            rw [Array.length_toList, hsz]
            kernel_rfl
          have hld : (loadVar 29 ⟨Z, 0, none⟩).run Try.prog (y2.setCells Z 0 C.toList) = .ok (.agg C) (y2.setCells Z 0 C.toList) :=
            run_loadVar_mid (P := Try.prog) (y2.setCells Z 0 C.toList) Z 0 29 C.toList _ (World.rangeAt_setCells_same y2 Z 0 C.toList (by rw [Array.length_toList]; exact hth)) Try.underlying29 rfl hi1
          have hi2 : (Try.prog.info? 29).map (·.size) = some C.size := by rw [hsz]; kernel_rfl
          have HC := hide hC
          have HFO := hide (show Turn (fun b => b = M ∨ b = Z) x (y2.setCells Z 0 C.toList) ∧ w.grownBy (y2.setCells Z 0 C.toList) none ∧ (y2.setCells Z 0 C.toList).ownsRow x.heap.size 50 5 (.slice va vn vc) i (Wr.recList i (fun i => Wr.okRec (zr i))) from
            ⟨(unhide HTX).trans (Wr.turn_cells Z C.toList 0 y2) (fun _ _ e => .inr e), (unhide HX2).last C.toList, Wr.owns_turn (unhide HOX) (Wr.turn_cells Z C.toList 0 y2) (fun b e h => by
              have h1 := ((unhide HOX).lt b h).1
              obtain ⟨q, hq⟩ := (unhide HG).res
              have := hq.lt
              omega)⟩)
          clear hC hsz HX2
          go_wp2_with (first | refine wpList_load_mid rfl 29 (.tmp 1) rfl M 0 rfl C.toList _ hrg Try.underlying29 rfl hi1 ?_ | refine wpList_store_mid rfl 29 (.tmp 2) (.tmp 143) rfl Z 0 C rfl rfl hth hi2 hone ?_)
          obtain ⟨W, hW⟩ : ∃ W, y2.setCells Z 0 C.toList = W := ⟨_, rfl⟩
          rw [hW] at hld HFO ⊢
          clear hrg hth hone hi1 hi2 hW
          refine bodyPost_ret (v := .agg C) (Wr.results_cell Try.results18 rfl hld) rfl ?_
          have h := unhide HQ W (va, vn, vc) i (unhide HM) (unhide HFO).1 (unhide HFO).2.1 (unhide HFO).2.2
          have e : Wr.G.cells ((G.set17 (va, vn, vc)).set29 (Wr.cut64 G.data)) = C := by
            rw [← unhide HC]
            congr 1
            rw [unhide HDD]
            show _ = (G.set17 (va, vn, vc)).set29 _
            congr 1
            unfold Wr.cut64
            exact if_pos h64
          rw [← e]
          exact h
        · have h64' : ¬ (64 : Int) < (dn : Int) := by omega
          go_upto_region 22 with fail
          clear c29

          obtain ⟨C, hC⟩ : ∃ C, Wr.G.cells (G.set17 (va, vn, vc)) = C := ⟨_, rfl⟩
          have hsz : C.size = 30 := by rw [← hC]; rfl
          have hrg : y.rangeAt M 0 C.toList := fun j u hj => by
            have hj30 : j < 30 := by
              have := (List.getElem?_eq_some_iff.1 hj).1
              simpa [hsz] using this
            have h1 := Wr.G.at (G.set17 (va, vn, vc)) j hj30
            rw [hC] at h1
            rw [Array.getElem?_toList, h1] at hj
            rw [Nat.zero_add, (unhide HX).box.cell hj30]
            exact hj
          have hth : y.there Z 0 C.size := fun j hj => by
            obtain ⟨q, hq⟩ := (unhide HX).res
            rw [hsz] at hj
            rw [Nat.zero_add]
            exact ⟨by rw [hq.cell hj]; rfl, hq.free j⟩
          have hone : C.all (·.oneCell') = true := by rw [← hC]; exact Wr.G.one _
          have hi1 : (Try.prog.info? 29).map (·.size) = some C.toList.length := by
            rw [Array.length_toList, hsz]
            kernel_rfl
          have hld : (loadVar 29 ⟨Z, 0, none⟩).run Try.prog (y.setCells Z 0 C.toList) = .ok (.agg C) (y.setCells Z 0 C.toList) :=
            run_loadVar_mid (P := Try.prog) (y.setCells Z 0 C.toList) Z 0 29 C.toList _ (World.rangeAt_setCells_same y Z 0 C.toList (by rw [Array.length_toList]; exact hth)) Try.underlying29 rfl hi1
          have hi2 : (Try.prog.info? 29).map (·.size) = some C.size := by rw [hsz]; kernel_rfl
          have HC := hide hC
          have HFO := hide (show Turn (fun b => b = M ∨ b = Z) x (y.setCells Z 0 C.toList) ∧ w.grownBy (y.setCells Z 0 C.toList) none ∧ (y.setCells Z 0 C.toList).ownsRow x.heap.size 50 5 (.slice va vn vc) i (Wr.recList i (fun i => Wr.okRec (zr i))) from
            ⟨(unhide HTX).trans (Wr.turn_cells Z C.toList 0 y) (fun _ _ e => .inr e), (unhide HX).last C.toList, Wr.owns_turn (unhide HOX) (Wr.turn_cells Z C.toList 0 y) (fun b e h => by
              have h1 := ((unhide HOX).lt b h).1
              obtain ⟨q, hq⟩ := (unhide HG).res
              have := hq.lt
              omega)⟩)
          clear hC hsz HX
          go_wp2_with (first | refine wpList_load_mid rfl 29 (.tmp 1) rfl M 0 rfl C.toList _ hrg Try.underlying29 rfl hi1 ?_ | refine wpList_store_mid rfl 29 (.tmp 2) (.tmp 143) rfl Z 0 C rfl rfl hth hi2 hone ?_)
          obtain ⟨W, hW⟩ : ∃ W, y.setCells Z 0 C.toList = W := ⟨_, rfl⟩
          rw [hW] at hld HFO ⊢
          clear hrg hth hone hi1 hi2 hW
          refine bodyPost_ret (v := .agg C) (Wr.results_cell Try.results18 rfl hld) rfl ?_
          have h := unhide HQ W (va, vn, vc) i (unhide HM) (unhide HFO).1 (unhide HFO).2.1 (unhide HFO).2.2
          have e : Wr.G.cells ((G.set17 (va, vn, vc)).set29 (Wr.cut64 G.data)) = C := by
            rw [← unhide HC]
            congr 1
            rw [unhide HDD]
            unfold Wr.cut64
            rw [if_neg h64, ← unhide HDD]
            rfl
          rw [← e]
          exact h
      · have hl' : ¬ (i : Int) < (rn : Int) := by omega
        clear hlt hl hi1 hi2
        have f17 := (unhide hrel).1.box.free
        have HX := hide ((unhide hrel).1.put 17 (.slice va vn vc))
        rw [Wr.G.set17_box G (va, vn, vc)] at HX
        go_upto_region 20 with fail
        obtain ⟨y, hy⟩ : ∃ z, wr.setCell ⟨M, 17, none⟩ (.slice va vn vc) = z := ⟨_, rfl⟩
        have htm : Turn (fun b => b = M) wr (wr.setCell ⟨M, 17, none⟩ (.slice va vn vc)) := (Turn.refl _ wr).store M 17 _ rfl
        have HOX := hide (show y.ownsRow x.heap.size 50 5 (.slice va vn vc) i (Wr.recList i (fun i => Wr.okRec (zr i))) from by
          rw [← hy]
          exact Wr.owns_turn (unhide hrel).2.1 htm (fun b e h => by
            have h1 := ((unhide hrel).2.1.lt b h).1
            have := (unhide HG).box.lt
            omega))
        have HTX := hide (show Turn (fun b => b = M ∨ b = Z) x y from by
          rw [← hy]
          exact (unhide hrel).2.2.trans htm (fun _ _ e => .inl e))
        rw [hy] at HX ⊢
        clear hy htm f17 c17 hrel
        obtain ⟨da, dn, dc, hdd⟩ : ∃ a n c, G.data = (a, n, c) := ⟨_, _, _, rfl⟩
        have HDD := hide hdd
        have c29 : y.cell? ⟨M, 29, none⟩ = some (.slice da dn dc) := by
          rw [(unhide HX).box.cell (i := 29) (by omega)]
          show some (Value.slice G.data.1 G.data.2.1 G.data.2.2) = _
          rw [hdd]
        have hd1 : (dn : Int) ≤ 1048576 := by have := (unhide HD).1; rw [hdd] at this; simp at this; omega
        have hd2 : (dn : Int) ≤ (dc : Int) := by have := (unhide HD).2; rw [hdd] at this; simp at this; omega
        clear hdd
        by_cases h64 : 64 < dn
        · have h64' : (64 : Int) < (dn : Int) := by omega
          have h64c : (64 : Int) ≤ (dc : Int) := by omega
          have f29 := (unhide HX).box.free
          have HX2 := hide ((unhide HX).put 29 (.slice da 64 dc))
          rw [Wr.G.set29_box (G.set17 (va, vn, vc)) (da, 64, dc)] at HX2
          go_upto_region 22 with fail
          obtain ⟨y2, hy⟩ : ∃ z, y.setCell ⟨M, 29, none⟩ (.slice da 64 dc) = z := ⟨_, rfl⟩
          have htm : Turn (fun b => b = M) y (y.setCell ⟨M, 29, none⟩ (.slice da 64 dc)) := (Turn.refl _ y).store M 29 _ rfl
          have HOX2 := hide (show y2.ownsRow x.heap.size 50 5 (.slice va vn vc) i (Wr.recList i (fun i => Wr.okRec (zr i))) from by
            rw [← hy]
            exact Wr.owns_turn (unhide HOX) htm (fun b e h => by
              have h1 := ((unhide HOX).lt b h).1
              have := (unhide HG).box.lt
              omega))
          have HTX2 := hide (show Turn (fun b => b = M ∨ b = Z) x y2 from by
            rw [← hy]
            exact (unhide HTX).trans htm (fun _ _ e => .inl e))
          rw [hy] at HX2 ⊢
          clear hy htm f29 c29 HX HOX HTX
          have HOX := HOX2
          have HTX := HTX2
          clear HOX2 HTX2

          obtain ⟨C, hC⟩ : ∃ C, Wr.G.cells ((G.set17 (va, vn, vc)).set29 (da, 64, dc)) = C := ⟨_, rfl⟩
          have hsz : C.size = 30 := by rw [← hC]; rfl
          have hrg : y2.rangeAt M 0 C.toList := fun j u hj => by
            have hj30 : j < 30 := by
              have := (List.getElem?_eq_some_iff.1 hj).1
              simpa [hsz] using this
            have h1 := Wr.G.at ((G.set17 (va, vn, vc)).set29 (da, 64, dc)) j hj30
            rw [hC] at h1
            rw [Array.getElem?_toList, h1] at hj
            rw [Nat.zero_add, (unhide HX2).box.cell hj30]
            exact hj
          have hth : y2.there Z 0 C.size := fun j hj => by
            obtain ⟨q, hq⟩ := (unhide HX2).res
            rw [hsz] at hj
            rw [Nat.zero_add]
            exact ⟨by rw [hq.cell hj]; rfl, hq.free j⟩
          have hone : C.all (·.oneCell') = true := by rw [← hC]; exact Wr.G.one _
          have hi1 : (Try.prog.info? 29).map (·.size) = some C.toList.length := by
            rw [Array.length_toList, hsz]
            kernel_rfl
          have hld : (loadVar 29 ⟨Z, 0, none⟩).run Try.prog (y2.setCells Z 0 C.toList) = .ok (.agg C) (y2.setCells Z 0 C.toList) :=
            run_loadVar_mid (P := Try.prog) (y2.setCells Z 0 C.toList) Z 0 29 C.toList _ (World.rangeAt_setCells_same y2 Z 0 C.toList (by rw [Array.length_toList]; exact hth)) Try.underlying29 rfl hi1
          have hi2 : (Try.prog.info? 29).map (·.size) = some C.size := by rw [hsz]; kernel_rfl
          have HC := hide hC
          have HFO := hide (show Turn (fun b => b = M ∨ b = Z) x (y2.setCells Z 0 C.toList) ∧ w.grownBy (y2.setCells Z 0 C.toList) none ∧ (y2.setCells Z 0 C.toList).ownsRow x.heap.size 50 5 (.slice va vn vc) i (Wr.recList i (fun i => Wr.okRec (zr i))) from
            ⟨(unhide HTX).trans (Wr.turn_cells Z C.toList 0 y2) (fun _ _ e => .inr e), (unhide HX2).last C.toList, Wr.owns_turn (unhide HOX) (Wr.turn_cells Z C.toList 0 y2) (fun b e h => by
              have h1 := ((unhide HOX).lt b h).1
              obtain ⟨q, hq⟩ := (unhide HG).res
              have := hq.lt
              omega)⟩)
          clear hC hsz HX2
          go_wp2_with (first | refine wpList_load_mid rfl 29 (.tmp 1) rfl M 0 rfl C.toList _ hrg Try.underlying29 rfl hi1 ?_ | refine wpList_store_mid rfl 29 (.tmp 2) (.tmp 143) rfl Z 0 C rfl rfl hth hi2 hone ?_)
          obtain ⟨W, hW⟩ : ∃ W, y2.setCells Z 0 C.toList = W := ⟨_, rfl⟩
          rw [hW] at hld HFO ⊢
          clear hrg hth hone hi1 hi2 hW
          refine bodyPost_ret (v := .agg C) (Wr.results_cell Try.results18 rfl hld) rfl ?_
          have h := unhide HQ W (va, vn, vc) i (unhide HM) (unhide HFO).1 (unhide HFO).2.1 (unhide HFO).2.2
          have e : Wr.G.cells ((G.set17 (va, vn, vc)).set29 (Wr.cut64 G.data)) = C := by
            rw [← unhide HC]
            congr 1
            rw [unhide HDD]
            show _ = (G.set17 (va, vn, vc)).set29 _
            congr 1
            unfold Wr.cut64
            exact if_pos h64
          rw [← e]
          exact h
        · have h64' : ¬ (64 : Int) < (dn : Int) := by omega
          go_upto_region 22 with fail
          clear c29

          obtain ⟨C, hC⟩ : ∃ C, Wr.G.cells (G.set17 (va, vn, vc)) = C := ⟨_, rfl⟩
          have hsz : C.size = 30 := by rw [← hC]; rfl
          have hrg : y.rangeAt M 0 C.toList := fun j u hj => by
            have hj30 : j < 30 := by
              have := (List.getElem?_eq_some_iff.1 hj).1
              simpa [hsz] using this
            have h1 := Wr.G.at (G.set17 (va, vn, vc)) j hj30
            rw [hC] at h1
            rw [Array.getElem?_toList, h1] at hj
            rw [Nat.zero_add, (unhide HX).box.cell hj30]
            exact hj
          have hth : y.there Z 0 C.size := fun j hj => by
            obtain ⟨q, hq⟩ := (unhide HX).res
            rw [hsz] at hj
            rw [Nat.zero_add]
            exact ⟨by rw [hq.cell hj]; rfl, hq.free j⟩
          have hone : C.all (·.oneCell') = true := by rw [← hC]; exact Wr.G.one _
          have hi1 : (Try.prog.info? 29).map (·.size) = some C.toList.length := by
            rw [Array.length_toList, hsz]
            kernel_rfl
          have hld : (loadVar 29 ⟨Z, 0, none⟩).run Try.prog (y.setCells Z 0 C.toList) = .ok (.agg C) (y.setCells Z 0 C.toList) :=
            run_loadVar_mid (P := Try.prog) (y.setCells Z 0 C.toList) Z 0 29 C.toList _ (World.rangeAt_setCells_same y Z 0 C.toList (by rw [Array.length_toList]; exact hth)) Try.underlying29 rfl hi1
          have hi2 : (Try.prog.info? 29).map (·.size) = some C.size := by rw [hsz]; kernel_rfl
          have HC := hide hC
          have HFO := hide (show Turn (fun b => b = M ∨ b = Z) x (y.setCells Z 0 C.toList) ∧ w.grownBy (y.setCells Z 0 C.toList) none ∧ (y.setCells Z 0 C.toList).ownsRow x.heap.size 50 5 (.slice va vn vc) i (Wr.recList i (fun i => Wr.okRec (zr i))) from
            ⟨(unhide HTX).trans (Wr.turn_cells Z C.toList 0 y) (fun _ _ e => .inr e), (unhide HX).last C.toList, Wr.owns_turn (unhide HOX) (Wr.turn_cells Z C.toList 0 y) (fun b e h => by
              have h1 := ((unhide HOX).lt b h).1
              obtain ⟨q, hq⟩ := (unhide HG).res
              have := hq.lt
              omega)⟩)
          clear hC hsz HX
          go_wp2_with (first | refine wpList_load_mid rfl 29 (.tmp 1) rfl M 0 rfl C.toList _ hrg Try.underlying29 rfl hi1 ?_ | refine wpList_store_mid rfl 29 (.tmp 2) (.tmp 143) rfl Z 0 C rfl rfl hth hi2 hone ?_)
          obtain ⟨W, hW⟩ : ∃ W, y.setCells Z 0 C.toList = W := ⟨_, rfl⟩
          rw [hW] at hld HFO ⊢
          clear hrg hth hone hi1 hi2 hW
          refine bodyPost_ret (v := .agg C) (Wr.results_cell Try.results18 rfl hld) rfl ?_
          have h := unhide HQ W (va, vn, vc) i (unhide HM) (unhide HFO).1 (unhide HFO).2.1 (unhide HFO).2.2
          have e : Wr.G.cells ((G.set17 (va, vn, vc)).set29 (Wr.cut64 G.data)) = C := by
            rw [← unhide HC]
            congr 1
            rw [unhide HDD]
            unfold Wr.cut64
            rw [if_neg h64, ← unhide HDD]
            rfl
          rw [← e]
          exact h

end Go.Proofs.Ytiegccdgoemamaa
