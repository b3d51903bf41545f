/-
  A law's worlds in their boxes, one behind the other.
  The row of a seat's hero, in the document.
  A law's world, laid over by the one that a call has answered.
  The law's gold: what is counted behind a piece that was picked up.
-/
import Derived.Test.YthngbjmiblbohabGoodsPlay
import Derived.Test.YthngbjmiblbohabGoodsBase
namespace Go.Proofs.Ythngbjmiblbohab
open Go.RowKit

/-- A world in a box of the law's own. -/
structure Gd.Law (w x : World) (T gC gE gI cC cE cI : Nat) (s g c : Nat → Int) (E I : Nat → Nat → Int) : Prop where
  hold : Gd.Hold x T gC gE gI cC cE cI s g c E I
  lT : w.heap.size ≤ T
  lE : w.heap.size ≤ gE
  lI : w.heap.size ≤ gI
  cap : 32 ≤ cE
  grown : w.grownBy x none

theorem Gd.Law.on {w x y : World} {T gC gE gI cC cE cI : Nat} {s g c : Nat → Int} {E I : Nat → Nat → Int} (h : Gd.Law w x T gC gE gI cC cE cI s g c E I) (hg : x.grownBy y none) : Gd.Law w y T gC gE gI cC cE cI s g c E I :=
  { h with hold := h.hold.on hg, grown := grown_trans h.grown hg }

theorem Gd.Law.put {w x : World} {T gC gE gI cC cE cI : Nat} {s g c : Nat → Int} {E I : Nat → Nat → Int} (h : Gd.Law w x T gC gE gI cC cE cI s g c E I) (m : Nat) (a b d e : Int) : Gd.Law w ((((x.setCell ⟨gI, m * 4, none⟩ (.int .i64 a)).setCell ⟨gI, m * 4 + 1, none⟩ (.int .i64 b)).setCell ⟨gI, m * 4 + 2, none⟩ (.int .i64 d)).setCell ⟨gI, m * 4 + 3, none⟩ (.int .i64 e)) T gC gE gI cC cE cI s g c E (En.put I m (Gd.row a b d e)) :=
  { h with hold := h.hold.put m a b d e, grown := grown_own h.grown (grown_put4 (World.grownBy.refl x (some gI)) m _ _ _ _) (fun n e => by cases e; exact h.lI) }

theorem Gd.Law.same {w x : World} {T gC gE gI cC cE cI : Nat} {s g c : Nat → Int} {E I J : Nat → Nat → Int} (h : Gd.Law w x T gC gE gI cC cE cI s g c E I) (he : I = J) : Gd.Law w x T gC gE gI cC cE cI s g c E J := he ▸ h

/-- What a call has answered, laid into a box. -/
theorem Gd.law_new {w x x' : World} {gC gE gI cC cE cI : Nat} {s g c : Nat → Int} {E I : Nat → Nat → Int} (hgx : w.grownBy x none) (hcap : 32 ≤ cE) (l1 : x.heap.size ≤ gC) (l2 : x.heap.size ≤ gE) (l3 : x.heap.size ≤ gI) (n1 : gC ≠ gE) (n2 : gC ≠ gI) (n3 : gE ≠ gI) (hL : Gd.Lists x' gC gE gI c E I) (hg : x.grownBy x' none) :
    Gd.Law w (x'.alloc (.cells (Gd.world s gC gE gI cC cE cI g) 28)) x'.heap.size gC gE gI cC cE cI s g c E I := by
  have h1 := hL.cells.lt
  have h2 := hL.ents.lt
  have h3 := hL.items.lt
  have h4 := hgx.size
  have h5 := hg.size
  have _ := l1
  exact ⟨⟨(Arr.world (heap_alloc_new x' _)).lie, hL.on (World.grownBy_alloc _ _ _), by omega, by omega, by omega, n1, n2, n3⟩, by omega, by omega, by omega, hcap, grown_trans hgx (grown_alloc hg _)⟩

theorem Gd.Law.eleven {w x : World} {T gC gE gI cC cE cI : Nat} {s g c : Nat → Int} {E I : Nat → Nat → Int} (h : Gd.Law w x T gC gE gI cC cE cI s g c E I) : x.cell? ⟨T, 0, none⟩ = some (.int .i64 (s 0)) ∧ x.cell? ⟨T, 1, none⟩ = some (.int .i64 (s 1)) ∧ x.cell? ⟨T, 2, none⟩ = some (.int .i64 (s 2)) ∧ x.cell? ⟨T, 3, none⟩ = some (.int .i64 (s 3)) ∧ x.cell? ⟨T, 4, none⟩ = some (.slice (some ⟨gC, 0, none⟩) 384 cC) ∧ x.cell? ⟨T, 5, none⟩ = some (.slice (some ⟨gE, 0, none⟩) 32 cE) ∧ x.cell? ⟨T, 6, none⟩ = some (.slice (some ⟨gI, 0, none⟩) 40 cI) ∧ x.cell? ⟨T, 7, none⟩ = some (.int .i64 (g 0)) ∧ x.cell? ⟨T, 8, none⟩ = some (.int .i64 (g 1)) ∧ x.cell? ⟨T, 9, none⟩ = some (.int .i64 (g 2)) ∧ x.cell? ⟨T, 10, none⟩ = some (.int .i64 (g 3)) :=
  h.hold.box.eleven

/-- One number of an item. -/
theorem Gd.Law.at {w x : World} {T gC gE gI cC cE cI : Nat} {s g c : Nat → Int} {E I : Nat → Nat → Int} (h : Gd.Law w x T gC gE gI cC cE cI s g c E I) (q : Nat) (hq : q < 160) (v : Int) (hv : I (q / 4) (q % 4) = v) : x.cell? ⟨gI, q, none⟩ = some (.int .i64 v) := by
  rw [h.hold.lists.items.cell hq, ← hv]
  rfl

end Go.Proofs.Ythngbjmiblbohab

namespace Go.Proofs.Ythngbjmiblbohab
open Go.RowKit

set_option maxHeartbeats 800000 in
theorem refHero_any (b n c : Nat) (E : Nat → Nat → Int) (seat : Int) (w : World) (hE : Ents w b n E) :
    Calls Try.prog 7 #[.slice (some ⟨b, 0, none⟩) n c, .int .i64 seat] w (Says w (.int .i64 (En.first (En.heroQ E seat) n))) := by
  have hn := hE.1
  have hE' := hide hE
  skip
  clear hE
  go_enter Try.func7, Try.ntmps7
  go_wp2_with fail
  go_loop [5] (fun i => ∃ k : Nat, k ≤ n ∧ i = .int .i64 (k : Int) ∧ ∀ j, j < k → En.heroQ E seat j = false) (fun i => 40 - (intOf i).toNat)
  case atStart => exact ⟨0, by omega, rfl, fun j hj => by omega⟩
  case round =>
    obtain ⟨k, hk, rfl, hno⟩ := hrel
    have hno' := hide hno
    clear hno
    by_cases hlt : k < n
    · obtain ⟨u0, _, u2, _⟩ := (unhide hE').row hlt
      have hlt' : (k : Int) < (n : Int) := by omega
      have HL := hide hlt
      skip
      clear hlt
      by_cases hf : E k 0 = 1
      · by_cases h3 : E k 2 = seat
        · have hq : Hid (En.heroQ E seat k = true) := by show En.heroQ E seat k = true; simp [En.heroQ, hf, h3]
          have he := hide (En.first_hit (unhide hno') (unhide hq) (unhide HL))
          go_wp2
          go_ret
          exact ⟨ret_int (unhide he).symm, World.grownBy.refl _ _⟩
        · have hq : Hid (En.heroQ E seat k = false) := by show En.heroQ E seat k = false; simp [En.heroQ, h3]
          have h3' : (E k 2 == seat) = false := by simp [h3]
          go_wp2
          go_round
          case rel => exact ⟨k + 1, by have := unhide HL; omega, by go_num, fun j hj => by
            by_cases e : j = k
            · rw [e]; exact unhide hq
            · exact unhide hno' j (by omega)⟩
          case measure => simp [intOf]; omega
      · have hq : Hid (En.heroQ E seat k = false) := by show En.heroQ E seat k = false; simp [En.heroQ, hf]
        have hf' : (E k 0 == 1) = false := by simp [hf]
        go_wp2
        go_round
        case rel => exact ⟨k + 1, by have := unhide HL; omega, by go_num, fun j hj => by
          by_cases e : j = k
          · rw [e]; exact unhide hq
          · exact unhide hno' j (by omega)⟩
        case measure => simp [intOf]; omega
    · have hge : ¬ (k : Int) < (n : Int) := by omega
      have he := hide (En.first_none (n := n) (fun j hj => unhide hno' j (by omega)))
      go_wp2
      go_ret
      exact ⟨ret_int (unhide he).symm, World.grownBy.refl _ _⟩

theorem refHero7_any (g c : Nat) (E : Nat → Nat → Int) (seat : Int) (w : World) (h : Own w g 32 E) :
    Calls Try.prog 7 #[.slice (some ⟨g, 0, none⟩) 32 c, .int .i64 seat] w (Says w (.int .i64 (Gd.hero E seat))) := refHero_any g 32 c E seat w h.ents

end Go.Proofs.Ythngbjmiblbohab

namespace Go.Proofs.Ythngbjmiblbohab
open Go.RowKit

/-- What a call has answered, laid over a box that was there. -/
theorem Gd.Law.over {w x x' : World} {T gC gE gI cC cE cI jC jE jI dC dE dI : Nat} {s g c s' g' c' : Nat → Int} {E I F J : Nat → Nat → Int} (h : Gd.Law w x T gC gE gI cC cE cI s g c E I) (hcap : 32 ≤ dE) (l1 : x.heap.size ≤ jC) (l2 : x.heap.size ≤ jE) (l3 : x.heap.size ≤ jI) (n1 : jC ≠ jE) (n2 : jC ≠ jI) (n3 : jE ≠ jI) (hL : Gd.Lists x' jC jE jI c' F J) (hg : x.grownBy x' none) :
    Gd.Law w (x'.setCells T 0 (Gd.world s' jC jE jI dC dE dI g').toList) T jC jE jI dC dE dI s' g' c' F J := by
  have h1 := h.hold.box.lt
  have h2 := h.grown.size
  have r := grown_sets (g := T) (Gd.world s' jC jE jI dC dE dI g').toList 0 x' (World.grownBy.refl _ _)
  exact ⟨⟨(h.hold.box.on hg).whole s' g' jC jE jI dC dE dI, ⟨hL.cells.grown r (by simp; omega), hL.ents.grown r (by simp; omega), hL.items.grown r (by simp; omega)⟩, by omega, by omega, by omega, n1, n2, n3⟩, h.lT, by omega, by omega, hcap, own_sets h.lT _ 0 x' (grown_trans h.grown hg)⟩

/-- A piece of gold in row k, where nothing else is: it is counted, and gone. -/
theorem Gd.gold_pick {x y gd : Int} {k : Nat} {shop : Bool} (hk : k < 40) : Gd.act (En.put (fun _ _ => 0) k (Gd.row 4 1 x y)) 40 2 x y shop gd 5 = (fun _ _ => 0) ∧ Gd.goldOf (En.put (fun _ _ => 0) k (Gd.row 4 1 x y)) 2 x y shop gd 5 = min (gd + 5) 999 := by
  have hf : Gd.find (En.put (fun _ _ => 0) k (Gd.row 4 1 x y)) 40 1 x y = (k : Int) := Gd.find_at hk (by rw [En.put_same]; rfl) (by rw [En.put_same]; rfl) (by rw [En.put_same]; rfl) (fun j hj hc => by
    rw [En.put_other (by omega)] at hc
    have : (0 : Int) = 1 := hc.1
    omega)
  have h0 : En.put (fun _ _ => 0) k (Gd.row 4 1 x y) k 0 = 4 := by
    rw [En.put_same]
    rfl
  constructor
  · unfold Gd.act Gd.pick
    rw [if_pos rfl, hf, Int.toNat_natCast, h0, if_pos ⟨by omega, rfl⟩]
    funext j
    by_cases e : j = k
    · subst e
      rw [En.put_same]
      rfl
    · rw [En.put_other e, En.put_other e]
  · unfold Gd.goldOf
    rw [if_pos rfl, hf, Int.toNat_natCast, h0, if_pos ⟨by omega, rfl⟩]

theorem Gd.ok_gold {c : Nat → Int} {kd : Int} {kc k : Nat} (h1 : 1 ≤ kd) (h4 : kd ≤ 4) (hkc : kc < 384) (hw : Gr.walkB (c kc) = true) : Gd.Ok c 40 (En.put (fun _ _ => 0) k (Gd.row kd 1 ((kc : Int) % 24) ((kc : Int) / 24))) := by
  have hp := (Gd.fit_cell (c := c) h1 h4 hkc hw).placed (fun _ => rfl)
  exact (Gd.ok_none c).put (.inr ⟨hp, fun j _ _ hsh => hp.where_ne hsh.1.symm⟩)

theorem Gd.slot_none (seat : Int) : Gd.slot (fun _ _ => 0) 40 seat = ((0 : Nat) : Int) :=
  Gd.slot_at (by omega) (by
    rw [Gd.find_no fun j _ hc => by
      have : (0 : Int) = 2 := hc.1
      omega]
    omega) (fun j hj => by omega)

theorem Gd.fine_give {c g : Nat → Int} {E I J : Nat → Nat → Int} {t : Nat} {v : Int} (h : Gd.Fine c g E I) (h0 : 0 ≤ v) (h9 : v ≤ 999) (hJ : Gd.Ok c 40 J) : Gd.Fine c (Gd.give g t v) E J :=
  { h with
    gold := fun k hk => by
      unfold Gd.give
      by_cases e : k = t
      · rw [if_pos e]; exact ⟨h0, h9⟩
      · rw [if_neg e]; exact h.gold k hk
    ok := hJ }

end Go.Proofs.Ythngbjmiblbohab

namespace Go.Proofs.Ythngbjmiblbohab
open Go.RowKit

set_option maxRecDepth 8000 in
set_option maxHeartbeats 1600000 in
theorem gold_tail (G : Int) (k T jI dI : Nat) (wz : World) (g0 : 0 ≤ G) (g9 : G ≤ 999) (hk40 : (k : Int) < 40) (c6 : wz.cell? ⟨T, 6, none⟩ = some (.slice (some ⟨jI, 0, none⟩) 40 dI)) (c9 : wz.cell? ⟨T, 9, none⟩ = some (.int .i64 (min (G + 5) 999)))
    (x0 : wz.cell? ⟨jI, k * 4, none⟩ = some (.int .i64 0)) (x1 : wz.cell? ⟨jI, k * 4 + 1, none⟩ = some (.int .i64 0)) (x2 : wz.cell? ⟨jI, k * 4 + 2, none⟩ = some (.int .i64 0)) (x3 : wz.cell? ⟨jI, k * 4 + 3, none⟩ = some (.int .i64 0)) (Q : Exit → Act → World → Prop) (t0 t1 t2 t3 t4 t5 t6 t8 t11 t12 t13 t14 t15 t16 t17 t18 t19 t20 t21 t22 t23 t24 t25 t26 t27 t28 t29 t30 t31 t32 t33 t34 t35 t36 t37 t38 t39 t40 t41 t42 t43 t44 t45 t46 t47 t48 t49 t50 t51 t52 t53 t54 t55 t56 t57 t58 t59 t60 t61 t62 t63 t64 t65 t66 t67 t68 t69 t70 t71 : Value)
    (hQ : ∀ (u47 u48 u49 u50 u51 u52 u53 u54 u55 u56 u57 u58 u59 u60 u61 u62 u63 : Value), Q .normal ⟨#[t0, t1, t2, t3, t4, t5, t6, .pointer (some ⟨T, 0, none⟩), t8, .int .i64 (min (G + 5) 999), .int .i64 (k : Int), t11, t12, t13, t14, t15, t16, t17, t18, t19, t20, t21, t22, t23, t24, t25, t26, t27, t28, t29, t30, t31, t32, t33, t34, t35, t36, t37, t38, t39, t40, t41, t42, t43, t44, t45, t46, u47, u48, u49, u50, u51, u52, u53, u54, u55, u56, u57, u58, u59, u60, u61, u62, u63, t64, t65, t66, t67, t68, t69, t70, t71], []⟩ wz) :
    Code.wp Try.prog (csnd (csnd (cin (cfst (csnd (cin (cin (csnd (cfst ((Try.f4.body.map (cdrop 5)).getD .skip)))))))))) Q ⟨#[t0, t1, t2, t3, t4, t5, t6, .pointer (some ⟨T, 0, none⟩), t8, .int .i64 G, .int .i64 (k : Int), t11, t12, t13, t14, t15, t16, t17, t18, t19, t20, t21, t22, t23, t24, t25, t26, t27, t28, t29, t30, t31, t32, t33, t34, t35, t36, t37, t38, t39, t40, t41, t42, t43, t44, t45, t46, t47, t48, t49, t50, t51, t52, t53, t54, t55, t56, t57, t58, t59, t60, t61, t62, t63, t64, t65, t66, t67, t68, t69, t70, t71], []⟩ wz := by
  conv => arg 2; whnf
  have hQ' := hide hQ
  clear hQ
  by_cases hbig : G + 5 ≤ 999
  · have hm : min (G + 5) 999 = G + 5 := by omega
    have c9' : wz.cell? ⟨T, 9, none⟩ = some (.int .i64 (G + 5)) := by rw [c9, hm]
    rw [hm] at hQ'
    clear c9 hm
    go_wp2_with fail
    exact unhide hQ' _ _ _ _ _ _ _ _ _ _ _ _ _ _ _ _ _
  · have hm : min (G + 5) 999 = 999 := by omega
    have c9' : wz.cell? ⟨T, 9, none⟩ = some (.int .i64 999) := by rw [c9, hm]
    rw [hm] at hQ'
    clear c9 hm
    go_wp2_with fail
    exact unhide hQ' _ _ _ _ _ _ _ _ _ _ _ _ _ _ _ _ _

end Go.Proofs.Ythngbjmiblbohab
