/-
  The law's own world: a floor of the document, a hero on it, items as told.
  All that a seat has is swept away, in goods: Sweep.
  A world apart, in the document: Twin.
  Items that are laid into rows that are gone: as numbers, and in the document: Lay.
  A world that a law lays: the place of what is answered, the box, the lists; items as told, that may be where they are.
-/
import Derived.Test.YthngbjmiblbohaaGoodsBase
import Derived.Test.YthngbjmiblbohaaGenDone
namespace Go.Proofs.Ythngbjmiblbohaa
open Go.RowKit

set_option maxHeartbeats 400000 in
theorem within7_any (a n : Int) (w : World) (hn : 0 < n) (hn2 : n ≤ 4611686018427387904) :
    Calls Try.prog 11 #[.int .i64 a, .int .i64 n] w fun e w' => e = .returned (.int .i64 (a % n)) ∧ w' = w := by
  have t1 := Int.tmod_lt_of_pos a (b := n) hn
  have t2 := Int.lt_tmod_of_pos a (b := n) hn
  have hn0 : (n == 0) = false := by simp; omega
  by_cases h : a.tmod n < 0
  · have ha : ¬ 0 ≤ a := by
      intro h0
      have := Int.tmod_nonneg n h0
      omega
    have hd := hide (Gr.within_neg a n hn h)
    go_enter Try.func11, Try.ntmps11
    go_wp2
    go_ret
    exact ⟨ret_int (unhide hd), rfl⟩
  · have hd := hide (Gr.within_pos a n hn h)
    by_cases ha : 0 ≤ a
    · have e : a.tmod n = a % n := Int.tmod_eq_emod_of_nonneg ha
      have h' : ¬ a % n < 0 := by rw [← e]; exact h
      clear h t1 t2 e
      go_enter Try.func11, Try.ntmps11
      go_wp2
      go_ret
      exact ⟨rfl, rfl⟩
    · go_enter Try.func11, Try.ntmps11
      go_wp2
      go_ret
      exact ⟨ret_int (unhide hd), rfl⟩

theorem madeCells_item (n c : Nat) (hc : c < n * 4) : (madeCells (Value.agg #[.int .i64 0, .int .i64 0, .int .i64 0, .int .i64 0]).cells (n * 4))[c]? = some (.int .i64 0) := by
  have hm : c % 4 < 4 := by omega
  obtain ⟨m, hmm⟩ : ∃ m, m = c % 4 := ⟨_, rfl⟩
  unfold madeCells
  simp [hc, Value.cells]
  rw [← hmm] at hm ⊢
  rcases (show m = 0 ∨ m = 1 ∨ m = 2 ∨ m = 3 by omega) with rfl | rfl | rfl | rfl <;> rfl

/-- A list of 40 items that are gone, made. -/
theorem make40 : ∃ Z : Array Value, (∀ w : World, (Instr.makeSlice 22 (.int .i64 40) (.int .i64 40)).run Try.prog w = .ok (.slice (some ⟨w.heap.size, 0, none⟩) 40 40) (w.alloc (.cells Z 38))) ∧
    ∀ w : World, Lie (w.alloc (.cells Z 38)) w.heap.size 38 160 (Gd.flat (fun _ _ => 0)) := by
  obtain ⟨i0, hi, hz0, hz1, hz2⟩ := info_parts info_item
  refine ⟨madeCells (Value.agg #[.int .i64 0, .int .i64 0, .int .i64 0, .int .i64 0]).cells (40 * 4), fun w => ?_, fun w => ?_⟩
  · have hr := run_make (P := Try.prog) w 22 38 i0 _ Try.underlying22 hi hz0 .i64 .i64 (40 : Nat) (40 : Nat) (by omega) (by omega) (by rw [hz2]; decide) (by decide)
    rw [hz1] at hr
    exact hr
  · refine ⟨_, _, Arr.lit (heap_alloc_new w _), by rw [size_madeCells]; omega, fun c hc => ?_⟩
    show (madeCells _ _)[c]?.getD undef = _
    rw [madeCells_item 40 c hc]
    rfl

theorem field_cells7 (v1 v2 v3 : Option Addr) (n1 n2 n3 c1 c2 c3 : Nat) (w : World) : (Instr.field 52 (.agg #[.slice v1 n1 c1, .slice v2 n2 c2, .slice v3 n3 c3]) 0).run Try.prog w = .ok (.slice v1 n1 c1) w := field_cells v1 v2 v3 n1 n2 n3 c1 c2 c3 w

theorem grown_frozen {w w' : World} {r : Option Nat} (h : w.grownBy w' r) (b i : Nat) (hb : b < w.heap.size) (hr : r ≠ some b) : w'.frozen? ⟨b, i, none⟩ = w.frozen? ⟨b, i, none⟩ :=
  World.frozen?_of_block (a := ⟨b, i, none⟩) (h.block b hb (fun e => hr e.symm))

theorem blk_old {w : World} {b : Nat} {x : Obj} (h : w.heap[b]? = some x) (o : Obj) : (w.alloc o).heap[b]? = some x :=
  ((World.grownBy_alloc w o none).block b (lt_of_block h) (fun e => by cases e)).trans h

theorem blk_drew {w : World} {b : Nat} {x : Obj} (h : w.heap[b]? = some x) : w.drew.heap[b]? = some x :=
  ((grown_drew1 (World.grownBy.refl w none)).block b (lt_of_block h) (fun e => by cases e)).trans h

theorem blk1 (w : World) (a o : Obj) : ((w.alloc a).alloc o).heap[w.heap.size + 1]? = some o := by
  have h := heap_alloc_new (w.alloc a) o
  rwa [show (w.alloc a).heap.size = w.heap.size + 1 by simp] at h

theorem blk2 (w : World) (a b o : Obj) : (((w.alloc a).alloc b).alloc o).heap[w.heap.size + 2]? = some o := by
  have h := heap_alloc_new ((w.alloc a).alloc b) o
  rwa [show ((w.alloc a).alloc b).heap.size = w.heap.size + 2 by simp] at h

/-- A box that was made ahead of a call. -/
theorem box_facts {X w1 : World} {B : Nat} (hg : X.grownBy w1 none) (h : X.heap[B]? = some (.cells #[.int .i64 0, .int .i64 0, .int .i64 0, .int .i64 0, .slice none 0 0, .slice none 0 0, .slice none 0 0, .int .i64 0, .int .i64 0, .int .i64 0, Value.int .i64 0] 29 (0, 0))) :
    (w1.cell? ⟨B, 0, none⟩ = some (.int .i64 0) ∧ w1.cell? ⟨B, 1, none⟩ = some (.int .i64 0) ∧ w1.cell? ⟨B, 2, none⟩ = some (.int .i64 0) ∧ w1.cell? ⟨B, 3, none⟩ = some (.int .i64 0) ∧ w1.cell? ⟨B, 4, none⟩ = some (.slice none 0 0) ∧ w1.cell? ⟨B, 5, none⟩ = some (.slice none 0 0) ∧ w1.cell? ⟨B, 6, none⟩ = some (.slice none 0 0) ∧ w1.cell? ⟨B, 7, none⟩ = some (.int .i64 0) ∧ w1.cell? ⟨B, 8, none⟩ = some (.int .i64 0) ∧ w1.cell? ⟨B, 9, none⟩ = some (.int .i64 0) ∧ w1.cell? ⟨B, 10, none⟩ = some (.int .i64 0)) ∧ (∀ i, w1.frozen? ⟨B, i, none⟩ = false) ∧ (B < w1.heap.size ∧ B ≠ w1.heap.size ∧ B ≠ w1.heap.size + 1) ∧ Hid (Lie w1 B 29 11 (fun j => (#[.int .i64 0, .int .i64 0, .int .i64 0, .int .i64 0, .slice none 0 0, .slice none 0 0, .slice none 0 0, .int .i64 0, .int .i64 0, .int .i64 0, Value.int .i64 0] : Array Value)[j]?.getD undef)) := by
  have hA := ((Arr.lit h).grown hg (by simp)).lie
  have hl := hA.lt
  exact ⟨Gd.res_cells hA, hA.free, ⟨hl, by omega, by omega⟩, hA⟩

/-- The numbers of a world that the law makes: seed, frame, floor, state. -/
def Gd.head (seed floor : Int) : Nat → Int := fun j => if j = 0 then seed else if j = 2 then floor else 0

theorem Lie.type_ne {x : World} {B G : Nat} {T U : TypeId} {m n : Nat} {F K : Nat → Value} (h1 : Lie x B T m F) (h2 : Lie x G U n K) (h : T ≠ U) : B ≠ G := by
  rintro rfl
  obtain ⟨_, _, ⟨c1, e1, _⟩, _⟩ := h1
  obtain ⟨_, _, ⟨c2, e2, _⟩, _⟩ := h2
  rw [e1] at e2
  simp only [Option.some.injEq, Obj.cells.injEq] at e2
  exact h e2.2.1

theorem Lie.set11 {x : World} {B G : Nat} {T : TypeId} {m : Nat} {F : Nat → Value} {v0 v1 v2 v3 v4 v5 v6 v7 v8 v9 v10 : Value} (h : Lie x G T m F) (hne : B ≠ G) : Lie (((((((((((x.setCell ⟨B, 0, none⟩ v0).setCell ⟨B, 1, none⟩ v1).setCell ⟨B, 2, none⟩ v2).setCell ⟨B, 3, none⟩ v3).setCell ⟨B, 4, none⟩ v4).setCell ⟨B, 5, none⟩ v5).setCell ⟨B, 6, none⟩ v6).setCell ⟨B, 7, none⟩ v7).setCell ⟨B, 8, none⟩ v8).setCell ⟨B, 9, none⟩ v9).setCell ⟨B, 10, none⟩ v10) G T m F :=
  h.others hne 0 [v0, v1, v2, v3, v4, v5, v6, v7, v8, v9, v10]

theorem grown_set11 {w x : World} {B : Nat} {v0 v1 v2 v3 v4 v5 v6 v7 v8 v9 v10 : Value} (h : w.grownBy x none) (hB : w.heap.size ≤ B) : w.grownBy (((((((((((x.setCell ⟨B, 0, none⟩ v0).setCell ⟨B, 1, none⟩ v1).setCell ⟨B, 2, none⟩ v2).setCell ⟨B, 3, none⟩ v3).setCell ⟨B, 4, none⟩ v4).setCell ⟨B, 5, none⟩ v5).setCell ⟨B, 6, none⟩ v6).setCell ⟨B, 7, none⟩ v7).setCell ⟨B, 8, none⟩ v8).setCell ⟨B, 9, none⟩ v9).setCell ⟨B, 10, none⟩ v10) none :=
  own_sets hB [v0, v1, v2, v3, v4, v5, v6, v7, v8, v9, v10] 0 x h

theorem blk_at {w : World} {b : Nat} {o : Obj} (h : w.heap.size = b) : (w.alloc o).heap[b]? = some o := by
  subst h
  exact heap_alloc_new w o

theorem blk_grown {x y : World} {b : Nat} {o : Obj} (hg : x.grownBy y none) (h : x.heap[b]? = some o) : y.heap[b]? = some o :=
  (hg.block b (lt_of_block h) (fun e => by cases e)).trans h

theorem blk_set {x : World} {B b i : Nat} {v : Value} {o : Obj} (hne : b ≠ B) (h : x.heap[b]? = some o) : (x.setCell ⟨B, i, none⟩ v).heap[b]? = some o :=
  (heap_setCell_other x ⟨B, i, none⟩ b v hne).trans h

theorem Gd.box_heap {x : World} {B G gE gI : Nat} {seed fl : Int} (h : x.heap[B]? = some (.cells #[.int .i64 seed, .int .i64 0, .int .i64 fl, .int .i64 0, .slice (some ⟨G, 0, none⟩) 384 384, .slice (some ⟨gE, 0, none⟩) 32 32, .slice (some ⟨gI, 0, none⟩) 40 40, .int .i64 0, .int .i64 0, .int .i64 0, .int .i64 0] 29 (0, 0))) : Lie x B 29 11 (Gd.box (Gd.head seed fl) G gE gI 384 32 40 (fun _ => 0)) :=
  (Arr.world (s := Gd.head seed fl) (g := fun _ => 0) h).lie

theorem Gd.box_set {x : World} {B G gE gI : Nat} {seed fl : Int} {F : Nat → Value} (h : Lie x B 29 11 F) : Lie (((((((((((x.setCell ⟨B, 0, none⟩ (.int .i64 seed)).setCell ⟨B, 1, none⟩ (.int .i64 0)).setCell ⟨B, 2, none⟩ (.int .i64 fl)).setCell ⟨B, 3, none⟩ (.int .i64 0)).setCell ⟨B, 4, none⟩ (.slice (some ⟨G, 0, none⟩) 384 384)).setCell ⟨B, 5, none⟩ (.slice (some ⟨gE, 0, none⟩) 32 32)).setCell ⟨B, 6, none⟩ (.slice (some ⟨gI, 0, none⟩) 40 40)).setCell ⟨B, 7, none⟩ (.int .i64 0)).setCell ⟨B, 8, none⟩ (.int .i64 0)).setCell ⟨B, 9, none⟩ (.int .i64 0)).setCell ⟨B, 10, none⟩ (.int .i64 0)) B 29 11 (Gd.box (Gd.head seed fl) G gE gI 384 32 40 (fun _ => 0)) :=
  h.whole (Gd.head seed fl) (fun _ => 0) G gE gI 384 32 40

/-- What a law's world begins with. -/
structure Gd.Begun (w0 x : World) (B gC gE gI : Nat) (seed fl : Int) (c : Nat → Int) : Prop where
  hold : Gd.Hold x B gC gE gI 384 32 40 (Gd.head seed fl) (fun _ => 0) c (fun _ _ => 0) (fun _ _ => 0)
  lB : w0.heap.size ≤ B
  lC : w0.heap.size ≤ gC
  lE : w0.heap.size ≤ gE
  lI : w0.heap.size ≤ gI
  grown : w0.grownBy x none

theorem Gd.begun {w0 x : World} {B G gE gI : Nat} {seed fl : Int} {c : Nat → Int} {ZE ZI : Array Value} (hZE : ∀ w : World, Own (w.alloc (.cells ZE 50)) w.heap.size 32 (fun _ _ => 0)) (hZI : ∀ w : World, Lie (w.alloc (.cells ZI 38)) w.heap.size 38 160 (Gd.flat (fun _ _ => 0)))
    (hb : Lie x B 29 11 (Gd.box (Gd.head seed fl) G gE gI 384 32 40 (fun _ => 0))) (hE : x.heap[gE]? = some (.cells ZE 50 (0, 0))) (hI : x.heap[gI]? = some (.cells ZI 38 (0, 0))) (hA : Lie x G 5 384 (Byts c)) (hg : w0.grownBy x none) (lB : w0.heap.size ≤ B) (lC : w0.heap.size ≤ G) (lE : w0.heap.size ≤ gE) (lI : w0.heap.size ≤ gI) : Gd.Begun w0 x B G gE gI seed fl c := by
  have same : ∀ {y : World} {b : Nat} {T : TypeId} {Z : Array Value} {m : Nat} {F : Nat → Value}, y.heap[b]? = some (.cells Z T (0, 0)) → Lie (x.alloc (.cells Z T)) x.heap.size T m F → Lie y b T m F := by
    intro y b T Z m F h1 h2
    obtain ⟨M, K, ⟨cur, e1, e2, e3⟩, hm, hk⟩ := h2
    rw [heap_alloc_new] at e1
    simp only [Option.some.injEq, Obj.cells.injEq] at e1
    obtain ⟨rfl, _⟩ := e1
    exact ⟨M, K, ⟨_, h1, e2, e3⟩, hm, hk⟩
  have hE' := same hE ((hZE x).lie (m := 352) (by omega))
  have hI' := same hI (hZI x)
  exact ⟨⟨hb, ⟨hA, hE', hI'⟩, hb.type_ne hA (by decide), hb.type_ne hE' (by decide), hb.type_ne hI' (by decide), hA.type_ne hE' (by decide), hA.type_ne hI' (by decide), hE'.type_ne hI' (by decide)⟩, lB, lC, lE, lI, hg⟩

end Go.Proofs.Ythngbjmiblbohaa

namespace Go.Proofs.Ythngbjmiblbohaa
open Go.RowKit

theorem Gd.Boxed.put {w x : World} {B gC gE gI cC cE cI : Nat} {s g c : Nat → Int} {E I : Nat → Nat → Int} (h : Gd.Boxed w x B gC gE gI cC cE cI s g c E I) (m : Nat) (a b d e : Int) : Gd.Boxed w ((((x.setCell ⟨gI, m * 4, none⟩ (.int .i64 a)).setCell ⟨gI, m * 4 + 1, none⟩ (.int .i64 b)).setCell ⟨gI, m * 4 + 2, none⟩ (.int .i64 d)).setCell ⟨gI, m * 4 + 3, none⟩ (.int .i64 e)) B gC gE gI cC cE cI s g c E (En.put I m (Gd.row a b d e)) := by
  have h1 := h.lI
  have h2 := h.at_
  have r := grown_put4 (World.grownBy.refl x (some gI)) m (.int .i64 a) (.int .i64 b) (.int .i64 d) (.int .i64 e)
  exact { h with hold := h.hold.put m a b d e, res := h.res.grown r (by simp; omega), grown := grown_own h.grown r (fun n e => by cases e; omega) }

theorem Gd.Boxed.same {w x : World} {B gC gE gI cC cE cI : Nat} {s g c : Nat → Int} {E I J : Nat → Nat → Int} (h : Gd.Boxed w x B gC gE gI cC cE cI s g c E I) (he : ∀ i, i < 40 → J i = I i) : Gd.Boxed w x B gC gE gI cC cE cI s g c E J :=
  { h with hold := { h.hold with lists := { h.hold.lists with items := h.hold.lists.items.congr fun q hq => by unfold Gd.flat; rw [he (q / 4) (by omega)] } } }

/-- The first k rows swept. -/
def Gd.sweepTo (I : Nat → Nat → Int) (seat : Int) (k : Nat) : Nat → Nat → Int := fun i => if i < k then Gd.sweep I seat i else I i

theorem Gd.sweep_yes {I : Nat → Nat → Int} {seat : Int} {k : Nat} (h : (I k 1 = 2 ∨ I k 1 = 3) ∧ I k 2 = seat) : Gd.sweepTo I seat (k + 1) = En.put (Gd.sweepTo I seat k) k (Gd.row 0 0 0 0) := by
  funext i
  unfold Gd.sweepTo En.put
  by_cases e : i = k
  · rw [if_pos (by omega), if_pos e, e, Gd.row_gone]
    unfold Gd.sweep
    rw [if_pos h]
  · rw [if_neg e]
    show _ = if i < k then _ else _
    by_cases e2 : i < k
    · rw [if_pos (by omega), if_pos e2]
    · rw [if_neg (by omega), if_neg e2]

theorem Gd.sweep_no {I : Nat → Nat → Int} {seat : Int} {k : Nat} (h : ¬ ((I k 1 = 2 ∨ I k 1 = 3) ∧ I k 2 = seat)) : Gd.sweepTo I seat (k + 1) = Gd.sweepTo I seat k := by
  funext i
  unfold Gd.sweepTo
  by_cases e : i = k
  · rw [if_pos (by omega), if_neg (by omega), e]
    unfold Gd.sweep
    rw [if_neg h]
  · by_cases e2 : i < k
    · rw [if_pos (by omega), if_pos e2]
    · rw [if_neg (by omega), if_neg e2]

set_option maxHeartbeats 6400000 in
theorem sweep_any (s g c : Nat → Int) (E I : Nat → Nat → Int) (gC gE gI cC cE cI : Nat) (seat : Int) (w : World) (hL : Gd.Lists w gC gE gI c E I) :
    Calls Try.prog 17 #[.agg (Gd.world s gC gE gI cC cE cI g), .int .i64 seat] w (Gd.Worlds w s g c E (Gd.sweep I seat)) := by
  obtain ⟨w0, hw0, hbox, hres, hg0, hsz⟩ := Gd.boxes w gC gE gI cC cE cI s g
  have ca := apart_any s g c E I gC gE gI cC cE cI w0 (hL.on hg0)
  obtain ⟨b0, b1, b2, b3, b4, b5, b6, b7, b8, b9, b10⟩ := hbox.eleven
  have hbx := hide hbox
  have hrs := hide hres
  have hg0' := hide hg0
  have hsz' := hide hsz
  have ca' := hide ca
  have hfB := hbox.free
  clear hL ca hbox hres hg0 hsz
  unfold Gd.world at hw0 ca' ⊢
  go_enter Try.func17, Try.ntmps17
  go_upto_region 1 with fail
  rw [← hw0]
  clear hw0
  obtain ⟨B, hB⟩ : ∃ B, w.heap.size = B := ⟨_, rfl⟩
  rw [hB] at hbx hrs hsz' b0 b1 b2 b3 b4 b5 b6 b7 b8 b9 b10 ⊢
  have hB' := hide hB
  rw [hB] at hfB
  clear hB
  go_cut [] from 7 (fun wx => ∃ g1 g2 g3 c1 c2 c3, Hid (Gd.Boxed w wx B g1 g2 g3 c1 c2 c3 s g c E I))
  case first =>
    go_wp2_with fail
    refine (unhide ca').mono ?_
    rintro e w1 ⟨g1, g2, g3, c1, c2, c3, rfl, hcap, l1, l2, l3, n1, n2, n3, hL1, hg1⟩
    obtain ⟨y0, y1, y2, y3, y4, y5, y6, y7, y8, y9, y10⟩ := ((unhide hbx).on hg1).eleven
    have fB := ((unhide hbx).on hg1).free
    have fin : Hid (Gd.Boxed w (w1.setCells B 0 (Gd.world s g1 g2 g3 c1 c2 c3 g).toList) B g1 g2 g3 c1 c2 c3 s g c E I) := by
      have r := grown_sets (g := B) (Gd.world s g1 g2 g3 c1 c2 c3 g).toList 0 w1 (World.grownBy.refl _ _)
      have hB := unhide hB'
      have hs := unhide hsz'
      exact ⟨⟨((unhide hbx).on hg1).whole s g g1 g2 g3 c1 c2 c3, ⟨hL1.cells.grown r (by simp; omega), hL1.ents.grown r (by simp; omega), hL1.items.grown r (by simp; omega)⟩, by omega, by omega, by omega, n1, n2, n3⟩, hB, by omega, by omega, by omega, hcap, ((unhide hrs).on hg1).grown r (by simp), own_sets (by omega) _ 0 w1 (grown_trans (unhide hg0') hg1)⟩
    unfold Gd.world at fin ⊢
    clear hcap l1 l2 l3 n1 n2 n3 hL1 hg1 b0 b1 b2 b3 b4 b5 b6 b7 b8 b9 b10 hfB ca'
    go_wp2_with fail
    go_meet
    exact ⟨g1, g2, g3, c1, c2, c3, fin⟩
  case rest =>
    obtain ⟨g1, g2, g3, c1, c2, c3, hX⟩ := hcut
    clear b0 b1 b2 b3 b4 b5 b6 b7 b8 b9 b10 hfB ca' hbx hrs hg0' hsz' hB'
    clear w0
    have q6 := (unhide hX).hold.box.eleven.2.2.2.2.2.2.1
    go_wp2_with fail
    go_loopw [12] (fun i wr => ∃ k : Nat, k ≤ 40 ∧ i = .int .i64 (k : Int) ∧ Hid (Gd.Boxed w wr B g1 g2 g3 c1 c2 c3 s g c E (Gd.sweepTo I seat k))) (fun i _ => 200 - (intOf i).toNat)
    case atStart => exact ⟨0, by omega, rfl, (unhide hX).same (fun i _ => if_neg (by omega))⟩
    case round =>
      clear q6 hX
      obtain ⟨k, hk, rfl, hB⟩ := hrel
      by_cases hlt : k < 40
      · have hlt' : (k : Int) < 40 := by omega
        have hrow := (unhide hB).hold.lists.its.row hlt
        rw [show Gd.sweepTo I seat k k = I k from if_neg (by omega)] at hrow
        obtain ⟨u0, u1, u2, u3⟩ := hrow
        have HL := hide hlt
        have hnx := hide (fun (o : Obj) => (unhide hB).on (World.grownBy_alloc wr o none))
        have q6 := (unhide hB).hold.box.eleven.2.2.2.2.2.2.1
        have fI := (unhide hB).hold.lists.items.free
        have lI := (unhide hB).hold.lists.items.lt
        have lB := (unhide hB).hold.box.lt
        by_cases hc : (I k 1 = 2 ∨ I k 1 = 3) ∧ I k 2 = seat
        · have he := hide (Gd.sweep_yes hc)
          obtain ⟨hc1, hc2⟩ := hc
          rcases hc1 with hc1 | hc1
          all_goals
            go_wp2
            go_roundw
            case rel => exact ⟨k + 1, by have := unhide HL; omega, by go_num, by
              show Gd.Boxed _ _ _ _ _ _ _ _ _ _ _ _ _ _
              rw [unhide he]
              exact ((unhide hB).put k 0 0 0 0).on (World.grownBy_alloc _ _ _)⟩
            case measure => simp [intOf]; omega
        · have he := hide (Gd.sweep_no hc)
          by_cases hc2 : I k 2 = seat
          · have n1 : ¬ I k 1 = 2 := fun h => hc ⟨.inl h, hc2⟩
            have n2 : ¬ I k 1 = 3 := fun h => hc ⟨.inr h, hc2⟩
            have m1 : (I k 1 == 2) = false := by simp [n1]
            have m2 : (I k 1 == 3) = false := by simp [n2]
            clear hc
            go_wp2
            go_roundw
            case rel => exact ⟨k + 1, by have := unhide HL; omega, by go_num, by
              show Gd.Boxed _ _ _ _ _ _ _ _ _ _ _ _ _ _
              rw [unhide he]
              exact unhide hnx _⟩
            case measure => simp [intOf]; omega
          · have m2 : (I k 2 == seat) = false := by simp [hc2]
            clear hc
            go_wp2
            go_roundw
            case rel => exact ⟨k + 1, by have := unhide HL; omega, by go_num, by
              show Gd.Boxed _ _ _ _ _ _ _ _ _ _ _ _ _ _
              rw [unhide he]
              exact unhide hnx _⟩
            case measure => simp [intOf]; omega
      · have hge : ¬ (k : Int) < 40 := by omega
        have hBf := (unhide hB).same (J := Gd.sweep I seat) (fun i hi => by show _ = if i < k then _ else _; rw [if_pos (by omega)])
        clear hB
        have hbx := hide hBf
        obtain ⟨b0, b1, b2, b3, b4, b5, b6, b7, b8, b9, b10⟩ := (unhide hbx).hold.box.eleven
        have fz := (unhide hbx).res.free
        obtain ⟨z0, z1, z2, z3, z4, z5, z6, z7, z8, z9, z10⟩ := Gd.res_cells (unhide hbx).res
        have hfin := hide (fun vs => (unhide hbx).worlds vs)
        go_wp2
        refine bodyPost_ret (v := .agg (Gd.world s g1 g2 g3 c1 c2 c3 g)) (by simp [results, Try.results17, go_sem, Gd.world, z0, z1, z2, z3, z4, z5, z6, z7, z8, z9, z10]) rfl ?_
        exact unhide hfin [_, _, _, _, _, _, _, _, _, _, _]

end Go.Proofs.Ythngbjmiblbohaa

namespace Go.Proofs.Ythngbjmiblbohaa
open Go.RowKit

theorem Lie.of_append {w : World} {base n z : Nat} {T : TypeId} {v : Value} {F : Nat → Value} (h : w.ownsRow base T z v n (Gd.list (n * z) F)) (hv : v ≠ .slice none 0 0) : ∃ g cap, v = .slice (some ⟨g, 0, none⟩) n cap ∧ base ≤ g ∧ n ≤ cap ∧ Lie w g T (n * z) F := by
  rcases h.2 with ⟨h', _⟩ | ⟨g, cap, cur, rfl, hb, hg, hnc, hcm, hcs, htake⟩
  · exact absurd h' hv
  · refine ⟨g, cap, rfl, hb, hnc, cur.size, fun j => cur[j]?.getD undef, Arr.lit hg, by rw [hcs]; exact Nat.mul_le_mul_right z hnc, fun c hc => ?_⟩
    have e := Gd.list_at (F := F) hc
    rw [← htake, List.getElem?_take, if_pos hc, Array.getElem?_toList] at e
    show cur[c]?.getD undef = _
    rw [e]
    rfl

theorem Lie.type7 {x : World} {B G : Nat} {T U : TypeId} {m n : Nat} {F K : Nat → Value} (h1 : Lie x B T m F) (h2 : Lie x G U n K) (h : T ≠ U) : B ≠ G := by
  rintro rfl
  obtain ⟨_, _, ⟨c1, e1, _⟩, _⟩ := h1
  obtain ⟨_, _, ⟨c2, e2, _⟩, _⟩ := h2
  rw [e1] at e2
  simp only [Option.some.injEq, Obj.cells.injEq] at e2
  exact h e2.2.1

/-- A box with some lists, and the place of what is answered. -/
structure Gd.Part (w x : World) (B gC gE gI cC cE cI : Nat) (s g : Nat → Int) : Prop where
  box : Lie x B 29 11 (Gd.box s gC gE gI cC cE cI g)
  res : Lie x (B + 1) 29 11 (fun j => #[.int .i64 0, .int .i64 0, .int .i64 0, .int .i64 0, .slice none 0 0, .slice none 0 0, .slice none 0 0, .int .i64 0, .int .i64 0, .int .i64 0, Value.int .i64 0][j]?.getD undef)
  at_ : w.heap.size = B
  two : B + 2 ≤ x.heap.size
  grown : w.grownBy x none

theorem Gd.Part.on {w x y : World} {B gC gE gI cC cE cI : Nat} {s g : Nat → Int} (h : Gd.Part w x B gC gE gI cC cE cI s g) (hg : x.grownBy y none) : Gd.Part w y B gC gE gI cC cE cI s g :=
  ⟨h.box.on hg, h.res.on hg, h.at_, Nat.le_trans h.two hg.size, grown_trans h.grown hg⟩

theorem Gd.Part.set {w x : World} {B gC gE gI cC cE cI : Nat} {s g : Nat → Int} (h : Gd.Part w x B gC gE gI cC cE cI s g) (i : Nat) (v : Value) (gC' gE' gI' cC' cE' cI' : Nat) (he : ∀ j, j < 11 → (if j = i then v else Gd.box s gC gE gI cC cE cI g j) = Gd.box s gC' gE' gI' cC' cE' cI' g j) : Gd.Part w (x.setCell ⟨B, i, none⟩ v) B gC' gE' gI' cC' cE' cI' s g := by
  have hB := h.at_
  have r := grown_set0 x B i v
  exact ⟨(h.box.store i v).congr he, h.res.grown r (by simp), h.at_, by simpa using h.two, grown_store h.grown ⟨B, i, none⟩ (by show w.heap.size ≤ B; omega) v⟩

theorem Gd.box_4 (s g : Nat → Int) (gC gE gI cC cE cI g1 c1 : Nat) : ∀ j, j < 11 → (if j = 4 then Value.slice (some ⟨g1, 0, none⟩) 384 c1 else Gd.box s gC gE gI cC cE cI g j) = Gd.box s g1 gE gI c1 cE cI g j := by
  intro j hj
  rcases (show j = 0 ∨ j = 1 ∨ j = 2 ∨ j = 3 ∨ j = 4 ∨ j = 5 ∨ j = 6 ∨ j = 7 ∨ j = 8 ∨ j = 9 ∨ j = 10 by omega) with rfl | rfl | rfl | rfl | rfl | rfl | rfl | rfl | rfl | rfl | rfl <;> rfl

theorem Gd.box_5 (s g : Nat → Int) (gC gE gI cC cE cI g1 c1 : Nat) : ∀ j, j < 11 → (if j = 5 then Value.slice (some ⟨g1, 0, none⟩) 32 c1 else Gd.box s gC gE gI cC cE cI g j) = Gd.box s gC g1 gI cC c1 cI g j := by
  intro j hj
  rcases (show j = 0 ∨ j = 1 ∨ j = 2 ∨ j = 3 ∨ j = 4 ∨ j = 5 ∨ j = 6 ∨ j = 7 ∨ j = 8 ∨ j = 9 ∨ j = 10 by omega) with rfl | rfl | rfl | rfl | rfl | rfl | rfl | rfl | rfl | rfl | rfl <;> rfl

theorem Gd.box_6 (s g : Nat → Int) (gC gE gI cC cE cI g1 c1 : Nat) : ∀ j, j < 11 → (if j = 6 then Value.slice (some ⟨g1, 0, none⟩) 40 c1 else Gd.box s gC gE gI cC cE cI g j) = Gd.box s gC gE g1 cC cE c1 g j := by
  intro j hj
  rcases (show j = 0 ∨ j = 1 ∨ j = 2 ∨ j = 3 ∨ j = 4 ∨ j = 5 ∨ j = 6 ∨ j = 7 ∨ j = 8 ∨ j = 9 ∨ j = 10 by omega) with rfl | rfl | rfl | rfl | rfl | rfl | rfl | rfl | rfl | rfl | rfl <;> rfl

set_option maxHeartbeats 6400000 in
theorem refTwin_any (s g c : Nat → Int) (E I : Nat → Nat → Int) (gC gE gI cC cE cI : Nat) (w : World) (hL : Gd.Lists w gC gE gI c E I) :
    Calls Try.prog 12 #[.agg (Gd.world s gC gE gI cC cE cI g)] w (Gd.Worlds w s g c E I) := by
  obtain ⟨w0, hw0, hbox, hres, hg0, hsz⟩ := Gd.boxes w gC gE gI cC cE cI s g
  obtain ⟨B, hB⟩ : ∃ B, w.heap.size = B := ⟨_, rfl⟩
  rw [hB] at hbox hres hsz
  have hP0 : Hid (Gd.Part w w0 B gC gE gI cC cE cI s g) := ⟨hbox, hres, hB, by omega, hg0⟩
  have hL' := hide hL
  have lC := hide hL.cells.lt
  have lE := hide hL.ents.lt
  have lI := hide hL.items.lt
  obtain ⟨iB, hiB, hzB0, hzB1, hzB2⟩ := info_parts info_byte
  obtain ⟨iE, hiE, hzE0, hzE1, hzE2⟩ := info_parts info_ent
  obtain ⟨iI, hiI, hzI0, hzI1, hzI2⟩ := info_parts info_item
  have hB' := hide hB
  clear hL hbox hres hg0 hsz
  unfold Gd.world at hw0 ⊢
  clear hB
  go_enter Try.func12, Try.ntmps12
  go_upto_region 1 with fail
  rw [← hw0, unhide hB']
  clear hw0
  have q4 := (unhide hP0).box.eleven.2.2.2.2.1
  have fB := (unhide hP0).box.free
  have lB := (unhide hP0).box.lt
  go_upto_region 1 with fail
  go_cut [] from 3 (fun wx => ∃ g1 c1, Hid (Gd.Part w wx B g1 gE gI c1 cE cI s g) ∧ Hid (Lie wx g1 5 384 (Byts c) ∧ B + 2 ≤ g1))
  case first =>
    go_wp2_with (at_builtin; refine wpList_append_own _ rfl _ _ 25 rfl w0.heap.size 5 iB (.int .u8 0) 1 1 Try.underlying25 hiB hzB0 hzB1 hzB2 rfl (by decide) _ 0 [] rfl (World.ownsRow_made _ _ _ (Nat.le_refl _) (by decide) (by simp)) ⟨gC, 0, none⟩ 384 cC (Gd.list 384 (Byts c)) rfl (Gd.list_len _ _) (Gd.list_src fun q hq => (grown_cell (grown_trans (unhide hP0).grown (World.grownBy_alloc _ _ _)) gC q (unhide lC) (by simp)).trans ((unhide hL').read.1 q hq)) (Gd.list_one fun _ => rfl) ?c4 ?c5 ?c6 ?_)
    case c4 => unfold maxLen; omega
    case c5 => omega
    case c6 => simp
    intro v' w1 hown hgrow hnil
    obtain ⟨g9, c9, rfl, hlo, hnc, hlie⟩ := Lie.of_append (n := 384) (z := 1) (F := (Byts c)) hown (by simpa using hnil)
    have hg9 := grown_own (World.grownBy_alloc w0 _ none) hgrow (fun k e => by cases e; exact Nat.le_refl _)
    have hP9 := hide ((unhide hP0).on hg9)
    have y4 := (unhide hP9).box.eleven.2.2.2.2.1
    have fB9 := (unhide hP9).box.free
    have hl9 := hide hlie
    have hlo9 := hide hlo
    have hnc9 := hide hnc
    have hg9' := hide hg9
    clear hown hgrow hnil hlie hlo hnc hg9 q4 fB lB
    go_wp2_with fail
    go_meet
    have htw := (unhide hP0).two
    have hlo := unhide hlo9
    exact ⟨g9, c9, (unhide hP9).set 4 _ _ _ _ _ _ _ (Gd.box_4 s g gC gE gI cC cE cI g9 c9), (unhide hl9).other (by omega) _ _, by omega⟩
  case rest =>
    obtain ⟨g1, c1, hP1, hL1⟩ := hcut
    clear q4 fB lB hP0
    have q5 := (unhide hP1).box.eleven.2.2.2.2.2.1
    have fB := (unhide hP1).box.free
    have lB := (unhide hP1).box.lt
    go_upto_region 2 with fail
    go_cut [] from 8 (fun wx => ∃ g2 c2, Hid (Gd.Part w wx B g1 g2 gI c1 c2 cI s g) ∧ Hid (Lie wx g1 5 384 (Byts c) ∧ B + 2 ≤ g1 ∧ Lie wx g2 50 352 (En.flat E) ∧ B + 2 ≤ g2 ∧ 32 ≤ c2))
    case first =>
      go_wp2_with (at_builtin; refine wpList_append_own _ rfl _ _ 26 rfl wc.heap.size 50 iE (.agg #[.int .i64 0, .int .i64 0, .int .i64 0, .int .i64 0, .int .i64 0, .int .i64 0, .int .i64 0, .int .i64 0, .int .i64 0, .int .i64 0, .int .i64 0]) 11 88 Try.underlying26 hiE hzE0 hzE1 hzE2 rfl (by decide) _ 0 [] rfl (World.ownsRow_made _ _ _ (Nat.le_refl _) (by decide) (by simp)) ⟨gE, 0, none⟩ 32 cE (Gd.list 352 (En.flat E)) rfl (Gd.list_len _ _) (Gd.list_src fun q hq => (grown_cell (grown_trans (unhide hP1).grown (World.grownBy_alloc _ _ _)) gE q (unhide lE) (by simp)).trans ((unhide hL').read.2.1 q hq)) (Gd.list_one fun _ => rfl) ?c4 ?c5 ?c6 ?_)
      case c4 => unfold maxLen; omega
      case c5 => omega
      case c6 => simp
      intro v' w1 hown hgrow hnil
      obtain ⟨g9, c9, rfl, hlo, hnc, hlie⟩ := Lie.of_append (n := 32) (z := 11) (F := (En.flat E)) hown (by simpa using hnil)
      have hg9 := grown_own (World.grownBy_alloc wc _ none) hgrow (fun k e => by cases e; exact Nat.le_refl _)
      have hP9 := hide ((unhide hP1).on hg9)
      have y5 := (unhide hP9).box.eleven.2.2.2.2.2.1
      have fB9 := (unhide hP9).box.free
      have hl9 := hide hlie
      have hlo9 := hide hlo
      have hnc9 := hide hnc
      have hg9' := hide hg9
      clear hown hgrow hnil hlie hlo hnc hg9 q5 fB lB
      go_wp2_with fail
      go_meet
      have htw := (unhide hP1).two
      have hlo := unhide hlo9
      obtain ⟨k1, k2⟩ := unhide hL1
      exact ⟨g9, c9, (unhide hP9).set 5 _ _ _ _ _ _ _ (Gd.box_5 s g g1 gE gI c1 cE cI g9 c9), (k1.on (unhide hg9')).other (by omega) _ _, k2, (unhide hl9).other (by omega) _ _, by omega, unhide hnc9⟩
    case rest =>
      obtain ⟨g2, c2, hP2, hL2⟩ := hcut
      clear q5 fB lB hP1 hL1
      have q6 := (unhide hP2).box.eleven.2.2.2.2.2.2.1
      have fB := (unhide hP2).box.free
      have lB := (unhide hP2).box.lt
      go_upto_region 3 with fail
      go_cut [] from 13 (fun wx => ∃ g3 c3, Hid (Gd.Boxed w wx B g1 g2 g3 c1 c2 c3 s g c E I))
      case first =>
        go_wp2_with (at_builtin; refine wpList_append_own _ rfl _ _ 22 rfl wc.heap.size 38 iI (.agg #[.int .i64 0, .int .i64 0, .int .i64 0, .int .i64 0]) 4 32 Try.underlying22 hiI hzI0 hzI1 hzI2 rfl (by decide) _ 0 [] rfl (World.ownsRow_made _ _ _ (Nat.le_refl _) (by decide) (by simp)) ⟨gI, 0, none⟩ 40 cI (Gd.list 160 (Gd.flat I)) rfl (Gd.list_len _ _) (Gd.list_src fun q hq => (grown_cell (grown_trans (unhide hP2).grown (World.grownBy_alloc _ _ _)) gI q (unhide lI) (by simp)).trans ((unhide hL').read.2.2 q hq)) (Gd.list_one fun _ => rfl) ?c4 ?c5 ?c6 ?_)
        case c4 => unfold maxLen; omega
        case c5 => omega
        case c6 => simp
        intro v' w1 hown hgrow hnil
        obtain ⟨g9, c9, rfl, hlo, hnc, hlie⟩ := Lie.of_append (n := 40) (z := 4) (F := (Gd.flat I)) hown (by simpa using hnil)
        have hg9 := grown_own (World.grownBy_alloc wc _ none) hgrow (fun k e => by cases e; exact Nat.le_refl _)
        have hP9 := hide ((unhide hP2).on hg9)
        have y6 := (unhide hP9).box.eleven.2.2.2.2.2.2.1
        have fB9 := (unhide hP9).box.free
        have hl9 := hide hlie
        have hlo9 := hide hlo
        have hnc9 := hide hnc
        have hg9' := hide hg9
        clear hown hgrow hnil hlie hlo hnc hg9 q6 fB lB
        go_wp2_with fail
        go_meet
        have htw := (unhide hP2).two
        have hlo := unhide hlo9
        obtain ⟨k1, k2, k3, k4, k5⟩ := unhide hL2
        have hPz := (unhide hP9).set 6 _ _ _ _ _ _ _ (Gd.box_6 s g g1 g2 gI c1 c2 cI g9 c9)
        have m1 := (k1.on (unhide hg9')).other (p := B) (by omega) 6 (.slice (some ⟨g9, 0, none⟩) 40 c9)
        have m2 := (k3.on (unhide hg9')).other (p := B) (by omega) 6 (.slice (some ⟨g9, 0, none⟩) 40 c9)
        have m3 := (unhide hl9).other (p := B) (by omega) 6 (.slice (some ⟨g9, 0, none⟩) 40 c9)
        exact ⟨g9, c9, ⟨hPz.box, ⟨m1, m2, m3⟩, by omega, by omega, by omega, m1.type7 m2 (by decide), m1.type7 m3 (by decide), m2.type7 m3 (by decide)⟩, hPz.at_, k2, k4, by omega, k5, hPz.res, hPz.grown⟩
      case rest =>
        obtain ⟨g3, c3, hX⟩ := hcut
        clear q6 fB lB hP2 hL2
        obtain ⟨b0, b1, b2, b3, b4, b5, b6, b7, b8, b9, b10⟩ := (unhide hX).hold.box.eleven
        have fz := (unhide hX).res.free
        obtain ⟨z0, z1, z2, z3, z4, z5, z6, z7, z8, z9, z10⟩ := Gd.res_cells (unhide hX).res
        have hfin := hide (fun vs => (unhide hX).worlds vs)
        go_wp2
        refine bodyPost_ret (v := .agg (Gd.world s g1 g2 g3 c1 c2 c3 g)) (by simp [results, Try.results12, go_sem, Gd.world, z0, z1, z2, z3, z4, z5, z6, z7, z8, z9, z10]) rfl ?_
        exact unhide hfin [_, _, _, _, _, _, _, _, _, _, _]

end Go.Proofs.Ythngbjmiblbohaa

namespace Go.Proofs.Ythngbjmiblbohaa
open Go.RowKit

def Gd.goneQ (J : Nat → Nat → Int) : Nat → Bool := fun i => Gd.zeroB (J i 0) (J i 1) (J i 2) (J i 3)

/-- The first m items laid, one behind the other, each into the lowest row that is gone. -/
def Gd.lay (I M : Nat → Nat → Int) : Nat → Nat → Nat → Int
  | 0 => I
  | m + 1 => if 0 ≤ En.first (Gd.goneQ (Gd.lay I M m)) 40 then En.put (Gd.lay I M m) (En.first (Gd.goneQ (Gd.lay I M m)) 40).toNat (Gd.row (M m 0) (M m 1) (M m 2) (M m 3)) else Gd.lay I M m

theorem Gd.lay_none {I M : Nat → Nat → Int} {m : Nat} (h : ∀ j, j < 40 → Gd.goneQ (Gd.lay I M m) j = false) : Gd.lay I M (m + 1) = Gd.lay I M m := by
  show (if _ then _ else _) = _
  rw [En.first_none h, if_neg (by omega)]

theorem Gd.lay_some {I M : Nat → Nat → Int} {m r : Nat} (hno : ∀ j, j < r → Gd.goneQ (Gd.lay I M m) j = false) (hr : Gd.goneQ (Gd.lay I M m) r = true) (h40 : r < 40) : Gd.lay I M (m + 1) = En.put (Gd.lay I M m) r (Gd.row (M m 0) (M m 1) (M m 2) (M m 3)) := by
  show (if _ then _ else _) = _
  rw [En.first_hit hno hr h40, if_pos (by omega), Int.toNat_natCast]

theorem Gd.lay_stuck {I M : Nat → Nat → Int} {m : Nat} (h : ∀ j, j < 40 → Gd.goneQ (Gd.lay I M m) j = false) : ∀ d, Gd.lay I M (m + d) = Gd.lay I M m
  | 0 => rfl
  | d + 1 => by
      have ih := Gd.lay_stuck h d
      have h' : ∀ j, j < 40 → Gd.goneQ (Gd.lay I M (m + d)) j = false := by rw [ih]; exact h
      rw [← Nat.add_assoc, Gd.lay_none h', ih]

/-- Items that came in: none, or a list at some place of a block. -/
def Gd.Some (w : World) (a : Option Addr) (n : Nat) (M : Nat → Nat → Int) : Prop := n ≤ 100 ∧ (n = 0 ∨ ∃ b o, a = some ⟨b, o, none⟩ ∧ Its w b o n M)

theorem Gd.Some.on {w w' : World} {a : Option Addr} {n : Nat} {M : Nat → Nat → Int} (h : Gd.Some w a n M) (hg : w.grownBy w' none) : Gd.Some w' a n M := by
  obtain ⟨h1, h0 | ⟨b, o, h2, h3⟩⟩ := h
  · exact ⟨h1, .inl h0⟩
  · exact ⟨h1, .inr ⟨b, o, h2, h3.on hg⟩⟩

theorem Gd.Some.row {w : World} {a : Option Addr} {n : Nat} {M : Nat → Nat → Int} (h : Gd.Some w a n M) {k : Nat} (hk : k < n) : ∃ b o, a = some ⟨b, o, none⟩ ∧ b < w.heap.size ∧ w.cell? ⟨b, o + k * 4, none⟩ = some (.int .i64 (M k 0)) ∧ w.cell? ⟨b, o + k * 4 + 1, none⟩ = some (.int .i64 (M k 1)) ∧ w.cell? ⟨b, o + k * 4 + 2, none⟩ = some (.int .i64 (M k 2)) ∧ w.cell? ⟨b, o + k * 4 + 3, none⟩ = some (.int .i64 (M k 3)) := by
  obtain ⟨_, h0 | ⟨b, o, h2, h3⟩⟩ := h
  · omega
  · exact ⟨b, o, h2, h3.2.1, h3.2.2 k 0 hk (by omega), h3.2.2 k 1 hk (by omega), h3.2.2 k 2 hk (by omega), h3.2.2 k 3 hk (by omega)⟩

/-- A call hands back a list of 40 items of its own. -/
def Gd.Gives40 (w : World) (J : Nat → Nat → Int) (e : Ending) (w' : World) : Prop :=
  ∃ g cap, e = .returned (.slice (some ⟨g, 0, none⟩) 40 cap) ∧ w.heap.size ≤ g ∧ Lie w' g 38 160 (Gd.flat J) ∧ w.grownBy w' none

end Go.Proofs.Ythngbjmiblbohaa

namespace Go.Proofs.Ythngbjmiblbohaa
open Go.RowKit

/-- The place of what is answered, a box, and the lists, in new blocks. -/
structure Gd.Laid (w x : World) (R B gC gE gI : Nat) (s g c : Nat → Int) (E I : Nat → Nat → Int) : Prop where
  hold : Gd.Hold x B gC gE gI 384 32 40 s g c E I
  at_ : w.heap.size = R
  lB : R < B
  lC : R < gC
  lE : R < gE
  lI : R < gI
  res : Lie x R 29 11 (fun j => #[.int .i64 0, .int .i64 0, .int .i64 0, .int .i64 0, .slice none 0 0, .slice none 0 0, .slice none 0 0, .int .i64 0, .int .i64 0, .int .i64 0, Value.int .i64 0][j]?.getD undef)
  grown : w.grownBy x none

theorem Gd.Laid.on {w x y : World} {R B gC gE gI : Nat} {s g c : Nat → Int} {E I : Nat → Nat → Int} (h : Gd.Laid w x R B gC gE gI s g c E I) (hg : x.grownBy y none) : Gd.Laid w y R B gC gE gI s g c E I :=
  { h with hold := h.hold.on hg, res := h.res.on hg, grown := grown_trans h.grown hg }

theorem Gd.Laid.put {w x : World} {R B gC gE gI : Nat} {s g c : Nat → Int} {E I : Nat → Nat → Int} (h : Gd.Laid w x R B gC gE gI s g c E I) (m : Nat) (a b d e : Int) : Gd.Laid w ((((x.setCell ⟨gI, m * 4, none⟩ (.int .i64 a)).setCell ⟨gI, m * 4 + 1, none⟩ (.int .i64 b)).setCell ⟨gI, m * 4 + 2, none⟩ (.int .i64 d)).setCell ⟨gI, m * 4 + 3, none⟩ (.int .i64 e)) R B gC gE gI s g c E (En.put I m (Gd.row a b d e)) := by
  have h1 := h.lI
  have h2 := h.at_
  have r := grown_put4 (World.grownBy.refl x (some gI)) m (.int .i64 a) (.int .i64 b) (.int .i64 d) (.int .i64 e)
  exact { h with hold := h.hold.put m a b d e, res := h.res.grown r (by simp; omega), grown := grown_own h.grown r (fun n e => by cases e; omega) }

/-- What is answered: the box's eleven cells, laid into the place for it. -/
theorem Gd.Laid.worlds {w x : World} {R B gC gE gI : Nat} {s g c : Nat → Int} {E I : Nat → Nat → Int} (h : Gd.Laid w x R B gC gE gI s g c E I) (vs : List Value) : Gd.Worlds w s g c E I (.returned (.agg (Gd.world s gC gE gI 384 32 40 g))) (x.setCells R 0 vs) := by
  have hB := h.at_
  have lC := h.lC
  have lE := h.lE
  have lI := h.lI
  have r := grown_sets (g := R) vs 0 x (World.grownBy.refl _ _)
  exact ⟨gC, gE, gI, 384, 32, 40, rfl, by omega, by omega, by omega, by omega, h.hold.cE, h.hold.cI, h.hold.eI, ⟨h.hold.lists.cells.grown r (by simp; omega), h.hold.lists.ents.grown r (by simp; omega), h.hold.lists.items.grown r (by simp; omega)⟩, own_sets (by omega) vs 0 x h.grown⟩

/-- The open cells, as the law has listed them. -/
structure Gd.Open (x : World) (ob oo L : Nat) (O : Nat → Nat) (B gE gI : Nat) : Prop where
  cell : ∀ i, i < L → x.cell? ⟨ob, oo + i, none⟩ = some (.int .i64 (O i : Int))
  lt : ob < x.heap.size
  nB : ob ≠ B
  nE : ob ≠ gE
  nI : ob ≠ gI

theorem Gd.Open.grown {x y : World} {ob oo L : Nat} {O : Nat → Nat} {B gE gI : Nat} {r : Option Nat} (h : Gd.Open x ob oo L O B gE gI) (hg : x.grownBy y r) (hr : r ≠ some ob) : Gd.Open y ob oo L O B gE gI :=
  { h with cell := fun i hi => (grown_cell hg ob _ h.lt hr).trans (h.cell i hi), lt := Nat.lt_of_lt_of_le h.lt hg.size }

theorem Gd.Open.on {x y : World} {ob oo L : Nat} {O : Nat → Nat} {B gE gI : Nat} (h : Gd.Open x ob oo L O B gE gI) (hg : x.grownBy y none) : Gd.Open y ob oo L O B gE gI := h.grown hg (by simp)

theorem Gd.Open.put {x : World} {ob oo L : Nat} {O : Nat → Nat} {B gE gI : Nat} (h : Gd.Open x ob oo L O B gE gI) (m : Nat) (a b d e : Value) : Gd.Open ((((x.setCell ⟨gI, m * 4, none⟩ a).setCell ⟨gI, m * 4 + 1, none⟩ b).setCell ⟨gI, m * 4 + 2, none⟩ d).setCell ⟨gI, m * 4 + 3, none⟩ e) ob oo L O B gE gI :=
  h.grown (grown_put4 (World.grownBy.refl x (some gI)) m a b d e) (by simpa using h.nI.symm)

/-- One item in a block of its own. -/
theorem item_cells {x : World} {X : Nat} {T : TypeId} {a b d e : Int} (h : Lie x X T 4 (Ints (Gd.row a b d e))) : x.cell? ⟨X, 0, none⟩ = some (.int .i64 a) ∧ x.cell? ⟨X, 1, none⟩ = some (.int .i64 b) ∧ x.cell? ⟨X, 2, none⟩ = some (.int .i64 d) ∧ x.cell? ⟨X, 3, none⟩ = some (.int .i64 e) :=
  ⟨h.cell (by omega), h.cell (by omega), h.cell (by omega), h.cell (by omega)⟩

theorem item_new {x : World} {X : Nat} {T : TypeId} {a b d e : Int} (h : x.heap[X]? = some (.cells #[.int .i64 a, .int .i64 b, .int .i64 d, .int .i64 e] T (0, 0))) : Lie x X T 4 (Ints (Gd.row a b d e)) :=
  Lie.congr (m := 4) (Arr.lit h).lie fun j hj => by
    rcases (show j = 0 ∨ j = 1 ∨ j = 2 ∨ j = 3 by omega) with rfl | rfl | rfl | rfl <;> rfl

theorem item_k {x : World} {X : Nat} {T : TypeId} {a b d e a' : Int} (h : Lie x X T 4 (Ints (Gd.row a b d e))) : Lie (x.setCell ⟨X, 0, none⟩ (.int .i64 a')) X T 4 (Ints (Gd.row a' b d e)) :=
  (h.store 0 _).congr fun j hj => by
    rcases (show j = 0 ∨ j = 1 ∨ j = 2 ∨ j = 3 by omega) with rfl | rfl | rfl | rfl <;> rfl

theorem item_a {x : World} {X : Nat} {T : TypeId} {a b d e a' : Int} (h : Lie x X T 4 (Ints (Gd.row a b d e))) : Lie (x.setCell ⟨X, 2, none⟩ (.int .i64 a')) X T 4 (Ints (Gd.row a b a' e)) :=
  (h.store 2 _).congr fun j hj => by
    rcases (show j = 0 ∨ j = 1 ∨ j = 2 ∨ j = 3 by omega) with rfl | rfl | rfl | rfl <;> rfl

theorem item_b {x : World} {X : Nat} {T : TypeId} {a b d e a' : Int} (h : Lie x X T 4 (Ints (Gd.row a b d e))) : Lie (x.setCell ⟨X, 3, none⟩ (.int .i64 a')) X T 4 (Ints (Gd.row a b d a')) :=
  (h.store 3 _).congr fun j hj => by
    rcases (show j = 0 ∨ j = 1 ∨ j = 2 ∨ j = 3 by omega) with rfl | rfl | rfl | rfl <;> rfl

/-- An item as the law tells it, ahead of the last mend. -/
def Gd.Fit (c : Nat → Int) (kd wh a b : Int) : Prop := 1 ≤ kd ∧ kd ≤ 4 ∧
  ((wh = 1 ∧ Gr.inB a b = true ∧ Gr.walkB (Gr.at 384 c a b) = true) ∨ (wh = 2 ∧ 0 ≤ a ∧ a < 4 ∧ 0 ≤ b ∧ b < 4) ∨ (wh = 3 ∧ 0 ≤ a ∧ a < 4 ∧ (kd = 2 ∧ b = 0 ∨ kd = 3 ∧ b = 1)) ∨ (wh = 4 ∧ 0 ≤ a ∧ a < 3 ∧ b = 0))

theorem Gd.Fit.placed {c : Nat → Int} {kd wh a b : Int} (h : Gd.Fit c kd wh a b) (hk : kd = 4 → wh = 1) : Gd.Placed c (Gd.row kd wh a b) := by
  obtain ⟨h1, h2, h3⟩ := h
  refine ⟨h1, h2, ?_⟩
  show (wh = 1 ∧ _) ∨ (wh = 2 ∧ _) ∨ (wh = 3 ∧ _) ∨ (wh = 4 ∧ _)
  rcases h3 with h3 | h3 | h3 | h3
  · exact .inl h3
  · refine .inr (.inl ⟨h3.1, h3.2.1, h3.2.2.1, h3.2.2.2.1, h3.2.2.2.2, fun e => ?_⟩)
    have := hk e
    omega
  · exact .inr (.inr (.inl h3))
  · refine .inr (.inr (.inr ⟨h3.1, h3.2.1, h3.2.2.1, h3.2.2.2, fun e => ?_⟩))
    have := hk e
    omega

theorem Gd.Fit.mend {c : Nat → Int} {wh a b : Int} (h : Gd.Fit c 4 wh a b) (hw : wh ≠ 1) : Gd.Placed c (Gd.row 1 wh a b) := by
  obtain ⟨h1, h2, h3⟩ := h
  refine Gd.Fit.placed ⟨by omega, by omega, ?_⟩ (by omega)
  rcases h3 with h3 | h3 | h3 | h3
  · omega
  · exact .inr (.inl h3)
  · omega
  · exact .inr (.inr (.inr h3))

theorem Gd.fit_cell {c : Nat → Int} {kd : Int} {q : Nat} (h1 : 1 ≤ kd) (h2 : kd ≤ 4) (hq : q < 384) (hw : Gr.walkB (c q) = true) : Gd.Fit c kd 1 ((q : Int) % 24) ((q : Int) / 24) :=
  ⟨h1, h2, .inl ⟨rfl, by unfold Gr.inB; exact decide_eq_true ⟨by omega, by omega, by omega, by omega⟩, by rw [Gr.at_cell c q hq]; exact hw⟩⟩

/-- What the law's items are: each where it may be; exactly, of the lists that are asked exactly. -/
def Gd.Known (k : Nat) (kc : Nat) (M : Nat → Nat → Int) (I : Nat → Nat → Int) : Prop :=
  (k = 0 → I = fun _ _ => 0) ∧ (k = 1 → M 0 0 = 0 → M 0 1 = 0 → M 0 3 = 0 → I = En.put (fun _ _ => 0) 0 (Gd.row 1 1 ((kc : Int) % 24) ((kc : Int) / 24)))

theorem Gd.known_no {kc : Nat} {M I : Nat → Nat → Int} {k : Nat} {wh a b : Int} (hK : Gd.Known k kc M I) (hf : ¬ Gd.find I 40 wh a b < 0) (hw : wh ≠ 0) : Gd.Known (k + 1) kc M I := by
  refine ⟨by omega, fun h1 _ _ _ => absurd ?_ hf⟩
  have h0 := hK.1 (by omega)
  subst h0
  rcases Gd.find_cases (fun _ _ => (0 : Int)) 40 wh a b with ⟨h, _⟩ | ⟨j, _, _, h, _⟩
  · omega
  · exact absurd h.symm hw

theorem Gd.known_yes {kc : Nat} {M I : Nat → Nat → Int} {k m : Nat} {kd wh a b : Int} (hK : Gd.Known k kc M I) (hm : m = 2 * k) (he : M k 0 = 0 → M k 1 = 0 → M k 3 = 0 → kd = 1 ∧ wh = 1 ∧ a = (kc : Int) % 24 ∧ b = (kc : Int) / 24) : Gd.Known (k + 1) kc M (En.put I m (Gd.row kd wh a b)) := by
  refine ⟨by omega, fun h1 e0 e1 e3 => ?_⟩
  obtain rfl : k = 0 := by omega
  obtain rfl : m = 0 := by omega
  obtain ⟨rfl, rfl, rfl, rfl⟩ := he e0 e1 e3
  rw [hK.1 rfl]

theorem Gd.ok_tell {c : Nat → Int} {I : Nat → Nat → Int} {m : Nat} {kd wh a b : Int} (h : Gd.Ok c 40 I) (hp : Gd.Placed c (Gd.row kd wh a b)) (hf : Gd.find I 40 wh a b < 0) : Gd.Ok c 40 (En.put I m (Gd.row kd wh a b)) :=
  h.put (.inr ⟨hp, fun j hj _ hs => (Gd.find_neg hf).2 j hj ⟨hs.1, hs.2.1, hs.2.2⟩⟩)

theorem Gd.ok_none (c : Nat → Int) : Gd.Ok c 40 (fun _ _ => 0) := ⟨fun _ _ => .inl ⟨rfl, rfl, rfl, rfl⟩, fun _ _ _ _ _ h => absurd rfl h⟩

/-- What the law's World answers, of the items. -/
def Gd.Tells (w : World) (s g c : Nat → Int) (E : Nat → Nat → Int) (kc nL : Nat) (M : Nat → Nat → Int) (e : Ending) (w' : World) : Prop :=
  ∃ I, Gd.Worlds w s g c E I e w' ∧ Gd.Ok c 40 I ∧ Gd.Known (min nL 20) kc M I

end Go.Proofs.Ythngbjmiblbohaa
