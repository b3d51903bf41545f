/-
  The row of a seat's hero, in the document.
  The law's own world: a floor of the document, a hero on it, items as told.
  A world that a law lays: the place of what is answered, the box, the lists; items as told, that may be where they are.
-/
import Derived.Test.YtbploaihicakeaaPart18
import Derived.Test.YtbploaihicakeaaPart15
import Derived.Test.YtbploaihicakeaaPart13
import Derived.Test.YtbploaihicakeaaPart19
namespace Go.Proofs.Ytbploaihicakeaa
open Go.RowKit

set_option maxHeartbeats 800000 in
theorem refHero_any (b n c : Nat) (E : Nat → Nat → Int) (seat : Int) (w : World) (hE : Ents w b n E) :
    Calls Try.prog 20 #[.slice (some ⟨b, 0, none⟩) n c, .int .i64 seat] w (Says w (.int .i64 (En.first (En.heroQ E seat) n))) := by
  have hn := hE.1
  have hE' := hide hE
  skip
  clear hE
  go_enter Try.func20, Try.ntmps20
  go_wp2_with fail
  go_loop [5] (fun i => ∃ k : Nat, k ≤ n ∧ i = .int .i64 (k : Int) ∧ ∀ j, j < k → En.heroQ E seat j = false) (fun i => 40 - (intOf i).toNat)
  case atStart => exact ⟨0, by omega, rfl, fun j hj => by omega⟩
  case round =>
    obtain ⟨k, hk, rfl, hno⟩ := hrel
    have hno' := hide hno
    clear hno
    by_cases hlt : k < n
    · obtain ⟨u0, _, u2, _⟩ := (unhide hE').row hlt
      have hlt' : (k : Int) < (n : Int) := by omega
      have HL := hide hlt
      skip
      clear hlt
      by_cases hf : E k 0 = 1
      · by_cases h3 : E k 2 = seat
        · have hq : Hid (En.heroQ E seat k = true) := by show En.heroQ E seat k = true; simp [En.heroQ, hf, h3]
          have he := hide (En.first_hit (unhide hno') (unhide hq) (unhide HL))
          go_wp2
          go_ret
          exact ⟨ret_int (unhide he).symm, World.grownBy.refl _ _⟩
        · have hq : Hid (En.heroQ E seat k = false) := by show En.heroQ E seat k = false; simp [En.heroQ, h3]
          have h3' : (E k 2 == seat) = false := by simp [h3]
          go_wp2
          go_round
          case rel => exact ⟨k + 1, by have := unhide HL; omega, by go_num, fun j hj => by
            by_cases e : j = k
            · rw [e]; exact unhide hq
            · exact unhide hno' j (by omega)⟩
          case measure => simp [intOf]; omega
      · have hq : Hid (En.heroQ E seat k = false) := by show En.heroQ E seat k = false; simp [En.heroQ, hf]
        have hf' : (E k 0 == 1) = false := by simp [hf]
        go_wp2
        go_round
        case rel => exact ⟨k + 1, by have := unhide HL; omega, by go_num, fun j hj => by
          by_cases e : j = k
          · rw [e]; exact unhide hq
          · exact unhide hno' j (by omega)⟩
        case measure => simp [intOf]; omega
    · have hge : ¬ (k : Int) < (n : Int) := by omega
      have he := hide (En.first_none (n := n) (fun j hj => unhide hno' j (by omega)))
      go_wp2
      go_ret
      exact ⟨ret_int (unhide he).symm, World.grownBy.refl _ _⟩

theorem refHero7_any (g c : Nat) (E : Nat → Nat → Int) (seat : Int) (w : World) (h : Own w g 32 E) :
    Calls Try.prog 20 #[.slice (some ⟨g, 0, none⟩) 32 c, .int .i64 seat] w (Says w (.int .i64 (Gd.hero E seat))) := refHero_any g 32 c E seat w h.ents

end Go.Proofs.Ytbploaihicakeaa

namespace Go.Proofs.Ytbploaihicakeaa
open Go.RowKit

set_option maxHeartbeats 400000 in
theorem within7_any (a n : Int) (w : World) (hn : 0 < n) (hn2 : n ≤ 4611686018427387904) :
    Calls Try.prog 40 #[.int .i64 a, .int .i64 n] w fun e w' => e = .returned (.int .i64 (a % n)) ∧ w' = w := by
  have t1 := Int.tmod_lt_of_pos a (b := n) hn
  have t2 := Int.lt_tmod_of_pos a (b := n) hn
  have hn0 : (n == 0) = false := by simp; omega
  by_cases h : a.tmod n < 0
  · have ha : ¬ 0 ≤ a := by
      intro h0
      have := Int.tmod_nonneg n h0
      omega
    have hd := hide (Gr.within_neg a n hn h)
    go_enter Try.func40, Try.ntmps40
    go_wp2
    go_ret
    exact ⟨ret_int (unhide hd), rfl⟩
  · have hd := hide (Gr.within_pos a n hn h)
    by_cases ha : 0 ≤ a
    · have e : a.tmod n = a % n := Int.tmod_eq_emod_of_nonneg ha
      have h' : ¬ a % n < 0 := by rw [← e]; exact h
      clear h t1 t2 e
      go_enter Try.func40, Try.ntmps40
      go_wp2
      go_ret
      exact ⟨rfl, rfl⟩
    · go_enter Try.func40, Try.ntmps40
      go_wp2
      go_ret
      exact ⟨ret_int (unhide hd), rfl⟩

theorem madeCells_item (n c : Nat) (hc : c < n * 4) : (madeCells (Value.agg #[.int .i64 0, .int .i64 0, .int .i64 0, .int .i64 0]).cells (n * 4))[c]? = some (.int .i64 0) := by
  have hm : c % 4 < 4 := by omega
  obtain ⟨m, hmm⟩ : ∃ m, m = c % 4 := ⟨_, rfl⟩
  unfold madeCells
  simp [hc, Value.cells]
  rw [← hmm] at hm ⊢
  rcases (show m = 0 ∨ m = 1 ∨ m = 2 ∨ m = 3 by omega) with rfl | rfl | rfl | rfl <;> rfl

/-- A list of 40 items that are gone, made. -/
theorem make40 : ∃ Z : Array Value, (∀ w : World, (Instr.makeSlice 23 (.int .i64 40) (.int .i64 40)).run Try.prog w = .ok (.slice (some ⟨w.heap.size, 0, none⟩) 40 40) (w.alloc (.cells Z 57))) ∧
    ∀ w : World, Lie (w.alloc (.cells Z 57)) w.heap.size 57 160 (Gd.flat (fun _ _ => 0)) := by
  obtain ⟨i0, hi, hz0, hz1, hz2⟩ := info_parts info_item
  refine ⟨madeCells (Value.agg #[.int .i64 0, .int .i64 0, .int .i64 0, .int .i64 0]).cells (40 * 4), fun w => ?_, fun w => ?_⟩
  · have hr := run_make (P := Try.prog) w 23 57 i0 _ Try.underlying23 hi hz0 .i64 .i64 (40 : Nat) (40 : Nat) (by omega) (by omega) (by rw [hz2]; decide) (by decide)
    rw [hz1] at hr
    exact hr
  · refine ⟨_, _, Arr.lit (heap_alloc_new w _), by rw [size_madeCells]; omega, fun c hc => ?_⟩
    show (madeCells _ _)[c]?.getD undef = _
    rw [madeCells_item 40 c hc]
    rfl

theorem field_cells7 (v1 v2 v3 : Option Addr) (n1 n2 n3 c1 c2 c3 : Nat) (w : World) : (Instr.field 68 (.agg #[.slice v1 n1 c1, .slice v2 n2 c2, .slice v3 n3 c3]) 0).run Try.prog w = .ok (.slice v1 n1 c1) w := field_cells v1 v2 v3 n1 n2 n3 c1 c2 c3 w

theorem grown_frozen {w w' : World} {r : Option Nat} (h : w.grownBy w' r) (b i : Nat) (hb : b < w.heap.size) (hr : r ≠ some b) : w'.frozen? ⟨b, i, none⟩ = w.frozen? ⟨b, i, none⟩ :=
  World.frozen?_of_block (a := ⟨b, i, none⟩) (h.block b hb (fun e => hr e.symm))

theorem blk_old {w : World} {b : Nat} {x : Obj} (h : w.heap[b]? = some x) (o : Obj) : (w.alloc o).heap[b]? = some x :=
  ((World.grownBy_alloc w o none).block b (lt_of_block h) (fun e => by cases e)).trans h

theorem blk_drew {w : World} {b : Nat} {x : Obj} (h : w.heap[b]? = some x) : w.drew.heap[b]? = some x :=
  ((grown_drew1 (World.grownBy.refl w none)).block b (lt_of_block h) (fun e => by cases e)).trans h

theorem blk1 (w : World) (a o : Obj) : ((w.alloc a).alloc o).heap[w.heap.size + 1]? = some o := by
  have h := heap_alloc_new (w.alloc a) o
  rwa [show (w.alloc a).heap.size = w.heap.size + 1 by simp] at h

theorem blk2 (w : World) (a b o : Obj) : (((w.alloc a).alloc b).alloc o).heap[w.heap.size + 2]? = some o := by
  have h := heap_alloc_new ((w.alloc a).alloc b) o
  rwa [show ((w.alloc a).alloc b).heap.size = w.heap.size + 2 by simp] at h

/-- A box that was made ahead of a call. -/
theorem box_facts {X w1 : World} {B : Nat} (hg : X.grownBy w1 none) (h : X.heap[B]? = some (.cells #[.int .i64 0, .int .i64 0, .int .i64 0, .int .i64 0, .slice none 0 0, .slice none 0 0, .slice none 0 0, .int .i64 0, .int .i64 0, .int .i64 0, Value.int .i64 0] 29 (0, 0))) :
    (w1.cell? ⟨B, 0, none⟩ = some (.int .i64 0) ∧ w1.cell? ⟨B, 1, none⟩ = some (.int .i64 0) ∧ w1.cell? ⟨B, 2, none⟩ = some (.int .i64 0) ∧ w1.cell? ⟨B, 3, none⟩ = some (.int .i64 0) ∧ w1.cell? ⟨B, 4, none⟩ = some (.slice none 0 0) ∧ w1.cell? ⟨B, 5, none⟩ = some (.slice none 0 0) ∧ w1.cell? ⟨B, 6, none⟩ = some (.slice none 0 0) ∧ w1.cell? ⟨B, 7, none⟩ = some (.int .i64 0) ∧ w1.cell? ⟨B, 8, none⟩ = some (.int .i64 0) ∧ w1.cell? ⟨B, 9, none⟩ = some (.int .i64 0) ∧ w1.cell? ⟨B, 10, none⟩ = some (.int .i64 0)) ∧ (∀ i, w1.frozen? ⟨B, i, none⟩ = false) ∧ (B < w1.heap.size ∧ B ≠ w1.heap.size ∧ B ≠ w1.heap.size + 1) ∧ Hid (Lie w1 B 29 11 (fun j => (#[.int .i64 0, .int .i64 0, .int .i64 0, .int .i64 0, .slice none 0 0, .slice none 0 0, .slice none 0 0, .int .i64 0, .int .i64 0, .int .i64 0, Value.int .i64 0] : Array Value)[j]?.getD undef)) := by
  have hA := ((Arr.lit h).grown hg (by simp)).lie
  have hl := hA.lt
  exact ⟨Gd.res_cells hA, hA.free, ⟨hl, by omega, by omega⟩, hA⟩

/-- The numbers of a world that the law makes: seed, frame, floor, state. -/
def Gd.head (seed floor : Int) : Nat → Int := fun j => if j = 0 then seed else if j = 2 then floor else 0

theorem Lie.type_ne {x : World} {B G : Nat} {T U : TypeId} {m n : Nat} {F K : Nat → Value} (h1 : Lie x B T m F) (h2 : Lie x G U n K) (h : T ≠ U) : B ≠ G := by
  rintro rfl
  obtain ⟨_, _, ⟨c1, e1, _⟩, _⟩ := h1
  obtain ⟨_, _, ⟨c2, e2, _⟩, _⟩ := h2
  rw [e1] at e2
  simp only [Option.some.injEq, Obj.cells.injEq] at e2
  exact h e2.2.1

theorem Lie.set11 {x : World} {B G : Nat} {T : TypeId} {m : Nat} {F : Nat → Value} {v0 v1 v2 v3 v4 v5 v6 v7 v8 v9 v10 : Value} (h : Lie x G T m F) (hne : B ≠ G) : Lie (((((((((((x.setCell ⟨B, 0, none⟩ v0).setCell ⟨B, 1, none⟩ v1).setCell ⟨B, 2, none⟩ v2).setCell ⟨B, 3, none⟩ v3).setCell ⟨B, 4, none⟩ v4).setCell ⟨B, 5, none⟩ v5).setCell ⟨B, 6, none⟩ v6).setCell ⟨B, 7, none⟩ v7).setCell ⟨B, 8, none⟩ v8).setCell ⟨B, 9, none⟩ v9).setCell ⟨B, 10, none⟩ v10) G T m F :=
  h.others hne 0 [v0, v1, v2, v3, v4, v5, v6, v7, v8, v9, v10]

theorem grown_set11 {w x : World} {B : Nat} {v0 v1 v2 v3 v4 v5 v6 v7 v8 v9 v10 : Value} (h : w.grownBy x none) (hB : w.heap.size ≤ B) : w.grownBy (((((((((((x.setCell ⟨B, 0, none⟩ v0).setCell ⟨B, 1, none⟩ v1).setCell ⟨B, 2, none⟩ v2).setCell ⟨B, 3, none⟩ v3).setCell ⟨B, 4, none⟩ v4).setCell ⟨B, 5, none⟩ v5).setCell ⟨B, 6, none⟩ v6).setCell ⟨B, 7, none⟩ v7).setCell ⟨B, 8, none⟩ v8).setCell ⟨B, 9, none⟩ v9).setCell ⟨B, 10, none⟩ v10) none :=
  own_sets hB [v0, v1, v2, v3, v4, v5, v6, v7, v8, v9, v10] 0 x h

theorem blk_at {w : World} {b : Nat} {o : Obj} (h : w.heap.size = b) : (w.alloc o).heap[b]? = some o := by
  subst h
  exact heap_alloc_new w o

theorem blk_grown {x y : World} {b : Nat} {o : Obj} (hg : x.grownBy y none) (h : x.heap[b]? = some o) : y.heap[b]? = some o :=
  (hg.block b (lt_of_block h) (fun e => by cases e)).trans h

theorem blk_set {x : World} {B b i : Nat} {v : Value} {o : Obj} (hne : b ≠ B) (h : x.heap[b]? = some o) : (x.setCell ⟨B, i, none⟩ v).heap[b]? = some o :=
  (heap_setCell_other x ⟨B, i, none⟩ b v hne).trans h

theorem Gd.box_heap {x : World} {B G gE gI : Nat} {seed fl : Int} (h : x.heap[B]? = some (.cells #[.int .i64 seed, .int .i64 0, .int .i64 fl, .int .i64 0, .slice (some ⟨G, 0, none⟩) 384 384, .slice (some ⟨gE, 0, none⟩) 32 32, .slice (some ⟨gI, 0, none⟩) 40 40, .int .i64 0, .int .i64 0, .int .i64 0, .int .i64 0] 29 (0, 0))) : Lie x B 29 11 (Gd.box (Gd.head seed fl) G gE gI 384 32 40 (fun _ => 0)) :=
  (Arr.world (s := Gd.head seed fl) (g := fun _ => 0) h).lie

theorem Gd.box_set {x : World} {B G gE gI : Nat} {seed fl : Int} {F : Nat → Value} (h : Lie x B 29 11 F) : Lie (((((((((((x.setCell ⟨B, 0, none⟩ (.int .i64 seed)).setCell ⟨B, 1, none⟩ (.int .i64 0)).setCell ⟨B, 2, none⟩ (.int .i64 fl)).setCell ⟨B, 3, none⟩ (.int .i64 0)).setCell ⟨B, 4, none⟩ (.slice (some ⟨G, 0, none⟩) 384 384)).setCell ⟨B, 5, none⟩ (.slice (some ⟨gE, 0, none⟩) 32 32)).setCell ⟨B, 6, none⟩ (.slice (some ⟨gI, 0, none⟩) 40 40)).setCell ⟨B, 7, none⟩ (.int .i64 0)).setCell ⟨B, 8, none⟩ (.int .i64 0)).setCell ⟨B, 9, none⟩ (.int .i64 0)).setCell ⟨B, 10, none⟩ (.int .i64 0)) B 29 11 (Gd.box (Gd.head seed fl) G gE gI 384 32 40 (fun _ => 0)) :=
  h.whole (Gd.head seed fl) (fun _ => 0) G gE gI 384 32 40

/-- What a law's world begins with. -/
structure Gd.Begun (w0 x : World) (B gC gE gI : Nat) (seed fl : Int) (c : Nat → Int) : Prop where
  hold : Gd.Hold x B gC gE gI 384 32 40 (Gd.head seed fl) (fun _ => 0) c (fun _ _ => 0) (fun _ _ => 0)
  lB : w0.heap.size ≤ B
  lC : w0.heap.size ≤ gC
  lE : w0.heap.size ≤ gE
  lI : w0.heap.size ≤ gI
  grown : w0.grownBy x none

theorem Gd.begun {w0 x : World} {B G gE gI : Nat} {seed fl : Int} {c : Nat → Int} {ZE ZI : Array Value} (hZE : ∀ w : World, Own (w.alloc (.cells ZE 36)) w.heap.size 32 (fun _ _ => 0)) (hZI : ∀ w : World, Lie (w.alloc (.cells ZI 57)) w.heap.size 57 160 (Gd.flat (fun _ _ => 0)))
    (hb : Lie x B 29 11 (Gd.box (Gd.head seed fl) G gE gI 384 32 40 (fun _ => 0))) (hE : x.heap[gE]? = some (.cells ZE 36 (0, 0))) (hI : x.heap[gI]? = some (.cells ZI 57 (0, 0))) (hA : Lie x G 5 384 (Byts c)) (hg : w0.grownBy x none) (lB : w0.heap.size ≤ B) (lC : w0.heap.size ≤ G) (lE : w0.heap.size ≤ gE) (lI : w0.heap.size ≤ gI) : Gd.Begun w0 x B G gE gI seed fl c := by
  have same : ∀ {y : World} {b : Nat} {T : TypeId} {Z : Array Value} {m : Nat} {F : Nat → Value}, y.heap[b]? = some (.cells Z T (0, 0)) → Lie (x.alloc (.cells Z T)) x.heap.size T m F → Lie y b T m F := by
    intro y b T Z m F h1 h2
    obtain ⟨M, K, ⟨cur, e1, e2, e3⟩, hm, hk⟩ := h2
    rw [heap_alloc_new] at e1
    simp only [Option.some.injEq, Obj.cells.injEq] at e1
    obtain ⟨rfl, _⟩ := e1
    exact ⟨M, K, ⟨_, h1, e2, e3⟩, hm, hk⟩
  have hE' := same hE ((hZE x).lie (m := 352) (by omega))
  have hI' := same hI (hZI x)
  exact ⟨⟨hb, ⟨hA, hE', hI'⟩, hb.type_ne hA (by decide), hb.type_ne hE' (by decide), hb.type_ne hI' (by decide), hA.type_ne hE' (by decide), hA.type_ne hI' (by decide), hE'.type_ne hI' (by decide)⟩, lB, lC, lE, lI, hg⟩

end Go.Proofs.Ytbploaihicakeaa

namespace Go.Proofs.Ytbploaihicakeaa
open Go.RowKit

/-- The place of what is answered, a box, and the lists, in new blocks. -/
structure Gd.Laid (w x : World) (R B gC gE gI : Nat) (s g c : Nat → Int) (E I : Nat → Nat → Int) : Prop where
  hold : Gd.Hold x B gC gE gI 384 32 40 s g c E I
  at_ : w.heap.size = R
  lB : R < B
  lC : R < gC
  lE : R < gE
  lI : R < gI
  res : Lie x R 29 11 (fun j => #[.int .i64 0, .int .i64 0, .int .i64 0, .int .i64 0, .slice none 0 0, .slice none 0 0, .slice none 0 0, .int .i64 0, .int .i64 0, .int .i64 0, Value.int .i64 0][j]?.getD undef)
  grown : w.grownBy x none

theorem Gd.Laid.on {w x y : World} {R B gC gE gI : Nat} {s g c : Nat → Int} {E I : Nat → Nat → Int} (h : Gd.Laid w x R B gC gE gI s g c E I) (hg : x.grownBy y none) : Gd.Laid w y R B gC gE gI s g c E I :=
  { h with hold := h.hold.on hg, res := h.res.on hg, grown := grown_trans h.grown hg }

theorem Gd.Laid.put {w x : World} {R B gC gE gI : Nat} {s g c : Nat → Int} {E I : Nat → Nat → Int} (h : Gd.Laid w x R B gC gE gI s g c E I) (m : Nat) (a b d e : Int) : Gd.Laid w ((((x.setCell ⟨gI, m * 4, none⟩ (.int .i64 a)).setCell ⟨gI, m * 4 + 1, none⟩ (.int .i64 b)).setCell ⟨gI, m * 4 + 2, none⟩ (.int .i64 d)).setCell ⟨gI, m * 4 + 3, none⟩ (.int .i64 e)) R B gC gE gI s g c E (En.put I m (Gd.row a b d e)) := by
  have h1 := h.lI
  have h2 := h.at_
  have r := grown_put4 (World.grownBy.refl x (some gI)) m (.int .i64 a) (.int .i64 b) (.int .i64 d) (.int .i64 e)
  exact { h with hold := h.hold.put m a b d e, res := h.res.grown r (by simp; omega), grown := grown_own h.grown r (fun n e => by cases e; omega) }

/-- What is answered: the box's eleven cells, laid into the place for it. -/
theorem Gd.Laid.worlds {w x : World} {R B gC gE gI : Nat} {s g c : Nat → Int} {E I : Nat → Nat → Int} (h : Gd.Laid w x R B gC gE gI s g c E I) (vs : List Value) : Gd.Worlds w s g c E I (.returned (.agg (Gd.world s gC gE gI 384 32 40 g))) (x.setCells R 0 vs) := by
  have hB := h.at_
  have lC := h.lC
  have lE := h.lE
  have lI := h.lI
  have r := grown_sets (g := R) vs 0 x (World.grownBy.refl _ _)
  exact ⟨gC, gE, gI, 384, 32, 40, rfl, by omega, by omega, by omega, by omega, h.hold.cE, h.hold.cI, h.hold.eI, ⟨h.hold.lists.cells.grown r (by simp; omega), h.hold.lists.ents.grown r (by simp; omega), h.hold.lists.items.grown r (by simp; omega)⟩, own_sets (by omega) vs 0 x h.grown⟩

/-- The open cells, as the law has listed them. -/
structure Gd.Open (x : World) (ob oo L : Nat) (O : Nat → Nat) (B gE gI : Nat) : Prop where
  cell : ∀ i, i < L → x.cell? ⟨ob, oo + i, none⟩ = some (.int .i64 (O i : Int))
  lt : ob < x.heap.size
  nB : ob ≠ B
  nE : ob ≠ gE
  nI : ob ≠ gI

theorem Gd.Open.grown {x y : World} {ob oo L : Nat} {O : Nat → Nat} {B gE gI : Nat} {r : Option Nat} (h : Gd.Open x ob oo L O B gE gI) (hg : x.grownBy y r) (hr : r ≠ some ob) : Gd.Open y ob oo L O B gE gI :=
  { h with cell := fun i hi => (grown_cell hg ob _ h.lt hr).trans (h.cell i hi), lt := Nat.lt_of_lt_of_le h.lt hg.size }

theorem Gd.Open.on {x y : World} {ob oo L : Nat} {O : Nat → Nat} {B gE gI : Nat} (h : Gd.Open x ob oo L O B gE gI) (hg : x.grownBy y none) : Gd.Open y ob oo L O B gE gI := h.grown hg (by simp)

theorem Gd.Open.put {x : World} {ob oo L : Nat} {O : Nat → Nat} {B gE gI : Nat} (h : Gd.Open x ob oo L O B gE gI) (m : Nat) (a b d e : Value) : Gd.Open ((((x.setCell ⟨gI, m * 4, none⟩ a).setCell ⟨gI, m * 4 + 1, none⟩ b).setCell ⟨gI, m * 4 + 2, none⟩ d).setCell ⟨gI, m * 4 + 3, none⟩ e) ob oo L O B gE gI :=
  h.grown (grown_put4 (World.grownBy.refl x (some gI)) m a b d e) (by simpa using h.nI.symm)

/-- One item in a block of its own. -/
theorem item_cells {x : World} {X : Nat} {T : TypeId} {a b d e : Int} (h : Lie x X T 4 (Ints (Gd.row a b d e))) : x.cell? ⟨X, 0, none⟩ = some (.int .i64 a) ∧ x.cell? ⟨X, 1, none⟩ = some (.int .i64 b) ∧ x.cell? ⟨X, 2, none⟩ = some (.int .i64 d) ∧ x.cell? ⟨X, 3, none⟩ = some (.int .i64 e) :=
  ⟨h.cell (by omega), h.cell (by omega), h.cell (by omega), h.cell (by omega)⟩

theorem item_new {x : World} {X : Nat} {T : TypeId} {a b d e : Int} (h : x.heap[X]? = some (.cells #[.int .i64 a, .int .i64 b, .int .i64 d, .int .i64 e] T (0, 0))) : Lie x X T 4 (Ints (Gd.row a b d e)) :=
  Lie.congr (m := 4) (Arr.lit h).lie fun j hj => by
    rcases (show j = 0 ∨ j = 1 ∨ j = 2 ∨ j = 3 by omega) with rfl | rfl | rfl | rfl <;> rfl

theorem item_k {x : World} {X : Nat} {T : TypeId} {a b d e a' : Int} (h : Lie x X T 4 (Ints (Gd.row a b d e))) : Lie (x.setCell ⟨X, 0, none⟩ (.int .i64 a')) X T 4 (Ints (Gd.row a' b d e)) :=
  (h.store 0 _).congr fun j hj => by
    rcases (show j = 0 ∨ j = 1 ∨ j = 2 ∨ j = 3 by omega) with rfl | rfl | rfl | rfl <;> rfl

theorem item_a {x : World} {X : Nat} {T : TypeId} {a b d e a' : Int} (h : Lie x X T 4 (Ints (Gd.row a b d e))) : Lie (x.setCell ⟨X, 2, none⟩ (.int .i64 a')) X T 4 (Ints (Gd.row a b a' e)) :=
  (h.store 2 _).congr fun j hj => by
    rcases (show j = 0 ∨ j = 1 ∨ j = 2 ∨ j = 3 by omega) with rfl | rfl | rfl | rfl <;> rfl

theorem item_b {x : World} {X : Nat} {T : TypeId} {a b d e a' : Int} (h : Lie x X T 4 (Ints (Gd.row a b d e))) : Lie (x.setCell ⟨X, 3, none⟩ (.int .i64 a')) X T 4 (Ints (Gd.row a b d a')) :=
  (h.store 3 _).congr fun j hj => by
    rcases (show j = 0 ∨ j = 1 ∨ j = 2 ∨ j = 3 by omega) with rfl | rfl | rfl | rfl <;> rfl

/-- An item as the law tells it, ahead of the last mend. -/
def Gd.Fit (c : Nat → Int) (kd wh a b : Int) : Prop := 1 ≤ kd ∧ kd ≤ 4 ∧
  ((wh = 1 ∧ Gr.inB a b = true ∧ Gr.walkB (Gr.at 384 c a b) = true) ∨ (wh = 2 ∧ 0 ≤ a ∧ a < 4 ∧ 0 ≤ b ∧ b < 4) ∨ (wh = 3 ∧ 0 ≤ a ∧ a < 4 ∧ (kd = 2 ∧ b = 0 ∨ kd = 3 ∧ b = 1)) ∨ (wh = 4 ∧ 0 ≤ a ∧ a < 3 ∧ b = 0))

theorem Gd.Fit.placed {c : Nat → Int} {kd wh a b : Int} (h : Gd.Fit c kd wh a b) (hk : kd = 4 → wh = 1) : Gd.Placed c (Gd.row kd wh a b) := by
  obtain ⟨h1, h2, h3⟩ := h
  refine ⟨h1, h2, ?_⟩
  show (wh = 1 ∧ _) ∨ (wh = 2 ∧ _) ∨ (wh = 3 ∧ _) ∨ (wh = 4 ∧ _)
  rcases h3 with h3 | h3 | h3 | h3
  · exact .inl h3
  · refine .inr (.inl ⟨h3.1, h3.2.1, h3.2.2.1, h3.2.2.2.1, h3.2.2.2.2, fun e => ?_⟩)
    have := hk e
    omega
  · exact .inr (.inr (.inl h3))
  · refine .inr (.inr (.inr ⟨h3.1, h3.2.1, h3.2.2.1, h3.2.2.2, fun e => ?_⟩))
    have := hk e
    omega

theorem Gd.Fit.mend {c : Nat → Int} {wh a b : Int} (h : Gd.Fit c 4 wh a b) (hw : wh ≠ 1) : Gd.Placed c (Gd.row 1 wh a b) := by
  obtain ⟨h1, h2, h3⟩ := h
  refine Gd.Fit.placed ⟨by omega, by omega, ?_⟩ (by omega)
  rcases h3 with h3 | h3 | h3 | h3
  · omega
  · exact .inr (.inl h3)
  · omega
  · exact .inr (.inr (.inr h3))

theorem Gd.fit_cell {c : Nat → Int} {kd : Int} {q : Nat} (h1 : 1 ≤ kd) (h2 : kd ≤ 4) (hq : q < 384) (hw : Gr.walkB (c q) = true) : Gd.Fit c kd 1 ((q : Int) % 24) ((q : Int) / 24) :=
  ⟨h1, h2, .inl ⟨rfl, by unfold Gr.inB; exact decide_eq_true ⟨by omega, by omega, by omega, by omega⟩, by rw [Gr.at_cell c q hq]; exact hw⟩⟩

/-- What the law's items are: each where it may be; exactly, of the lists that are asked exactly. -/
def Gd.Known (k : Nat) (kc : Nat) (M : Nat → Nat → Int) (I : Nat → Nat → Int) : Prop :=
  (k = 0 → I = fun _ _ => 0) ∧ (k = 1 → M 0 0 = 0 → M 0 1 = 0 → M 0 3 = 0 → I = En.put (fun _ _ => 0) 0 (Gd.row 1 1 ((kc : Int) % 24) ((kc : Int) / 24)))

theorem Gd.known_no {kc : Nat} {M I : Nat → Nat → Int} {k : Nat} {wh a b : Int} (hK : Gd.Known k kc M I) (hf : ¬ Gd.find I 40 wh a b < 0) (hw : wh ≠ 0) : Gd.Known (k + 1) kc M I := by
  refine ⟨by omega, fun h1 _ _ _ => absurd ?_ hf⟩
  have h0 := hK.1 (by omega)
  subst h0
  rcases Gd.find_cases (fun _ _ => (0 : Int)) 40 wh a b with ⟨h, _⟩ | ⟨j, _, _, h, _⟩
  · omega
  · exact absurd h.symm hw

theorem Gd.known_yes {kc : Nat} {M I : Nat → Nat → Int} {k m : Nat} {kd wh a b : Int} (hK : Gd.Known k kc M I) (hm : m = 2 * k) (he : M k 0 = 0 → M k 1 = 0 → M k 3 = 0 → kd = 1 ∧ wh = 1 ∧ a = (kc : Int) % 24 ∧ b = (kc : Int) / 24) : Gd.Known (k + 1) kc M (En.put I m (Gd.row kd wh a b)) := by
  refine ⟨by omega, fun h1 e0 e1 e3 => ?_⟩
  obtain rfl : k = 0 := by omega
  obtain rfl : m = 0 := by omega
  obtain ⟨rfl, rfl, rfl, rfl⟩ := he e0 e1 e3
  rw [hK.1 rfl]

theorem Gd.ok_tell {c : Nat → Int} {I : Nat → Nat → Int} {m : Nat} {kd wh a b : Int} (h : Gd.Ok c 40 I) (hp : Gd.Placed c (Gd.row kd wh a b)) (hf : Gd.find I 40 wh a b < 0) : Gd.Ok c 40 (En.put I m (Gd.row kd wh a b)) :=
  h.put (.inr ⟨hp, fun j hj _ hs => (Gd.find_neg hf).2 j hj ⟨hs.1, hs.2.1, hs.2.2⟩⟩)

theorem Gd.ok_none (c : Nat → Int) : Gd.Ok c 40 (fun _ _ => 0) := ⟨fun _ _ => .inl ⟨rfl, rfl, rfl, rfl⟩, fun _ _ _ _ _ h => absurd rfl h⟩

/-- A world whose lists have no spare room. -/
def Gd.Snug (e : Ending) : Prop := ∃ (s : Nat → Int) (gC gE gI : Nat) (g : Nat → Int), e = .returned (.agg (Gd.world s gC gE gI 384 32 40 g))

/-- What the law's World answers, of the items. -/
def Gd.Tells (w : World) (s g c : Nat → Int) (E : Nat → Nat → Int) (kc nL : Nat) (M : Nat → Nat → Int) (e : Ending) (w' : World) : Prop :=
  ∃ I, Gd.Worlds w s g c E I e w' ∧ Gd.Ok c 40 I ∧ Gd.Known (min nL 20) kc M I ∧ Gd.Snug e

end Go.Proofs.Ytbploaihicakeaa
