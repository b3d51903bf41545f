/-
  The first row that is asked for, in ents: the test by an id, and the search itself, once for each of its tests.
  What a seat wants with items, in goods: Do.
  The document's small functions of items: In, Slot, has, Potion.
-/
import Derived.Test.YthngbjmiblbohaaEntFind
import Derived.BigQuiet
import Derived.Test.YthngbjmiblbohaaGoodsAll
import Derived.Test.YthngbjmiblbohaaGoodsApart
import Derived.Test.YthngbjmiblbohaaGoodsBag
namespace Go.Proofs.Ythngbjmiblbohaa
open Go.RowKit

theorem En.atQ_free {E : Nat → Nat → Int} {x y : Int} {k : Nat} (h : E k 0 = 0) : En.atQ E x y k = false := by simp [En.atQ, h]
theorem En.atQ_some {E : Nat → Nat → Int} {x y : Int} {k : Nat} (h : ¬ E k 0 = 0) : En.atQ E x y k = (decide (E k 3 = x) && decide (E k 4 = y)) := by simp [En.atQ, h]
theorem En.heroQ_free {E : Nat → Nat → Int} {s : Int} {k : Nat} (h : E k 0 = 0) : En.heroQ E s k = false := by simp [En.heroQ, h]
theorem En.heroQ_some {E : Nat → Nat → Int} {s : Int} {k : Nat} (_ : ¬ E k 0 = 0) : En.heroQ E s k = (decide (E k 0 = 1) && decide (E k 2 = s)) := rfl
theorem En.ofQ_free {E : Nat → Nat → Int} {id : Int} {k : Nat} (h : E k 0 = 0) : En.ofQ E id k = false := by simp [En.ofQ, h]
theorem En.ofQ_some {E : Nat → Nat → Int} {id : Int} {k : Nat} (h : ¬ E k 0 = 0) : En.ofQ E id k = decide ((k : Int) + 32 * E k 1 = id) := by simp [En.ofQ, h]


set_option maxHeartbeats 1600000 in
theorem lowHero_any (b n c p0 p1 : Nat) (E : Nat → Nat → Int) (seat : Int) (w : World) (hE : Ents w b n E) (hc : n ≤ c) (hp0 : w.cell? ⟨p0, 0, none⟩ = some (.slice (some ⟨b, 0, none⟩) n c)) (hp1 : w.cell? ⟨p1, 0, none⟩ = some (.int .i64 seat)) (hl0 : p0 < w.heap.size) (hl1 : p1 < w.heap.size) :
    Calls Try.prog 51 #[.slice (some ⟨b, 0, none⟩) n c, .func (.func 52) #[] #[.pointer (some ⟨p0, 0, none⟩), .pointer (some ⟨p1, 0, none⟩)]] w (Says w (.int .i64 (En.first (En.heroQ E seat) n))) := by
  have hn := hE.1
  have cd : Hid (∀ wx, w.grownBy wx none → ∀ k : Nat, k < n → Calls Try.prog 52 #[.int .i64 (k : Int), .pointer (some ⟨p0, 0, none⟩), .pointer (some ⟨p1, 0, none⟩)] wx (Says wx (.bool (decide (E k 0 = 1) && decide (E k 2 = seat))))) := fun wx hg k hk =>
    heroC_any b n c p0 p1 k E seat wx (hE.on hg) hk ((grown_cell hg p0 0 hl0 (by simp)).trans hp0) ((grown_cell hg p1 0 hl1 (by simp)).trans hp1)
  have hE' := hide hE
  clear hE hp0 hl0 hp1 hl1
  go_enter Try.func51, Try.ntmps51
  go_wp2_with (go_at_call 65; refine (rows_any _ _ _ _ hn hc).mono ?_; rintro e w' ⟨rfl, hw⟩; subst w')
  go_loopw [10] (fun i wr => ∃ k : Nat, k ≤ n ∧ i = .int .i64 (k : Int) ∧ (∀ j, j < k → En.heroQ E seat j = false) ∧ w.grownBy wr none) (fun i _ => 40 - (intOf i).toNat)
  case atStart => exact ⟨0, by omega, rfl, fun j hj => by omega, World.grownBy.refl _ _⟩
  case round =>
    obtain ⟨k, hk, rfl, hno, hgr⟩ := hrel
    have hno' := hide hno
    have hgr' := hide hgr
    clear hno hgr
    by_cases hlt : k < n
    · obtain ⟨u0, u1, u2, u3, u4, u5, u6, u7, u8, u9, u10⟩ := ((unhide hE').on (unhide hgr')).row hlt
      have hlt' : (k : Int) < (n : Int) := by omega
      have HL := hide hlt
      clear hlt
      go_wp2_with fail
      refine (isFree_any (E k) _).mono ?_
      rintro e w1 ⟨rfl, hg0⟩
      have hg1 := grown_trans (unhide hgr') (grown_trans (World.grownBy_alloc _ _ _) hg0)
      have hgr1 := hide hg1
      clear u0 u1 u2 u3 u4 u5 u6 u7 u8 u9 u10 hg0
      by_cases hf : E k 0 = 0
      · have hq : Hid (En.heroQ E seat k = false) := En.heroQ_free hf
        rw [decide_eq_true hf]
        clear hf hg1
        go_wp2
        go_roundw
        case rel => exact ⟨k + 1, by have := unhide HL; omega, by go_num, fun j hj => by
          by_cases e : j = k
          · rw [e]; exact unhide hq
          · exact unhide hno' j (by omega), unhide hgr1⟩
        case measure => simp [intOf]; omega
      · have hq : Hid (En.heroQ E seat k = (decide (E k 0 = 1) && decide (E k 2 = seat))) := En.heroQ_some hf
        have hf0 := hide hf
        rw [decide_eq_false hf]
        have cdk := hide (unhide cd w1 hg1 k (unhide HL))
        obtain ⟨r, hr⟩ : ∃ r : Bool, r = (decide (E k 0 = 1) && decide (E k 2 = seat)) := ⟨_, rfl⟩
        rw [← hr] at cdk hq
        clear hf hg1 hr
        go_wp2_with fail
        refine (unhide cdk).mono ?_
        rintro e w2 ⟨rfl, hg2⟩
        have hgr2 := hide (grown_trans (unhide hgr1) hg2)
        clear hg2 cdk
        cases r
        · go_wp2
          go_roundw
          case rel => exact ⟨k + 1, by have := unhide HL; omega, by go_num, fun j hj => by
            by_cases e : j = k
            · rw [e]; exact unhide hq
            · exact unhide hno' j (by omega), unhide hgr2⟩
          case measure => simp [intOf]; omega
        · have he := hide (En.first_hit (unhide hno') (unhide hq) (unhide HL))
          go_wp2
          go_ret
          exact ⟨ret_int (unhide he).symm, unhide hgr2⟩
    · have hge : ¬ (k : Int) < (n : Int) := by omega
      have he := hide (En.first_none (n := n) (fun j hj => unhide hno' j (by omega)))
      go_wp2
      go_ret
      exact ⟨ret_int (unhide he).symm, unhide hgr'⟩

theorem hero_any (b n c : Nat) (E : Nat → Nat → Int) (seat : Int) (w : World) (hE : Ents w b n E) (hc : n ≤ c) :
    Calls Try.prog 32 #[.slice (some ⟨b, 0, none⟩) n c, .int .i64 seat] w (Says w (.int .i64 (En.first (En.heroQ E seat) n))) := by
  obtain ⟨W, hW⟩ : ∃ W, W = ((w.alloc (.cells #[.slice (some ⟨b, 0, none⟩) n c] 26)).alloc (.cells #[.int .i64 seat] 3)) := ⟨_, rfl⟩
  have hg : w.grownBy W none := by
    rw [hW]
    repeat (refine grown_alloc ?_ _)
    exact World.grownBy.refl _ _
  have hs : W.heap.size = w.heap.size + 2 := by rw [hW]; simp
  have q0 : W.cell? ⟨w.heap.size, 0, none⟩ = some (.slice (some ⟨b, 0, none⟩) n c) := by rw [hW]; simp
  have q1 : W.cell? ⟨w.heap.size + 1, 0, none⟩ = some (.int .i64 seat) := by rw [hW]; simp
  have hl := hide (lowHero_any b n c w.heap.size (w.heap.size + 1) E seat W (hE.on hg) hc q0 q1 (by omega) (by omega))
  have hg' := hide hg
  have hW' := hide hW
  clear hE hW hg hs q0 q1
  go_enter Try.func32, Try.ntmps32
  go_wp2_with fail
  rw [← unhide hW']
  refine (unhide hl).mono ?_
  rintro e w1 ⟨rfl, hg1⟩
  have hg2 := hide (grown_trans (unhide hg') hg1)
  clear hg1
  go_wp2
  go_ret
  exact ⟨rfl, unhide hg2⟩

end Go.Proofs.Ythngbjmiblbohaa

namespace Go.Proofs.Ythngbjmiblbohaa
open Go.RowKit

/-- A world's box and, behind it, the place of what is answered, in new blocks. -/
structure Gd.Boxed (w x : World) (B gC gE gI cC cE cI : Nat) (s g c : Nat → Int) (E I : Nat → Nat → Int) : Prop where
  hold : Gd.Hold x B gC gE gI cC cE cI s g c E I
  at_ : w.heap.size = B
  lC : B + 2 ≤ gC
  lE : B + 2 ≤ gE
  lI : B + 2 ≤ gI
  cap : 32 ≤ cE
  res : Lie x (B + 1) 29 11 (fun j => #[.int .i64 0, .int .i64 0, .int .i64 0, .int .i64 0, .slice none 0 0, .slice none 0 0, .slice none 0 0, .int .i64 0, .int .i64 0, .int .i64 0, Value.int .i64 0][j]?.getD undef)
  grown : w.grownBy x none

theorem Gd.Boxed.on {w x y : World} {B gC gE gI cC cE cI : Nat} {s g c : Nat → Int} {E I : Nat → Nat → Int} (h : Gd.Boxed w x B gC gE gI cC cE cI s g c E I) (hg : x.grownBy y none) : Gd.Boxed w y B gC gE gI cC cE cI s g c E I :=
  { h with hold := h.hold.on hg, res := h.res.on hg, grown := grown_trans h.grown hg }

/-- What is answered: the box's eleven cells, laid into the place for it. -/
theorem Gd.Boxed.worlds {w x : World} {B gC gE gI cC cE cI : Nat} {s g c : Nat → Int} {E I : Nat → Nat → Int} (h : Gd.Boxed w x B gC gE gI cC cE cI s g c E I) (vs : List Value) : Gd.Worlds w s g c E I (.returned (.agg (Gd.world s gC gE gI cC cE cI g))) (x.setCells (B + 1) 0 vs) := by
  have hB := h.at_
  have lC := h.lC
  have lE := h.lE
  have lI := h.lI
  have r := grown_sets (g := B + 1) vs 0 x (World.grownBy.refl _ _)
  exact ⟨gC, gE, gI, cC, cE, cI, rfl, h.cap, by omega, by omega, by omega, h.hold.cE, h.hold.cI, h.hold.eI, ⟨h.hold.lists.cells.grown r (by simp; omega), h.hold.lists.ents.grown r (by simp; omega), h.hold.lists.items.grown r (by simp; omega)⟩, own_sets (by omega) vs 0 x h.grown⟩

/-- The box and the place of what is answered, made. -/
theorem Gd.boxes (w : World) (gC gE gI cC cE cI : Nat) (s g : Nat → Int) : ∃ x, x = (w.alloc (.cells (Gd.world s gC gE gI cC cE cI g) 29)).alloc (.cells #[.int .i64 0, .int .i64 0, .int .i64 0, .int .i64 0, .slice none 0 0, .slice none 0 0, .slice none 0 0, .int .i64 0, .int .i64 0, .int .i64 0, .int .i64 0] 29) ∧ Lie x w.heap.size 29 11 (Gd.box s gC gE gI cC cE cI g) ∧ Lie x (w.heap.size + 1) 29 11 (fun j => #[.int .i64 0, .int .i64 0, .int .i64 0, .int .i64 0, .slice none 0 0, .slice none 0 0, .slice none 0 0, .int .i64 0, .int .i64 0, .int .i64 0, Value.int .i64 0][j]?.getD undef) ∧ w.grownBy x none ∧ x.heap.size = w.heap.size + 2 := by
  refine ⟨_, rfl, ((Arr.world (heap_alloc_new w (.cells (Gd.world s gC gE gI cC cE cI g) 29))).alloc _).lie, ?_, grown_alloc (World.grownBy_alloc _ _ _) _, by simp⟩
  have h := Arr.lit (heap_alloc_new (w.alloc (.cells (Gd.world s gC gE gI cC cE cI g) 29)) (.cells #[.int .i64 0, .int .i64 0, .int .i64 0, .int .i64 0, .slice none 0 0, .slice none 0 0, .slice none 0 0, .int .i64 0, .int .i64 0, .int .i64 0, .int .i64 0] 29))
  rw [show (w.alloc (.cells (Gd.world s gC gE gI cC cE cI g) 29)).heap.size = w.heap.size + 1 by simp] at h
  exact h.lie

/-- A whole world laid into a box. -/
theorem Lie.whole {x : World} {B : Nat} {T : TypeId} {F : Nat → Value} (h : Lie x B T 11 F) (s g : Nat → Int) (gC gE gI cC cE cI : Nat) : Lie (x.setCells B 0 (Gd.world s gC gE gI cC cE cI g).toList) B T 11 (Gd.box s gC gE gI cC cE cI g) := by
  refine (h.stores 0 _).congr fun j hj => ?_
  show (if 0 ≤ j ∧ j < 0 + 11 then (Gd.world s gC gE gI cC cE cI g).toList[j - 0]?.getD undef else F j) = _
  rw [if_pos (by omega), Nat.sub_zero, Array.getElem?_toList, Gd.world_at s gC gE gI cC cE cI g j hj]
  rfl

theorem Gd.res_cells {x : World} {R : Nat} (h : Lie x R 29 11 (fun j => #[.int .i64 0, .int .i64 0, .int .i64 0, .int .i64 0, .slice none 0 0, .slice none 0 0, .slice none 0 0, .int .i64 0, .int .i64 0, .int .i64 0, Value.int .i64 0][j]?.getD undef)) :
    x.cell? ⟨R, 0, none⟩ = some (.int .i64 0) ∧ x.cell? ⟨R, 1, none⟩ = some (.int .i64 0) ∧ x.cell? ⟨R, 2, none⟩ = some (.int .i64 0) ∧ x.cell? ⟨R, 3, none⟩ = some (.int .i64 0) ∧ x.cell? ⟨R, 4, none⟩ = some (.slice none 0 0) ∧ x.cell? ⟨R, 5, none⟩ = some (.slice none 0 0) ∧ x.cell? ⟨R, 6, none⟩ = some (.slice none 0 0) ∧ x.cell? ⟨R, 7, none⟩ = some (.int .i64 0) ∧ x.cell? ⟨R, 8, none⟩ = some (.int .i64 0) ∧ x.cell? ⟨R, 9, none⟩ = some (.int .i64 0) ∧ x.cell? ⟨R, 10, none⟩ = some (.int .i64 0) :=
  ⟨h.cell (by omega), h.cell (by omega), h.cell (by omega), h.cell (by omega), h.cell (by omega), h.cell (by omega), h.cell (by omega), h.cell (by omega), h.cell (by omega), h.cell (by omega), h.cell (by omega)⟩

/-- The row of a seat's hero; -1: there is none. -/
def Gd.hero (E : Nat → Nat → Int) (seat : Int) : Int := En.first (En.heroQ E seat) 32

/-- The world behind an input of a seat: items, entities, gold. -/
def Gd.nextI (c g : Nat → Int) (E I : Nat → Nat → Int) (seat input : Int) : Nat → Nat → Int :=
  if 0 ≤ seat ∧ seat < 4 ∧ 0 ≤ Gd.hero E seat then Gd.act I 40 seat (E (Gd.hero E seat).toNat 3) (E (Gd.hero E seat).toNat 4) (decide (Gr.at 384 c (E (Gd.hero E seat).toNat 3) (E (Gd.hero E seat).toNat 4) = 5)) (g seat.toNat) input else I

def Gd.nextE (E I : Nat → Nat → Int) (seat input : Int) : Nat → Nat → Int :=
  if 0 ≤ seat ∧ seat < 4 ∧ 0 ≤ Gd.hero E seat then Gd.entsOf E I (Gd.hero E seat).toNat seat input else E

def Gd.nextG (c g : Nat → Int) (E I : Nat → Nat → Int) (seat input : Int) : Nat → Int :=
  if 0 ≤ seat ∧ seat < 4 ∧ 0 ≤ Gd.hero E seat then Gd.give g seat.toNat (Gd.goldOf I seat (E (Gd.hero E seat).toNat 3) (E (Gd.hero E seat).toNat 4) (decide (Gr.at 384 c (E (Gd.hero E seat).toNat 3) (E (Gd.hero E seat).toNat 4) = 5)) (g seat.toNat) input) else g

theorem Gd.hero_pos {E : Nat → Nat → Int} {seat : Int} (h : 0 ≤ Gd.hero E seat) : ∃ k : Nat, k < 32 ∧ Gd.hero E seat = (k : Int) ∧ E k 2 = seat ∧ E k 0 = 1 := by
  unfold Gd.hero at *
  rcases En.first_cases (En.heroQ E seat) 32 with ⟨h', _⟩ | ⟨k, hk, h', hq, _⟩
  · omega
  · simp only [En.heroQ, Bool.and_eq_true, decide_eq_true_eq] at hq
    exact ⟨k, hk, h', hq.2, hq.1⟩

set_option maxHeartbeats 6400000 in
theorem do_walk (s g c : Nat → Int) (E I : Nat → Nat → Int) (gC gE gI cC cE cI : Nat) (seat input : Int) (w : World) (hL : Gd.Lists w gC gE gI c E I) (g' : Nat → Int) (E' I' : Nat → Nat → Int)
    (hno : ¬ (0 ≤ seat ∧ seat < 4 ∧ 0 ≤ Gd.hero E seat) → g' = g ∧ E' = E ∧ I' = I)
    (hyes : 0 ≤ seat → seat < 4 → ∀ k : Nat, k < 32 → Gd.hero E seat = (k : Int) → ∀ (B g1 g2 g3 c1 c2 c3 : Nat) (x : World), Gd.Boxed w x B g1 g2 g3 c1 c2 c3 s g c E I → Calls Try.prog 33 #[.pointer (some ⟨B, 0, none⟩), .pointer (some ⟨g2, k * 11, none⟩), .int .i64 input] x fun e x' => e = .returned (.tuple #[]) ∧ Gd.Boxed w x' B g1 g2 g3 c1 c2 c3 s g' c E' I') :
    Calls Try.prog 13 #[.agg (Gd.world s gC gE gI cC cE cI g), .int .i64 seat, .int .i64 input] w (Gd.Worlds w s g' c E' I') := by
  obtain ⟨w0, hw0, hbox, hres, hg0, hsz⟩ := Gd.boxes w gC gE gI cC cE cI s g
  have ca := apart_any s g c E I gC gE gI cC cE cI w0 (hL.on hg0)
  have hno' := hide hno
  have hyes' := hide hyes
  obtain ⟨b0, b1, b2, b3, b4, b5, b6, b7, b8, b9, b10⟩ := hbox.eleven
  have hbx := hide hbox
  have hrs := hide hres
  have hg0' := hide hg0
  have hsz' := hide hsz
  have ca' := hide ca
  have hfB := hbox.free
  clear hL hno hyes ca hbox hres hg0 hsz
  unfold Gd.world at hw0 ca' ⊢
  go_enter Try.func13, Try.ntmps13
  go_upto_region 1 with fail
  rw [← hw0]
  clear hw0
  obtain ⟨B, hB⟩ : ∃ B, w.heap.size = B := ⟨_, rfl⟩
  rw [hB] at hbx hrs hsz' b0 b1 b2 b3 b4 b5 b6 b7 b8 b9 b10 ⊢
  have hB' := hide hB
  rw [hB] at hfB
  clear hB
  go_cut [] from 8 (fun wx => ∃ g1 g2 g3 c1 c2 c3, Hid (Gd.Boxed w wx B g1 g2 g3 c1 c2 c3 s g c E I))
  case first =>
    go_wp2_with fail
    refine (unhide ca').mono ?_
    rintro e w1 ⟨g1, g2, g3, c1, c2, c3, rfl, hcap, l1, l2, l3, n1, n2, n3, hL1, hg1⟩
    obtain ⟨y0, y1, y2, y3, y4, y5, y6, y7, y8, y9, y10⟩ := ((unhide hbx).on hg1).eleven
    have fB := ((unhide hbx).on hg1).free
    have fin : Hid (Gd.Boxed w (w1.setCells B 0 (Gd.world s g1 g2 g3 c1 c2 c3 g).toList) B g1 g2 g3 c1 c2 c3 s g c E I) := by
      have r := grown_sets (g := B) (Gd.world s g1 g2 g3 c1 c2 c3 g).toList 0 w1 (World.grownBy.refl _ _)
      have hB := unhide hB'
      have hs := unhide hsz'
      exact ⟨⟨((unhide hbx).on hg1).whole s g g1 g2 g3 c1 c2 c3, ⟨hL1.cells.grown r (by simp; omega), hL1.ents.grown r (by simp; omega), hL1.items.grown r (by simp; omega)⟩, by omega, by omega, by omega, n1, n2, n3⟩, hB, by omega, by omega, by omega, hcap, ((unhide hrs).on hg1).grown r (by simp), own_sets (by omega) _ 0 w1 (grown_trans (unhide hg0') hg1)⟩
    unfold Gd.world at fin ⊢
    clear hcap l1 l2 l3 n1 n2 n3 hL1 hg1 b0 b1 b2 b3 b4 b5 b6 b7 b8 b9 b10 hfB ca'
    go_wp2_with fail
    go_meet
    exact ⟨g1, g2, g3, c1, c2, c3, fin⟩
  case rest =>
    obtain ⟨g1, g2, g3, c1, c2, c3, hX⟩ := hcut
    clear b0 b1 b2 b3 b4 b5 b6 b7 b8 b9 b10 hfB ca' hbx hrs hg0' hsz' hB'
    clear w0
    have cs0 := fun wx => isSeat_any seat wx
    by_cases hseat : 0 ≤ seat ∧ seat < 4
    · rw [show Gd.isSeat seat = true from decide_eq_true hseat] at cs0
      have cs := hide cs0
      clear cs0
      obtain ⟨hs0, hs4⟩ := hseat
      go_wp2_with fail
      refine (unhide cs _).mono ?_
      rintro e wy ⟨rfl, hw⟩
      subst wy
      have b5 := (unhide hX).hold.box.eleven.2.2.2.2.2.1
      have ch0 := hero_any g2 32 c2 E seat wc (unhide hX).hold.lists.own.ents (unhide hX).cap
      have hp := @Gd.hero_pos E seat
      change Calls _ _ _ _ (Says wc (.int .i64 (Gd.hero E seat))) at ch0
      obtain ⟨h, hh⟩ : ∃ h, Gd.hero E seat = h := ⟨_, rfl⟩
      rw [hh] at ch0 hp
      have ch := hide ch0
      have hp' := hide hp
      have hh' := hide hh
      clear ch0 hp hh cs
      go_wp2_with fail
      refine (unhide ch).mono ?_
      rintro e w2 ⟨rfl, hg2⟩
      have hX2 := hide ((unhide hX).on hg2)
      clear hg2 ch b5 hX
      by_cases hpos : 0 ≤ h
      · obtain ⟨k, hk, rfl, _⟩ := unhide hp' hpos
        have b5 := (unhide hX2).hold.box.eleven.2.2.2.2.2.1
        have ca := hide (unhide hyes' hs0 hs4 k hk (unhide hh') B g1 g2 g3 c1 c2 c3 w2 (unhide hX2))
        have hk' : (k : Int) < 32 := by omega
        clear hp' hh'
        go_wp2_with fail
        refine (unhide ca).mono ?_
        rintro e w3 ⟨rfl, hX3⟩
        clear ca b5 hX2
        have hbx := hide hX3
        obtain ⟨b0, b1, b2, b3, b4, b5, b6, b7, b8, b9, b10⟩ := (unhide hbx).hold.box.eleven
        have fz := (unhide hbx).res.free
        obtain ⟨z0, z1, z2, z3, z4, z5, z6, z7, z8, z9, z10⟩ := Gd.res_cells (unhide hbx).res
        have hfin := hide (fun vs => (unhide hbx).worlds vs)
        go_wp2
        refine bodyPost_ret (v := .agg (Gd.world s g1 g2 g3 c1 c2 c3 g')) (by simp [results, Try.results13, go_sem, Gd.world, z0, z1, z2, z3, z4, z5, z6, z7, z8, z9, z10]) rfl ?_
        exact unhide hfin [_, _, _, _, _, _, _, _, _, _, _]
      · obtain ⟨rfl, rfl, rfl⟩ := unhide hno' (fun hc => hpos (by rw [← unhide hh']; exact hc.2.2))
        have hneg : h < 0 := by omega
        clear hp' hh' hyes' hno'
        have hbx := hide (unhide hX2)
        obtain ⟨b0, b1, b2, b3, b4, b5, b6, b7, b8, b9, b10⟩ := (unhide hbx).hold.box.eleven
        have fz := (unhide hbx).res.free
        obtain ⟨z0, z1, z2, z3, z4, z5, z6, z7, z8, z9, z10⟩ := Gd.res_cells (unhide hbx).res
        have hfin := hide (fun vs => (unhide hbx).worlds vs)
        go_wp2
        refine bodyPost_ret (v := .agg (Gd.world s g1 g2 g3 c1 c2 c3 g')) (by simp [results, Try.results13, go_sem, Gd.world, z0, z1, z2, z3, z4, z5, z6, z7, z8, z9, z10]) rfl ?_
        exact unhide hfin [_, _, _, _, _, _, _, _, _, _, _]
    · rw [show Gd.isSeat seat = false from decide_eq_false hseat] at cs0
      have cs := hide cs0
      obtain ⟨rfl, rfl, rfl⟩ := unhide hno' (fun hc => hseat ⟨hc.1, hc.2.1⟩)
      clear cs0 hno' hyes'
      go_wp2_with fail
      refine (unhide cs _).mono ?_
      rintro e wy ⟨rfl, hw⟩
      subst wy
      have hbx := hide (unhide hX)
      obtain ⟨b0, b1, b2, b3, b4, b5, b6, b7, b8, b9, b10⟩ := (unhide hbx).hold.box.eleven
      have fz := (unhide hbx).res.free
      obtain ⟨z0, z1, z2, z3, z4, z5, z6, z7, z8, z9, z10⟩ := Gd.res_cells (unhide hbx).res
      have hfin := hide (fun vs => (unhide hbx).worlds vs)
      go_wp2
      refine bodyPost_ret (v := .agg (Gd.world s g1 g2 g3 c1 c2 c3 g')) (by simp [results, Try.results13, go_sem, Gd.world, z0, z1, z2, z3, z4, z5, z6, z7, z8, z9, z10]) rfl ?_
      exact unhide hfin [_, _, _, _, _, _, _, _, _, _, _]

theorem do_any (s g c : Nat → Int) (E I : Nat → Nat → Int) (gC gE gI cC cE cI : Nat) (seat input : Int) (w : World) (hL : Gd.Lists w gC gE gI c E I) (F : Gd.Fine c g E I) :
    Calls Try.prog 13 #[.agg (Gd.world s gC gE gI cC cE cI g), .int .i64 seat, .int .i64 input] w (Gd.Worlds w s (Gd.nextG c g E I seat input) c (Gd.nextE E I seat input) (Gd.nextI c g E I seat input)) := by
  refine do_walk s g c E I gC gE gI cC cE cI seat input w hL _ _ _ (fun h => ⟨if_neg h, if_neg h, if_neg h⟩) ?_
  intro s0 s4 k hk hh B g1 g2 g3 c1 c2 c3 x hX
  obtain ⟨t, rfl⟩ : ∃ t : Nat, seat = (t : Int) := ⟨seat.toNat, by omega⟩
  obtain ⟨k', _, hk', he, _⟩ := Gd.hero_pos (E := E) (seat := (t : Int)) (by omega)
  have ek : k' = k := by omega
  rw [ek] at he
  have c : 0 ≤ (t : Int) ∧ (t : Int) < 4 ∧ 0 ≤ Gd.hero E (t : Int) := ⟨s0, s4, by omega⟩
  unfold Gd.nextG Gd.nextE Gd.nextI
  rw [if_pos c, if_pos c, if_pos c, hh, Int.toNat_natCast, Int.toNat_natCast]
  have b1 := hX.at_
  have b2 := hX.lE
  have b3 := hX.lI
  have b4 := hX.lC
  refine (act_all (fun i => i ≠ B ∧ i ≠ g2 ∧ i ≠ g3) B g1 g2 g3 c1 c2 c3 k t s g _ E I input x hX.hold hk (by omega) he F (fun h => h.1 rfl) (fun h => h.2.1 rfl) (fun h => h.2.2 rfl)).mono ?_
  rintro e x' ⟨h1, h2, h3⟩
  exact ⟨h1, h2, hX.at_, hX.lC, hX.lE, hX.lI, hX.cap, hX.res.frame h3 ⟨by omega, by omega, by omega⟩, h3.grown hX.grown (fun i hi => ⟨by omega, by omega, by omega⟩)⟩

end Go.Proofs.Ythngbjmiblbohaa

namespace Go.Proofs.Ythngbjmiblbohaa
open Go.RowKit

set_option maxHeartbeats 800000 in
theorem refIn7_same (b n c : Nat) (I : Nat → Nat → Int) (p a q : Int) (w : World) (hI : Its w b 0 n I) :
    Calls Try.prog 29 #[.slice (some ⟨b, 0, none⟩) n c, .int .i64 p, .int .i64 a, .int .i64 q] w fun e w' => e = .returned (.int .i64 (Gd.find I n p a q)) ∧ w' = w := by
  have hn := hI.1
  have hI' := hide hI
  clear hI
  go_enter Try.func29, Try.ntmps29
  go_wp2_with fail
  go_loop [9] (fun i => ∃ k : Nat, k ≤ n ∧ i = .int .i64 (k : Int) ∧ ∀ j, j < k → Gd.inQ I p a q j = false) (fun i => 200 - (intOf i).toNat)
  case atStart => exact ⟨0, by omega, rfl, fun j hj => by omega⟩
  case round =>
    obtain ⟨k, hk, rfl, hno⟩ := hrel
    have hno' := hide hno
    clear hno
    by_cases hlt : k < n
    · obtain ⟨_, u1, u2, u3⟩ := (unhide hI').row hlt
      have hlt' : (k : Int) < (n : Int) := by omega
      have HL := hide hlt
      clear hlt
      by_cases h1 : I k 1 = p
      · by_cases h2 : I k 2 = a
        · by_cases h3 : I k 3 = q
          · have he := hide (En.first_hit (unhide hno') (Gd.inQ_yes h1 h2 h3) (unhide HL))
            go_wp2
            go_ret
            exact ⟨ret_int (unhide he).symm, rfl⟩
          · have hq := hide (Gd.inQ_no (I := I) (p := p) (a := a) (q := q) (k := k) (fun h => h3 h.2.2))
            have h3' : (I k 3 == q) = false := by simp [h3]
            go_wp2
            go_round
            case rel => exact ⟨k + 1, by have := unhide HL; omega, by go_num, fun j hj => by
              by_cases e : j = k
              · rw [e]; exact unhide hq
              · exact unhide hno' j (by omega)⟩
            case measure => simp [intOf]; omega
        · have hq := hide (Gd.inQ_no (I := I) (p := p) (a := a) (q := q) (k := k) (fun h => h2 h.2.1))
          have h2' : (I k 2 == a) = false := by simp [h2]
          go_wp2
          go_round
          case rel => exact ⟨k + 1, by have := unhide HL; omega, by go_num, fun j hj => by
            by_cases e : j = k
            · rw [e]; exact unhide hq
            · exact unhide hno' j (by omega)⟩
          case measure => simp [intOf]; omega
      · have hq := hide (Gd.inQ_no (I := I) (p := p) (a := a) (q := q) (k := k) (fun h => h1 h.1))
        have h1' : (I k 1 == p) = false := by simp [h1]
        go_wp2
        go_round
        case rel => exact ⟨k + 1, by have := unhide HL; omega, by go_num, fun j hj => by
          by_cases e : j = k
          · rw [e]; exact unhide hq
          · exact unhide hno' j (by omega)⟩
        case measure => simp [intOf]; omega
    · have hge : ¬ (k : Int) < (n : Int) := by omega
      have he := hide (En.first_none (n := n) (fun j hj => unhide hno' j (by omega)))
      go_wp2
      go_ret
      exact ⟨ret_int (unhide he).symm, rfl⟩

set_option maxHeartbeats 800000 in
theorem refSlot_same (b n c : Nat) (I : Nat → Nat → Int) (seat : Int) (w : World) (hI : Its w b 0 n I) :
    Calls Try.prog 34 #[.slice (some ⟨b, 0, none⟩) n c, .int .i64 seat] w fun e w' => e = .returned (.int .i64 (Gd.slot I n seat)) ∧ w' = w := by
  have ci : Hid (∀ q, Calls Try.prog 29 #[.slice (some ⟨b, 0, none⟩) n c, .int .i64 2, .int .i64 seat, .int .i64 q] w fun e w' => e = .returned (.int .i64 (Gd.find I n 2 seat q)) ∧ w' = w) := fun q => refIn7_same b n c I 2 seat q w hI
  clear hI
  go_enter Try.func34, Try.ntmps34
  go_wp2_with fail
  go_loop [5] (fun i => ∃ k : Nat, k ≤ 4 ∧ i = .int .i64 (k : Int) ∧ (∀ j : Nat, j < k → decide (Gd.find I n 2 seat (j : Int) < 0) = false)) (fun i => 200 - (intOf i).toNat)
  case atStart => exact ⟨0, by omega, rfl, fun j hj => by omega⟩
  case round =>
    obtain ⟨k, hk, rfl, hno⟩ := hrel
    have hno' := hide hno
    clear hno
    by_cases hlt : k < 4
    · have hlt' : (k : Int) < 4 := by omega
      have HL := hide hlt
      have cat := hide (unhide ci (k : Int))
      obtain ⟨f, hf⟩ : ∃ f, Gd.find I n 2 seat (k : Int) = f := ⟨_, rfl⟩
      rw [hf] at cat
      have hf' := hide hf
      clear hlt hf
      go_wp2_with fail
      refine (unhide cat).mono ?_
      rintro e w1 ⟨rfl, hw⟩
      subst w1
      clear cat
      by_cases hneg : f < 0
      · have he := hide (En.first_hit (q := fun b : Nat => decide (Gd.find I n 2 seat (b : Int) < 0)) (unhide hno') (by show decide _ = true; rw [unhide hf']; exact decide_eq_true hneg) (unhide HL))
        go_wp2
        go_ret
        exact ⟨ret_int (unhide he).symm, rfl⟩
      · have hq := hide (show decide (Gd.find I n 2 seat (k : Int) < 0) = false by rw [unhide hf']; exact decide_eq_false hneg)
        go_wp2
        go_round
        case rel => exact ⟨k + 1, by have := unhide HL; omega, by go_num, fun j hj => by
          by_cases e : j = k
          · rw [e]; exact unhide hq
          · exact unhide hno' j (by omega)⟩
        case measure => simp [intOf]; omega
    · have hge : ¬ (k : Int) < 4 := by omega
      have he := hide (En.first_none (n := 4) (q := fun b : Nat => decide (Gd.find I n 2 seat (b : Int) < 0)) (fun j hj => unhide hno' j (by omega)))
      go_wp2
      go_ret
      exact ⟨ret_int (unhide he).symm, rfl⟩

set_option maxHeartbeats 800000 in
theorem refHas_same (b n c : Nat) (I : Nat → Nat → Int) (seat lo hi : Int) (w : World) (hI : Its w b 0 n I) :
    Calls Try.prog 36 #[.slice (some ⟨b, 0, none⟩) n c, .int .i64 seat, .int .i64 lo, .int .i64 hi] w fun e w' => e = .returned (.int .i64 (Gd.has I n seat lo hi)) ∧ w' = w := by
  have ci : Hid (∀ q, Calls Try.prog 29 #[.slice (some ⟨b, 0, none⟩) n c, .int .i64 2, .int .i64 seat, .int .i64 q] w fun e w' => e = .returned (.int .i64 (Gd.find I n 2 seat q)) ∧ w' = w) := fun q => refIn7_same b n c I 2 seat q w hI
  have hI' := hide hI
  clear hI
  rw [Gd.has_car]
  go_enter Try.func36, Try.ntmps36
  go_wp2_with fail
  go_loop [9] (fun i => ∃ k : Nat, k ≤ 4 ∧ i = .int .i64 (k : Int) ∧ (∀ j : Nat, j < k → Gd.carQ I n seat (fun k => decide (lo ≤ k) && decide (k ≤ hi)) j = false)) (fun i => 200 - (intOf i).toNat)
  case atStart => exact ⟨0, by omega, rfl, fun j hj => by omega⟩
  case round =>
    obtain ⟨k, hk, rfl, hno⟩ := hrel
    have hno' := hide hno
    clear hno
    by_cases hlt : k < 4
    · have hlt' : (k : Int) < 4 := by omega
      have HL := hide hlt
      have cat := hide (unhide ci (k : Int))
      have hfl := hide (Gd.find_lt (I := I) (n := n) (p := 2) (a := seat) (q := (k : Int)))
      have hqd := hide (show Gd.carQ I n seat (fun k => decide (lo ≤ k) && decide (k ≤ hi)) k = (decide (0 ≤ Gd.find I n 2 seat (k : Int)) && (decide (lo ≤ I (Gd.find I n 2 seat (k : Int)).toNat 0) && decide (I (Gd.find I n 2 seat (k : Int)).toNat 0 ≤ hi))) from rfl)
      obtain ⟨f, hf⟩ : ∃ f, Gd.find I n 2 seat (k : Int) = f := ⟨_, rfl⟩
      have hf' := hide hf
      rw [hf] at cat hfl hqd
      clear hlt hf
      go_wp2_with fail
      refine (unhide cat).mono ?_
      rintro e w1 ⟨rfl, hw⟩
      subst w1
      clear cat
      by_cases hpos : 0 ≤ f
      · obtain ⟨m, hm, rfl⟩ : ∃ m : Nat, m < n ∧ f = (m : Int) := ⟨f.toNat, (unhide hfl hpos).1, (unhide hfl hpos).2⟩
        have u0 := ((unhide hI').row hm).1
        have hm' : (m : Int) < (n : Int) := by omega
        have hqd2 : Hid (Gd.carQ I n seat (fun k => decide (lo ≤ k) && decide (k ≤ hi)) k = (decide (lo ≤ I m 0) && decide (I m 0 ≤ hi))) := by
          show _ = _
          rw [unhide hqd, decide_eq_true hpos, Bool.true_and, Int.toNat_natCast]
        clear hfl hqd hm
        by_cases hlo : lo ≤ I m 0
        · by_cases hhi : I m 0 ≤ hi
          · have he := hide ((Gd.car_hit (unhide hno') ((unhide hqd2).trans (by simp [hlo, hhi])) (unhide HL)).trans (unhide hf'))
            go_wp2
            go_ret
            exact ⟨ret_int (unhide he).symm, rfl⟩
          · have hqf := hide ((unhide hqd2).trans (by simp [hhi] : _ = false))
            go_wp2
            go_round
            case rel => exact ⟨k + 1, by have := unhide HL; omega, by go_num, fun j hj => by
              by_cases e : j = k
              · rw [e]; exact unhide hqf
              · exact unhide hno' j (by omega)⟩
            case measure => simp [intOf]; omega
        · have hqf := hide ((unhide hqd2).trans (by simp [hlo] : _ = false))
          go_wp2
          go_round
          case rel => exact ⟨k + 1, by have := unhide HL; omega, by go_num, fun j hj => by
            by_cases e : j = k
            · rw [e]; exact unhide hqf
            · exact unhide hno' j (by omega)⟩
          case measure => simp [intOf]; omega
      · have hqf : Hid (Gd.carQ I n seat (fun k => decide (lo ≤ k) && decide (k ≤ hi)) k = false) := by
          show _ = _
          rw [unhide hqd, decide_eq_false hpos, Bool.false_and]
        have hneg : f < 0 := by omega
        clear hfl hqd
        go_wp2
        go_round
        case rel => exact ⟨k + 1, by have := unhide HL; omega, by go_num, fun j hj => by
          by_cases e : j = k
          · rw [e]; exact unhide hqf
          · exact unhide hno' j (by omega)⟩
        case measure => simp [intOf]; omega
    · have hge : ¬ (k : Int) < 4 := by omega
      have he := hide (Gd.car_none (fun j hj => unhide hno' j (by omega)))
      go_wp2
      go_ret
      exact ⟨ret_int (unhide he).symm, rfl⟩

theorem refPotion_same (b n c : Nat) (I : Nat → Nat → Int) (seat : Int) (w : World) (hI : Its w b 0 n I) :
    Calls Try.prog 35 #[.slice (some ⟨b, 0, none⟩) n c, .int .i64 seat] w fun e w' => e = .returned (.int .i64 (Gd.has I n seat 1 1)) ∧ w' = w := by
  have ch := hide (refHas_same b n c I seat 1 1 w hI)
  clear hI
  obtain ⟨r, hr⟩ : ∃ r, Gd.has I n seat 1 1 = r := ⟨_, rfl⟩
  rw [hr] at ch ⊢
  clear hr
  go_enter Try.func35, Try.ntmps35
  go_wp2_with fail
  refine (unhide ch).mono ?_
  rintro e w1 ⟨rfl, hw⟩
  subst w1
  clear ch
  go_wp2
  go_ret
  exact ⟨rfl, rfl⟩

end Go.Proofs.Ythngbjmiblbohaa
