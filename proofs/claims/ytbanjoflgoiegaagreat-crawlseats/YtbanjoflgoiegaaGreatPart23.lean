/-
  GoodsTwin GoodsRefMore GoodsHero MindsMath MindsRobot NavBeside MindsSeen GenPick
-/
import Derived.Test.YtbanjoflgoiegaaGreatPart22
import Derived.Test.YtbanjoflgoiegaaGreatPart16
import Derived.BigQuiet
import Derived.Deep.Cut
import Derived.Deep.CutRange
import Derived.Deep.CutBlock
import Derived.Deep.RegionHeld3
import Derived.Test.YtbanjoflgoiegaaGreatPart04
import Derived.Test.YtbanjoflgoiegaaGreatPart03
import Derived.Test.YtbanjoflgoiegaaGreatPart01
import Derived.Test.YtbanjoflgoiegaaGreatPart13
namespace Go.Proofs.YtbanjoflgoiegaaGreat
open Go.RowKit

structure Gd.Part (w x : World) (B gC gE gI cC cE cI : Nat) (s g : Nat → Int) : Prop where
  box : Lie x B 30 11 (Gd.box s gC gE gI cC cE cI g)
  res : Lie x (B + 1) 30 11 (fun j => #[.int .i64 0, .int .i64 0, .int .i64 0, .int .i64 0, .slice none 0 0, .slice none 0 0, .slice none 0 0, .int .i64 0, .int .i64 0, .int .i64 0, Value.int .i64 0][j]?.getD undef)
  at_ : w.heap.size = B
  two : B + 2 ≤ x.heap.size
  grown : w.grownBy x none

theorem Gd.Part.on {w x y : World} {B gC gE gI cC cE cI : Nat} {s g : Nat → Int} (h : Gd.Part w x B gC gE gI cC cE cI s g) (hg : x.grownBy y none) : Gd.Part w y B gC gE gI cC cE cI s g :=
  ⟨h.box.on hg, h.res.on hg, h.at_, Nat.le_trans h.two hg.size, grown_trans h.grown hg⟩

theorem Gd.Part.set {w x : World} {B gC gE gI cC cE cI : Nat} {s g : Nat → Int} (h : Gd.Part w x B gC gE gI cC cE cI s g) (i : Nat) (v : Value) (gC' gE' gI' cC' cE' cI' : Nat) (he : ∀ j, j < 11 → (if j = i then v else Gd.box s gC gE gI cC cE cI g j) = Gd.box s gC' gE' gI' cC' cE' cI' g j) : Gd.Part w (x.setCell ⟨B, i, none⟩ v) B gC' gE' gI' cC' cE' cI' s g := by
  have hB := h.at_
  have r := grown_set0 x B i v
  exact ⟨(h.box.store i v).congr he, h.res.grown r (by simp), h.at_, by simpa using h.two, grown_store h.grown ⟨B, i, none⟩ (by show w.heap.size ≤ B; omega) v⟩

theorem Gd.box_4 (s g : Nat → Int) (gC gE gI cC cE cI g1 c1 : Nat) : ∀ j, j < 11 → (if j = 4 then Value.slice (some ⟨g1, 0, none⟩) 384 c1 else Gd.box s gC gE gI cC cE cI g j) = Gd.box s g1 gE gI c1 cE cI g j := by
  intro j hj
  rcases (show j = 0 ∨ j = 1 ∨ j = 2 ∨ j = 3 ∨ j = 4 ∨ j = 5 ∨ j = 6 ∨ j = 7 ∨ j = 8 ∨ j = 9 ∨ j = 10 by omega) with rfl | rfl | rfl | rfl | rfl | rfl | rfl | rfl | rfl | rfl | rfl <;> rfl

theorem Gd.box_5 (s g : Nat → Int) (gC gE gI cC cE cI g1 c1 : Nat) : ∀ j, j < 11 → (if j = 5 then Value.slice (some ⟨g1, 0, none⟩) 32 c1 else Gd.box s gC gE gI cC cE cI g j) = Gd.box s gC g1 gI cC c1 cI g j := by
  intro j hj
  rcases (show j = 0 ∨ j = 1 ∨ j = 2 ∨ j = 3 ∨ j = 4 ∨ j = 5 ∨ j = 6 ∨ j = 7 ∨ j = 8 ∨ j = 9 ∨ j = 10 by omega) with rfl | rfl | rfl | rfl | rfl | rfl | rfl | rfl | rfl | rfl | rfl <;> rfl

theorem Gd.box_6 (s g : Nat → Int) (gC gE gI cC cE cI g1 c1 : Nat) : ∀ j, j < 11 → (if j = 6 then Value.slice (some ⟨g1, 0, none⟩) 40 c1 else Gd.box s gC gE gI cC cE cI g j) = Gd.box s gC gE g1 cC cE c1 g j := by
  intro j hj
  rcases (show j = 0 ∨ j = 1 ∨ j = 2 ∨ j = 3 ∨ j = 4 ∨ j = 5 ∨ j = 6 ∨ j = 7 ∨ j = 8 ∨ j = 9 ∨ j = 10 by omega) with rfl | rfl | rfl | rfl | rfl | rfl | rfl | rfl | rfl | rfl | rfl <;> rfl

end Go.Proofs.YtbanjoflgoiegaaGreat

namespace Go.Proofs.YtbanjoflgoiegaaGreat
open Go.RowKit

end Go.Proofs.YtbanjoflgoiegaaGreat

namespace Go.Proofs.YtbanjoflgoiegaaGreat
open Go.RowKit

set_option maxHeartbeats 800000 in
theorem refHero_any (b n c : Nat) (E : Nat → Nat → Int) (seat : Int) (w : World) (hE : Ents w b n E) :
    Calls Tryz.prog 22 #[.slice (some ⟨b, 0, none⟩) n c, .int .i64 seat] w (Says w (.int .i64 (En.first (En.heroQ E seat) n))) := by
  have hn := hE.1
  have hE' := hide hE
  skip
  clear hE
  go_enter Tryz.func22, Tryz.ntmps22
  go_wp2_with fail
  go_loop [5] (fun i => ∃ k : Nat, k ≤ n ∧ i = .int .i64 (k : Int) ∧ ∀ j, j < k → En.heroQ E seat j = false) (fun i => 40 - (intOf i).toNat)
  case atStart => exact ⟨0, by omega, rfl, fun j hj => by omega⟩
  case round =>
    obtain ⟨k, hk, rfl, hno⟩ := hrel
    have hno' := hide hno
    clear hno
    by_cases hlt : k < n
    · obtain ⟨u0, _, u2, _⟩ := (unhide hE').row hlt
      have hlt' : (k : Int) < (n : Int) := by omega
      have HL := hide hlt
      skip
      clear hlt
      by_cases hf : E k 0 = 1
      · by_cases h3 : E k 2 = seat
        · have hq : Hid (En.heroQ E seat k = true) := by show En.heroQ E seat k = true; simp [En.heroQ, hf, h3]
          have he := hide (En.first_hit (unhide hno') (unhide hq) (unhide HL))
          go_wp2
          go_ret
          exact ⟨ret_int (unhide he).symm, World.grownBy.refl _ _⟩
        · have hq : Hid (En.heroQ E seat k = false) := by show En.heroQ E seat k = false; simp [En.heroQ, h3]
          have h3' : (E k 2 == seat) = false := by simp [h3]
          go_wp2
          go_round
          case rel => exact ⟨k + 1, by have := unhide HL; omega, by go_num, fun j hj => by
            by_cases e : j = k
            · rw [e]; exact unhide hq
            · exact unhide hno' j (by omega)⟩
          case measure => simp [intOf]; omega
      · have hq : Hid (En.heroQ E seat k = false) := by show En.heroQ E seat k = false; simp [En.heroQ, hf]
        have hf' : (E k 0 == 1) = false := by simp [hf]
        go_wp2
        go_round
        case rel => exact ⟨k + 1, by have := unhide HL; omega, by go_num, fun j hj => by
          by_cases e : j = k
          · rw [e]; exact unhide hq
          · exact unhide hno' j (by omega)⟩
        case measure => simp [intOf]; omega
    · have hge : ¬ (k : Int) < (n : Int) := by omega
      have he := hide (En.first_none (n := n) (fun j hj => unhide hno' j (by omega)))
      go_wp2
      go_ret
      exact ⟨ret_int (unhide he).symm, World.grownBy.refl _ _⟩

theorem refHero7_any (g c : Nat) (E : Nat → Nat → Int) (seat : Int) (w : World) (h : Own w g 32 E) :
    Calls Tryz.prog 22 #[.slice (some ⟨g, 0, none⟩) 32 c, .int .i64 seat] w (Says w (.int .i64 (Gd.hero E seat))) := refHero_any g 32 c E seat w h.ents

end Go.Proofs.YtbanjoflgoiegaaGreat

namespace Go.Proofs.YtbanjoflgoiegaaGreat
open Go.RowKit

def Md.Fine (E : Nat → Nat → Int) : Prop := ∀ k, k < 32 → E k 0 ≠ 0 → 0 ≤ E k 3 ∧ E k 3 < 24 ∧ 0 ≤ E k 4 ∧ E k 4 < 16 ∧ 0 ≤ E k 6 ∧ E k 6 ≤ 20

def Md.who (E : Nat → Nat → Int) (x y : Int) (d : Nat) : Int := En.first (En.atQ E (x + (Fx.way (d : Int)).1) (y + (Fx.way (d : Int)).2)) 32

def Md.foe (E : Nat → Nat → Int) (x y : Int) (d : Nat) : Bool := decide (0 ≤ Md.who E x y d) && !(decide (E (Md.who E x y d).toNat 0 = 1))

def Md.robotAt (c : Nat → Int) (E I : Nat → Nat → Int) (seat : Int) (k : Nat) (v : Int) : Prop :=
  if E k 5 ≤ E k 6 / 3 ∧ 0 ≤ Gd.has I 40 seat 1 1 then v = 6
  else if Nv.wayFrom (Md.foe E (E k 3) (E k 4)) 4 1 ≠ 0 then v = Nv.wayFrom (Md.foe E (E k 3) (E k 4)) 4 1
  else if 0 ≤ Gd.find I 40 1 (E k 3) (E k 4) ∧ (I (Gd.find I 40 1 (E k 3) (E k 4)).toNat 0 = 4 ∨ 0 ≤ Gd.slot I 40 seat) then v = 5
  else if Gr.at 384 c (E k 3) (E k 4) = 4 then v = 9
  else Nv.IsToward c (fun _ => Gr.find 384 c 4) 1 E 32 (E k 3) (E k 4) v

def Md.IsRobot (c : Nat → Int) (E I : Nat → Nat → Int) (seat v : Int) : Prop :=
  if Gd.hero E seat < 0 then v = 0 else Md.robotAt c E I seat (Gd.hero E seat).toNat v

theorem Md.robotAt_one {c : Nat → Int} {E I : Nat → Nat → Int} {seat : Int} {k : Nat} {u v : Int} (h : Md.robotAt c E I seat k u) (h' : Md.robotAt c E I seat k v) : v = u := by
  unfold Md.robotAt at h h'
  by_cases h1 : E k 5 ≤ E k 6 / 3 ∧ 0 ≤ Gd.has I 40 seat 1 1
  · rw [if_pos h1] at h h'; omega
  rw [if_neg h1] at h h'
  by_cases h2 : Nv.wayFrom (Md.foe E (E k 3) (E k 4)) 4 1 ≠ 0
  · rw [if_pos h2] at h h'; omega
  rw [if_neg h2] at h h'
  by_cases h3 : 0 ≤ Gd.find I 40 1 (E k 3) (E k 4) ∧ (I (Gd.find I 40 1 (E k 3) (E k 4)).toNat 0 = 4 ∨ 0 ≤ Gd.slot I 40 seat)
  · rw [if_pos h3] at h h'; omega
  rw [if_neg h3] at h h'
  by_cases h4 : Gr.at 384 c (E k 3) (E k 4) = 4
  · rw [if_pos h4] at h h'; omega
  rw [if_neg h4] at h h'
  exact h.one h'

theorem Md.IsRobot.one {c : Nat → Int} {E I : Nat → Nat → Int} {seat u v : Int} (h : Md.IsRobot c E I seat u) (h' : Md.IsRobot c E I seat v) : v = u := by
  unfold Md.IsRobot at h h'
  by_cases h1 : Gd.hero E seat < 0
  · rw [if_pos h1] at h h'; omega
  · rw [if_neg h1] at h h'
    exact Md.robotAt_one h h'

theorem Md.hero_row {E : Nat → Nat → Int} {seat : Int} (h : ¬ Gd.hero E seat < 0) : ∃ k : Nat, k < 32 ∧ Gd.hero E seat = (k : Int) ∧ E k 0 = 1 ∧ E k 2 = seat := by
  unfold Gd.hero at h ⊢
  rcases En.first_cases (En.heroQ E seat) 32 with ⟨he, _⟩ | ⟨k, hk, he, hq, _⟩
  · omega
  · simp only [En.heroQ, Bool.and_eq_true, decide_eq_true_eq] at hq
    exact ⟨k, hk, he, hq.1, hq.2⟩

theorem Md.who_row {E : Nat → Nat → Int} {x y : Int} {d : Nat} : Md.who E x y d = -1 ∨ ∃ j : Nat, j < 32 ∧ Md.who E x y d = (j : Int) := by
  unfold Md.who
  rcases En.first_cases (En.atQ E (x + (Fx.way (d : Int)).1) (y + (Fx.way (d : Int)).2)) 32 with ⟨he, _⟩ | ⟨j, hj, he, _⟩
  · exact .inl he
  · exact .inr ⟨j, hj, he⟩

theorem Md.way_small (d : Nat) : -1 ≤ (Fx.way (d : Int)).1 ∧ (Fx.way (d : Int)).1 ≤ 1 ∧ -1 ≤ (Fx.way (d : Int)).2 ∧ (Fx.way (d : Int)).2 ≤ 1 := by
  unfold Fx.way
  split
  · simp
  · split
    · simp
    · split
      · simp
      · split <;> simp

end Go.Proofs.YtbanjoflgoiegaaGreat

namespace Go.Proofs.YtbanjoflgoiegaaGreat
open Go.RowKit

theorem Lie.copied (x : World) (e : Nat → Int) (T : TypeId) : Lie (x.alloc (.cells (En.cells e) T)) x.heap.size T 11 (Ints e) :=
  Lie.congr (m := 11) (Arr.lit (heap_alloc_new x (.cells (En.cells e) T))).lie fun j hj => by
    rcases (show j = 0 ∨ j = 1 ∨ j = 2 ∨ j = 3 ∨ j = 4 ∨ j = 5 ∨ j = 6 ∨ j = 7 ∨ j = 8 ∨ j = 9 ∨ j = 10 by omega) with rfl | rfl | rfl | rfl | rfl | rfl | rfl | rfl | rfl | rfl | rfl <;> rfl

structure Gd.Shown (w x : World) (B gC gE gI cC cE cI : Nat) (s g c : Nat → Int) (E I : Nat → Nat → Int) : Prop where
  box : Lie x B 30 11 (Gd.box s gC gE gI cC cE cI g)
  lists : Gd.Lists x gC gE gI c E I
  grown : w.grownBy x none

theorem Gd.Shown.on {w x y : World} {B gC gE gI cC cE cI : Nat} {s g c : Nat → Int} {E I : Nat → Nat → Int} (h : Gd.Shown w x B gC gE gI cC cE cI s g c E I) (hg : x.grownBy y none) : Gd.Shown w y B gC gE gI cC cE cI s g c E I :=
  ⟨h.box.on hg, h.lists.on hg, grown_trans h.grown hg⟩

def Md.Says (w : World) (p : Int → Prop) (e : Ending) (w' : World) : Prop := ∃ v, p v ∧ e = .returned (.int .i64 v) ∧ w.grownBy w' none

theorem Md.find_bd (f : Nat → Int) (kind : Int) : ∀ (n k : Nat), -1 ≤ Gr.findFrom f kind n k ∧ Gr.findFrom f kind n k ≤ (k : Int) + n
  | 0, k => by unfold Gr.findFrom; omega
  | n + 1, k => by
    unfold Gr.findFrom
    have := Md.find_bd f kind n (k + 1)
    split <;> omega

end Go.Proofs.YtbanjoflgoiegaaGreat

namespace Go.Proofs.YtbanjoflgoiegaaGreat
open Go.RowKit

end Go.Proofs.YtbanjoflgoiegaaGreat

namespace Go.Proofs.YtbanjoflgoiegaaGreat
open Go.RowKit

def Md.Takes (c : Nat → Int) (x y hx hy r b a : Int) : Prop := r ≤ 1536 ∧ Gr.Sees 384 c x y hx hy ∧ (a < 0 ∨ r < b)

def Md.Seen (c : Nat → Int) (E : Nat → Nat → Int) (x y : Int) : Nat → Int → Int → Prop
  | 0, b, a => b = 0 ∧ a = -1
  | t + 1, b, a => ∃ b0 a0, Md.Seen c E x y t b0 a0 ∧
      ((Gd.hero E (t : Int) < 0 ∧ b = b0 ∧ a = a0) ∨
       ∃ (h : Nat) (r : Int), Gd.hero E (t : Int) = (h : Int) ∧ Fx.isRoot (((E h 3 - x) * (E h 3 - x) + (E h 4 - y) * (E h 4 - y)) * 65536) r ∧
         ((Md.Takes c x y (E h 3) (E h 4) r b0 a0 ∧ b = r ∧ a = (h : Int)) ∨ (¬ Md.Takes c x y (E h 3) (E h 4) r b0 a0 ∧ b = b0 ∧ a = a0)))

theorem Md.Seen.one {c : Nat → Int} {E : Nat → Nat → Int} {x y : Int} : ∀ {t : Nat} {b a b' a' : Int}, Md.Seen c E x y t b a → Md.Seen c E x y t b' a' → b' = b ∧ a' = a
  | 0, b, a, b', a', h, h' => ⟨h'.1.trans h.1.symm, h'.2.trans h.2.symm⟩
  | t + 1, b, a, b', a', h, h' => by
    obtain ⟨b0, a0, hs, hc⟩ := h
    obtain ⟨b1, a1, hs', hc'⟩ := h'
    obtain ⟨rfl, rfl⟩ := Md.Seen.one hs hs'
    rcases hc with ⟨h0, hb, ha⟩ | ⟨k, r, hk, hr, hc⟩
    · rcases hc' with ⟨_, hb', ha'⟩ | ⟨k', r', hk', _, _⟩
      · exact ⟨hb'.trans hb.symm, ha'.trans ha.symm⟩
      · omega
    · rcases hc' with ⟨h0', _, _⟩ | ⟨k', r', hk', hr', hc'⟩
      · omega
      · obtain rfl : k' = k := by omega
        obtain rfl : r' = r := Fx.root_one hr' hr
        rcases hc with ⟨ht, hb, ha⟩ | ⟨ht, hb, ha⟩
        · rcases hc' with ⟨_, hb', ha'⟩ | ⟨ht', _, _⟩
          · exact ⟨hb'.trans hb.symm, ha'.trans ha.symm⟩
          · exact absurd ht ht'
        · rcases hc' with ⟨ht', _, _⟩ | ⟨_, hb', ha'⟩
          · exact absurd ht' ht
          · exact ⟨hb'.trans hb.symm, ha'.trans ha.symm⟩

def Md.stray (s c : Nat → Int) (E : Nat → Nat → Int) (k : Nat) : Int :=
  if (1 ≤ Dc.die 8 (s 0) [s 1, (k : Int), 90] ∧ Dc.die 8 (s 0) [s 1, (k : Int), 90] ≤ 4) ∧ Gr.walkB (Gr.at 384 c (E k 3 + (Fx.way (Dc.die 8 (s 0) [s 1, (k : Int), 90])).1) (E k 4 + (Fx.way (Dc.die 8 (s 0) [s 1, (k : Int), 90])).2)) = true ∧ En.first (En.atQ E (E k 3 + (Fx.way (Dc.die 8 (s 0) [s 1, (k : Int), 90])).1) (E k 4 + (Fx.way (Dc.die 8 (s 0) [s 1, (k : Int), 90])).2)) 32 < 0
  then Dc.die 8 (s 0) [s 1, (k : Int), 90] else 0

def Md.monsterAt (s c : Nat → Int) (E : Nat → Nat → Int) (k : Nat) (v : Int) : Prop :=
  ∃ b a, Md.Seen c E (E k 3) (E k 4) 4 b a ∧
    ((a < 0 ∧ v = Md.stray s c E k) ∨
     ∃ h : Nat, a = (h : Int) ∧
       if 0 < Nv.beside (E h 3 - E k 3) (E h 4 - E k 4) then v = Nv.beside (E h 3 - E k 3) (E h 4 - E k 4)
       else Nv.IsToward c (fun _ => E h 4 * 24 + E h 3) 1 E 32 (E k 3) (E k 4) v)

def Md.IsMonster (s c : Nat → Int) (E : Nat → Nat → Int) (row v : Int) : Prop :=
  if (row < 0 ∨ 32 ≤ row) ∨ E row.toNat 0 = 0 ∨ E row.toNat 0 = 1 then v = 0 else Md.monsterAt s c E row.toNat v

theorem Md.IsMonster.one {s c : Nat → Int} {E : Nat → Nat → Int} {row u v : Int} (h : Md.IsMonster s c E row u) (h' : Md.IsMonster s c E row v) : v = u := by
  unfold Md.IsMonster at h h'
  by_cases h1 : (row < 0 ∨ 32 ≤ row) ∨ E row.toNat 0 = 0 ∨ E row.toNat 0 = 1
  · rw [if_pos h1] at h h'; omega
  · rw [if_neg h1] at h h'
    obtain ⟨b, a, hs, hc⟩ := h
    obtain ⟨b', a', hs', hc'⟩ := h'
    obtain ⟨rfl, rfl⟩ := Md.Seen.one hs hs'
    rcases hc with ⟨h0, hv⟩ | ⟨k, hk, hv⟩
    · rcases hc' with ⟨_, hv'⟩ | ⟨k', hk', _⟩
      · exact hv'.trans hv.symm
      · omega
    · rcases hc' with ⟨h0', _⟩ | ⟨k', hk', hv'⟩
      · omega
      · obtain rfl : k' = k := by omega
        by_cases h2 : 0 < Nv.beside (E k' 3 - E row.toNat 3) (E k' 4 - E row.toNat 4)
        · rw [if_pos h2] at hv hv'; exact hv'.trans hv.symm
        · rw [if_neg h2] at hv hv'; exact hv.one hv'

end Go.Proofs.YtbanjoflgoiegaaGreat

namespace Go.Proofs.YtbanjoflgoiegaaGreat
open Go.RowKit

def Gn.free (c F : Nat → Int) (far : Int) (U : Nat → Bool) (i : Nat) : Bool := c i == 1 && decide (far ≤ F i) && !U i

def Gn.picked (d : Gn.Dice) (a : Int) (l : List Nat) : Int := if l.length = 0 then -1 else ((l[(d a 0 (l.length : Int)).toNat]?.getD 0 : Nat) : Int)

set_option maxRecDepth 8000 in
set_option maxHeartbeats 1600000 in
theorem pick_any (s f : Int) (d : Gn.Dice) (hd : ∀ a b n, Gn.D s f a b n = d a b n) (hFr : Gn.Fair d) (G gF gU : Nat) (c F : Nat → Int) (far a : Int) (U : Nat → Bool) (w : World) (hA : Arr w G 5 384 (Byts c)) (hF : Arr w gF 3 384 (Ints F)) (hU : Arr w gU 4 384 (Bols U)) :
    Calls Tryz.prog 63 #[.slice (some ⟨G, 0, none⟩) 384 384, .slice (some ⟨gF, 0, none⟩) 384 384, .int .i64 far, .slice (some ⟨gU, 0, none⟩) 384 384, .int .i64 s, .int .i64 f, .int .i64 a] w
      (Says w (.int .i64 (Gn.picked d a (Gn.those (Gn.free c F far U) 384)))) := by
  have hA' := hide hA
  have hF' := hide hF
  have hU' := hide hU
  have hd' := hide hd
  have hFr' := hide hFr
  obtain ⟨i0, hi, hz0, hz1, hz2⟩ := info_parts info_int
  clear hA hF hU hd hFr
  go_enter Tryz.func63, Tryz.ntmps63
  go_wp2_with fail
  go_loopw [15, 16] (fun v i wr => ∃ k : Nat, k ≤ 384 ∧ i = .int .i64 (k : Int) ∧ Lst wr w.heap.size v (Gn.those (Gn.free c F far U) k) ∧ w.grownBy wr none) (fun _ i _ => 400 - (intOf i).toNat)
  case atStart => exact ⟨0, by omega, rfl, World.ownsRow_nil _ _ _ _, World.grownBy.refl _ _⟩
  case round =>
    obtain ⟨k, hk, rfl, hown, hg⟩ := hrel
    have hown1 := hide hown
    have hg1 := hide hg
    have hsz := hg.size
    have hln := Gn.those_len (Gn.free c F far U) k
    clear hown hg
    by_cases hlt : k < 384
    · have q1 : wr.cell? ⟨G, k, none⟩ = some (.int .u8 (c k)) := ((unhide hA').grown (unhide hg1) (by simp)).cell hlt
      have q2 : wr.cell? ⟨gF, k, none⟩ = some (.int .i64 (F k)) := ((unhide hF').grown (unhide hg1) (by simp)).cell hlt
      have q3 : wr.cell? ⟨gU, k, none⟩ = some (.bool (U k)) := ((unhide hU').grown (unhide hg1) (by simp)).cell hlt
      have hlt' : (k : Int) < 384 := by omega
      have HL := hide hlt
      clear hlt hk
      by_cases hq : Gn.free c F far U k = true
      · have hyes := hide (Gn.those_yes hq)
        have hq2 := hq
        unfold Gn.free at hq2
        simp only [Bool.and_eq_true, decide_eq_true_eq, Bool.not_eq_true'] at hq2
        obtain ⟨⟨r1, r2⟩, r3⟩ := hq2
        obtain ⟨l, hl⟩ : ∃ l, l = Gn.those (Gn.free c F far U) k := ⟨_, rfl⟩
        rw [← hl] at hown1 hln hyes
        clear hl hq
        go_wp2_with (at_builtin; refine wpList_append_own _ rfl _ _ 38 rfl w.heap.size 3 i0 (.int .i64 0) 1 8 Tryz.underlying38 hi hz0 hz1 hz2 rfl (by decide) _ _ _ rfl ((unhide hown1).alloc _) ⟨wr.heap.size, 0, none⟩ 1 1 [.int .i64 (k : Int)] rfl rfl ?_ ?_ ?_ ?_ ?_ ?_)
        · exact one_at _ _ _ _ rfl
        · intro u hu; simp at hu; subst hu; rfl
        · unfold maxLen; omega
        · omega
        · simp; omega
        intro v' w1 hown' hgrow _
        rw [natInts_more] at hown'
        have hown2 : Hid (Lst w1 w.heap.size v' (Gn.those (Gn.free c F far U) (k + 1))) := by
          rw [unhide hyes]
          show w1.ownsRow _ _ _ _ _ _
          rw [List.length_append]
          exact hown'
        have hg2 := hide (grown_own (grown_alloc (unhide hg1) _) hgrow (fun n e => ((unhide hown1).lt n e).1))
        clear hown' hgrow hown1 hg1
        go_wp2
        go_roundw
        case rel => exact ⟨k + 1, by have := unhide HL; omega, by go_num, unhide hown2, unhide hg2⟩
        case measure => simp [intOf]; omega
      · have hq' : Gn.free c F far U k = false := by simpa using hq
        have hno := hide (Gn.those_no hq')
        have hcs : (c k == 1) = false ∨ ((c k == 1) = true ∧ ¬ far ≤ F k) ∨ ((c k == 1) = true ∧ far ≤ F k ∧ U k = true) := by
          unfold Gn.free at hq'
          cases h1 : (c k == 1) with
          | false => exact .inl rfl
          | true =>
            rw [h1] at hq'
            by_cases h2 : far ≤ F k
            · right; right
              refine ⟨rfl, h2, ?_⟩
              simpa [h2] using hq'
            · exact .inr (.inl ⟨rfl, h2⟩)
        clear hq hq'
        rcases hcs with r1 | ⟨r1, r2⟩ | ⟨r1, r2, r3⟩
        · go_wp2
          go_roundw
          case rel => exact ⟨k + 1, by have := unhide HL; omega, by go_num, by rw [unhide hno]; exact unhide hown1, unhide hg1⟩
          case measure => simp [intOf]; omega
        · have r2' : decide (far ≤ F k) = false := by simpa using r2
          clear r2
          go_wp2
          go_roundw
          case rel => exact ⟨k + 1, by have := unhide HL; omega, by go_num, by rw [unhide hno]; exact unhide hown1, unhide hg1⟩
          case measure => simp [intOf]; omega
        · go_wp2
          go_roundw
          case rel => exact ⟨k + 1, by have := unhide HL; omega, by go_num, by rw [unhide hno]; exact unhide hown1, unhide hg1⟩
          case measure => simp [intOf]; omega
    · have hge : ¬ (k : Int) < 384 := by omega
      obtain rfl : k = 384 := by omega
      obtain ⟨l, hl⟩ : ∃ l, l = Gn.those (Gn.free c F far U) 384 := ⟨_, rfl⟩
      rw [← hl] at hown1 hln
      have hl' := hide hl
      clear hlt hk hl
      rcases (unhide hown1).form with ⟨rfl, h0⟩ | ⟨g, cap, H, rfl, hb, hAr, hlc, hm, hH⟩
      · have hres : Hid (Gn.picked d a (Gn.those (Gn.free c F far U) 384) = -1) := by
          show Gn.picked d a (Gn.those (Gn.free c F far U) 384) = -1
          rw [← unhide hl', h0]
          rfl
        clear h0
        go_wp2
        go_ret
        exact ⟨ret_int (unhide hres).symm, unhide hg1⟩
      · by_cases h0 : l.length = 0
        · have hres : Hid (Gn.picked d a (Gn.those (Gn.free c F far U) 384) = -1) := by
            show Gn.picked d a (Gn.those (Gn.free c F far U) 384) = -1
            rw [← unhide hl']
            unfold Gn.picked
            rw [if_pos h0]
          rw [h0]
          clear hAr hH
          go_wp2
          go_ret
          exact ⟨ret_int (unhide hres).symm, unhide hg1⟩
        · obtain ⟨N, hN⟩ : ∃ x, x = d a 0 (l.length : Int) := ⟨_, rfl⟩
          obtain ⟨n1, n2⟩ : 0 ≤ N ∧ N < (l.length : Int) := by rw [hN]; exact unhide hFr' _ _ _ (by omega)
          obtain ⟨n, hn⟩ : ∃ n : Nat, N = (n : Int) := ⟨N.toNat, by omega⟩
          have hnl : n < l.length := by omega
          have hnl' : (n : Int) < (l.length : Int) := by omega
          have hdN := refD_any s f a 0 (l.length : Int) wr (by omega)
          rw [unhide hd', ← hN, hn] at hdN
          obtain ⟨cl, hcl⟩ : ∃ cl, cl = l[n]?.getD 0 := ⟨_, rfl⟩
          have hres : Hid (Gn.picked d a (Gn.those (Gn.free c F far U) 384) = (cl : Int)) := by
            show Gn.picked d a (Gn.those (Gn.free c F far U) 384) = (cl : Int)
            rw [← unhide hl']
            unfold Gn.picked
            rw [if_neg h0, ← hN, hn, Int.toNat_natCast, hcl]
          have hAr' := hide hAr
          have hq : Hid (H n = .int .i64 (cl : Int)) := by show H n = _; rw [hH n hnl, hcl]
          have hz : ((l.length : Int) == 0) = false := by rw [beq_eq_false_iff_ne]; omega
          clear hAr hH hN hn hcl h0 n1 n2
          go_wp2_with fail
          refine hdN.mono ?_
          rintro e wd ⟨rfl, hgd⟩
          have hc2 : wd.cell? ⟨g, n, none⟩ = some (.int .i64 (cl : Int)) := by rw [((unhide hAr').grown hgd (by simp)).cell (by omega), unhide hq]
          have hg2 := hide (grown_none (unhide hg1) hgd)
          clear hgd
          go_wp2
          go_ret
          exact ⟨ret_int (unhide hres).symm, unhide hg2⟩

end Go.Proofs.YtbanjoflgoiegaaGreat
