/-
  All that a seat has is swept away, in goods: Sweep.
  What is worn helps, in goods and in the document: Bonus.
  A world apart, in the document: Twin.
  All that a seat has is swept away, and what is worn helps, in the document: Sweep, Bonus.
  Items that are laid into rows that are gone: as numbers, and in the document: Lay.
-/
import Derived.Test.YtbploaihicakeaaPart18
import Derived.Test.YtbploaihicakeaaPart15
namespace Go.Proofs.Ytbploaihicakeaa
open Go.RowKit

theorem Gd.Boxed.put {w x : World} {B gC gE gI cC cE cI : Nat} {s g c : Nat → Int} {E I : Nat → Nat → Int} (h : Gd.Boxed w x B gC gE gI cC cE cI s g c E I) (m : Nat) (a b d e : Int) : Gd.Boxed w ((((x.setCell ⟨gI, m * 4, none⟩ (.int .i64 a)).setCell ⟨gI, m * 4 + 1, none⟩ (.int .i64 b)).setCell ⟨gI, m * 4 + 2, none⟩ (.int .i64 d)).setCell ⟨gI, m * 4 + 3, none⟩ (.int .i64 e)) B gC gE gI cC cE cI s g c E (En.put I m (Gd.row a b d e)) := by
  have h1 := h.lI
  have h2 := h.at_
  have r := grown_put4 (World.grownBy.refl x (some gI)) m (.int .i64 a) (.int .i64 b) (.int .i64 d) (.int .i64 e)
  exact { h with hold := h.hold.put m a b d e, res := h.res.grown r (by simp; omega), grown := grown_own h.grown r (fun n e => by cases e; omega) }

theorem Gd.Boxed.same {w x : World} {B gC gE gI cC cE cI : Nat} {s g c : Nat → Int} {E I J : Nat → Nat → Int} (h : Gd.Boxed w x B gC gE gI cC cE cI s g c E I) (he : ∀ i, i < 40 → J i = I i) : Gd.Boxed w x B gC gE gI cC cE cI s g c E J :=
  { h with hold := { h.hold with lists := { h.hold.lists with items := h.hold.lists.items.congr fun q hq => by unfold Gd.flat; rw [he (q / 4) (by omega)] } } }

/-- The first k rows swept. -/
def Gd.sweepTo (I : Nat → Nat → Int) (seat : Int) (k : Nat) : Nat → Nat → Int := fun i => if i < k then Gd.sweep I seat i else I i

theorem Gd.sweep_yes {I : Nat → Nat → Int} {seat : Int} {k : Nat} (h : (I k 1 = 2 ∨ I k 1 = 3) ∧ I k 2 = seat) : Gd.sweepTo I seat (k + 1) = En.put (Gd.sweepTo I seat k) k (Gd.row 0 0 0 0) := by
  funext i
  unfold Gd.sweepTo En.put
  by_cases e : i = k
  · rw [if_pos (by omega), if_pos e, e, Gd.row_gone]
    unfold Gd.sweep
    rw [if_pos h]
  · rw [if_neg e]
    show _ = if i < k then _ else _
    by_cases e2 : i < k
    · rw [if_pos (by omega), if_pos e2]
    · rw [if_neg (by omega), if_neg e2]

theorem Gd.sweep_no {I : Nat → Nat → Int} {seat : Int} {k : Nat} (h : ¬ ((I k 1 = 2 ∨ I k 1 = 3) ∧ I k 2 = seat)) : Gd.sweepTo I seat (k + 1) = Gd.sweepTo I seat k := by
  funext i
  unfold Gd.sweepTo
  by_cases e : i = k
  · rw [if_pos (by omega), if_neg (by omega), e]
    unfold Gd.sweep
    rw [if_neg h]
  · by_cases e2 : i < k
    · rw [if_pos (by omega), if_pos e2]
    · rw [if_neg (by omega), if_neg e2]

end Go.Proofs.Ytbploaihicakeaa

namespace Go.Proofs.Ytbploaihicakeaa
open Go.RowKit

/-- Does a seat wear one of a kind, among the first rows? -/
def Gd.wornK (I : Nat → Nat → Int) (seat kd : Int) : Nat → Bool
  | 0 => false
  | k + 1 => Gd.wornK I seat kd k || (decide (I k 1 = 3 ∧ I k 2 = seat) && decide (I k 0 = kd))

theorem Gd.worn_iff (I : Nat → Nat → Int) (seat kd : Int) : ∀ k, Gd.wornK I seat kd k = true ↔ ∃ j, j < k ∧ I j 1 = 3 ∧ I j 2 = seat ∧ I j 0 = kd
  | 0 => by simp [Gd.wornK]
  | k + 1 => by
      unfold Gd.wornK
      rw [Bool.or_eq_true, Gd.worn_iff I seat kd k, Bool.and_eq_true, decide_eq_true_eq, decide_eq_true_eq]
      constructor
      · rintro (⟨j, hj, h⟩ | ⟨⟨h1, h2⟩, h3⟩)
        · exact ⟨j, by omega, h⟩
        · exact ⟨k, by omega, h1, h2, h3⟩
      · rintro ⟨j, hj, h1, h2, h3⟩
        by_cases e : j = k
        · rw [e] at h1 h2 h3
          exact .inr ⟨⟨h1, h2⟩, h3⟩
        · exact .inl ⟨j, by omega, h1, h2, h3⟩

/-- Of items that may be: a sword is worn at 0, a mail at 1. -/
theorem Gd.worn_at {c : Nat → Int} {I : Nat → Nat → Int} (h : Gd.Ok c 40 I) (seat b : Int) : Gd.wornK I seat (b + 2) 40 = decide (0 ≤ Gd.find I 40 3 seat b) := by
  apply Bool.eq_iff_iff.2
  rw [Gd.worn_iff, decide_eq_true_eq]
  constructor
  · rintro ⟨j, hj, h1, h2, h3⟩
    rcases Gd.find_cases I 40 3 seat b with ⟨_, hno⟩ | ⟨k, _, e, _⟩
    · obtain ⟨_, _, hp⟩ := h.of hj (by omega)
      exact absurd ⟨h1, h2, by omega⟩ (hno j hj)
    · omega
  · intro h0
    obtain ⟨k, hk, _, h1, h2, h3⟩ := Gd.find_pos h0
    obtain ⟨_, _, hp⟩ := h.of hk (by omega)
    exact ⟨k, hk, h1, h2, by omega⟩

def Gd.three (b : Bool) : Int := if b = true then 3 else 0
def Gd.two (b : Bool) : Int := if b = true then 2 else 0

end Go.Proofs.Ytbploaihicakeaa

namespace Go.Proofs.Ytbploaihicakeaa
open Go.RowKit

theorem Lie.of_append {w : World} {base n z : Nat} {T : TypeId} {v : Value} {F : Nat → Value} (h : w.ownsRow base T z v n (Gd.list (n * z) F)) (hv : v ≠ .slice none 0 0) : ∃ g cap, v = .slice (some ⟨g, 0, none⟩) n cap ∧ base ≤ g ∧ n ≤ cap ∧ Lie w g T (n * z) F := by
  rcases h.2 with ⟨h', _⟩ | ⟨g, cap, cur, rfl, hb, hg, hnc, hcm, hcs, htake⟩
  · exact absurd h' hv
  · refine ⟨g, cap, rfl, hb, hnc, cur.size, fun j => cur[j]?.getD undef, Arr.lit hg, by rw [hcs]; exact Nat.mul_le_mul_right z hnc, fun c hc => ?_⟩
    have e := Gd.list_at (F := F) hc
    rw [← htake, List.getElem?_take, if_pos hc, Array.getElem?_toList] at e
    show cur[c]?.getD undef = _
    rw [e]
    rfl

theorem Lie.type7 {x : World} {B G : Nat} {T U : TypeId} {m n : Nat} {F K : Nat → Value} (h1 : Lie x B T m F) (h2 : Lie x G U n K) (h : T ≠ U) : B ≠ G := by
  rintro rfl
  obtain ⟨_, _, ⟨c1, e1, _⟩, _⟩ := h1
  obtain ⟨_, _, ⟨c2, e2, _⟩, _⟩ := h2
  rw [e1] at e2
  simp only [Option.some.injEq, Obj.cells.injEq] at e2
  exact h e2.2.1

/-- A box with some lists, and the place of what is answered. -/
structure Gd.Part (w x : World) (B gC gE gI cC cE cI : Nat) (s g : Nat → Int) : Prop where
  box : Lie x B 29 11 (Gd.box s gC gE gI cC cE cI g)
  res : Lie x (B + 1) 29 11 (fun j => #[.int .i64 0, .int .i64 0, .int .i64 0, .int .i64 0, .slice none 0 0, .slice none 0 0, .slice none 0 0, .int .i64 0, .int .i64 0, .int .i64 0, Value.int .i64 0][j]?.getD undef)
  at_ : w.heap.size = B
  two : B + 2 ≤ x.heap.size
  grown : w.grownBy x none

theorem Gd.Part.on {w x y : World} {B gC gE gI cC cE cI : Nat} {s g : Nat → Int} (h : Gd.Part w x B gC gE gI cC cE cI s g) (hg : x.grownBy y none) : Gd.Part w y B gC gE gI cC cE cI s g :=
  ⟨h.box.on hg, h.res.on hg, h.at_, Nat.le_trans h.two hg.size, grown_trans h.grown hg⟩

theorem Gd.Part.set {w x : World} {B gC gE gI cC cE cI : Nat} {s g : Nat → Int} (h : Gd.Part w x B gC gE gI cC cE cI s g) (i : Nat) (v : Value) (gC' gE' gI' cC' cE' cI' : Nat) (he : ∀ j, j < 11 → (if j = i then v else Gd.box s gC gE gI cC cE cI g j) = Gd.box s gC' gE' gI' cC' cE' cI' g j) : Gd.Part w (x.setCell ⟨B, i, none⟩ v) B gC' gE' gI' cC' cE' cI' s g := by
  have hB := h.at_
  have r := grown_set0 x B i v
  exact ⟨(h.box.store i v).congr he, h.res.grown r (by simp), h.at_, by simpa using h.two, grown_store h.grown ⟨B, i, none⟩ (by show w.heap.size ≤ B; omega) v⟩

theorem Gd.box_4 (s g : Nat → Int) (gC gE gI cC cE cI g1 c1 : Nat) : ∀ j, j < 11 → (if j = 4 then Value.slice (some ⟨g1, 0, none⟩) 384 c1 else Gd.box s gC gE gI cC cE cI g j) = Gd.box s g1 gE gI c1 cE cI g j := by
  intro j hj
  rcases (show j = 0 ∨ j = 1 ∨ j = 2 ∨ j = 3 ∨ j = 4 ∨ j = 5 ∨ j = 6 ∨ j = 7 ∨ j = 8 ∨ j = 9 ∨ j = 10 by omega) with rfl | rfl | rfl | rfl | rfl | rfl | rfl | rfl | rfl | rfl | rfl <;> rfl

theorem Gd.box_5 (s g : Nat → Int) (gC gE gI cC cE cI g1 c1 : Nat) : ∀ j, j < 11 → (if j = 5 then Value.slice (some ⟨g1, 0, none⟩) 32 c1 else Gd.box s gC gE gI cC cE cI g j) = Gd.box s gC g1 gI cC c1 cI g j := by
  intro j hj
  rcases (show j = 0 ∨ j = 1 ∨ j = 2 ∨ j = 3 ∨ j = 4 ∨ j = 5 ∨ j = 6 ∨ j = 7 ∨ j = 8 ∨ j = 9 ∨ j = 10 by omega) with rfl | rfl | rfl | rfl | rfl | rfl | rfl | rfl | rfl | rfl | rfl <;> rfl

theorem Gd.box_6 (s g : Nat → Int) (gC gE gI cC cE cI g1 c1 : Nat) : ∀ j, j < 11 → (if j = 6 then Value.slice (some ⟨g1, 0, none⟩) 40 c1 else Gd.box s gC gE gI cC cE cI g j) = Gd.box s gC gE g1 cC cE c1 g j := by
  intro j hj
  rcases (show j = 0 ∨ j = 1 ∨ j = 2 ∨ j = 3 ∨ j = 4 ∨ j = 5 ∨ j = 6 ∨ j = 7 ∨ j = 8 ∨ j = 9 ∨ j = 10 by omega) with rfl | rfl | rfl | rfl | rfl | rfl | rfl | rfl | rfl | rfl | rfl <;> rfl

set_option maxHeartbeats 6400000 in
theorem refTwin_any (s g c : Nat → Int) (E I : Nat → Nat → Int) (gC gE gI cC cE cI : Nat) (w : World) (hL : Gd.Lists w gC gE gI c E I) :
    Calls Try.prog 10 #[.agg (Gd.world s gC gE gI cC cE cI g)] w (Gd.Worlds w s g c E I) := by
  obtain ⟨w0, hw0, hbox, hres, hg0, hsz⟩ := Gd.boxes w gC gE gI cC cE cI s g
  obtain ⟨B, hB⟩ : ∃ B, w.heap.size = B := ⟨_, rfl⟩
  rw [hB] at hbox hres hsz
  have hP0 : Hid (Gd.Part w w0 B gC gE gI cC cE cI s g) := ⟨hbox, hres, hB, by omega, hg0⟩
  have hL' := hide hL
  have lC := hide hL.cells.lt
  have lE := hide hL.ents.lt
  have lI := hide hL.items.lt
  obtain ⟨iB, hiB, hzB0, hzB1, hzB2⟩ := info_parts info_byte
  obtain ⟨iE, hiE, hzE0, hzE1, hzE2⟩ := info_parts info_ent
  obtain ⟨iI, hiI, hzI0, hzI1, hzI2⟩ := info_parts info_item
  have hB' := hide hB
  clear hL hbox hres hg0 hsz
  unfold Gd.world at hw0 ⊢
  clear hB
  go_enter Try.func10, Try.ntmps10
  go_upto_region 1 with fail
  rw [← hw0, unhide hB']
  clear hw0
  have q4 := (unhide hP0).box.eleven.2.2.2.2.1
  have fB := (unhide hP0).box.free
  have lB := (unhide hP0).box.lt
  go_upto_region 1 with fail
  go_cut [] from 3 (fun wx => ∃ g1 c1, Hid (Gd.Part w wx B g1 gE gI c1 cE cI s g) ∧ Hid (Lie wx g1 5 384 (Byts c) ∧ B + 2 ≤ g1))
  case first =>
    go_wp2_with (at_builtin; refine wpList_append_own _ rfl _ _ 25 rfl w0.heap.size 5 iB (.int .u8 0) 1 1 Try.underlying25 hiB hzB0 hzB1 hzB2 rfl (by decide) _ 0 [] rfl (World.ownsRow_made _ _ _ (Nat.le_refl _) (by decide) (by simp)) ⟨gC, 0, none⟩ 384 cC (Gd.list 384 (Byts c)) rfl (Gd.list_len _ _) (Gd.list_src fun q hq => (grown_cell (grown_trans (unhide hP0).grown (World.grownBy_alloc _ _ _)) gC q (unhide lC) (by simp)).trans ((unhide hL').read.1 q hq)) (Gd.list_one fun _ => rfl) ?c4 ?c5 ?c6 ?_)
    case c4 => unfold maxLen; omega
    case c5 => omega
    case c6 => simp
    intro v' w1 hown hgrow hnil
    obtain ⟨g9, c9, rfl, hlo, hnc, hlie⟩ := Lie.of_append (n := 384) (z := 1) (F := (Byts c)) hown (by simpa using hnil)
    have hg9 := grown_own (World.grownBy_alloc w0 _ none) hgrow (fun k e => by cases e; exact Nat.le_refl _)
    have hP9 := hide ((unhide hP0).on hg9)
    have y4 := (unhide hP9).box.eleven.2.2.2.2.1
    have fB9 := (unhide hP9).box.free
    have hl9 := hide hlie
    have hlo9 := hide hlo
    have hnc9 := hide hnc
    have hg9' := hide hg9
    clear hown hgrow hnil hlie hlo hnc hg9 q4 fB lB
    go_wp2_with fail
    go_meet
    have htw := (unhide hP0).two
    have hlo := unhide hlo9
    exact ⟨g9, c9, (unhide hP9).set 4 _ _ _ _ _ _ _ (Gd.box_4 s g gC gE gI cC cE cI g9 c9), (unhide hl9).other (by omega) _ _, by omega⟩
  case rest =>
    obtain ⟨g1, c1, hP1, hL1⟩ := hcut
    clear q4 fB lB hP0
    have q5 := (unhide hP1).box.eleven.2.2.2.2.2.1
    have fB := (unhide hP1).box.free
    have lB := (unhide hP1).box.lt
    go_upto_region 2 with fail
    go_cut [] from 8 (fun wx => ∃ g2 c2, Hid (Gd.Part w wx B g1 g2 gI c1 c2 cI s g) ∧ Hid (Lie wx g1 5 384 (Byts c) ∧ B + 2 ≤ g1 ∧ Lie wx g2 36 352 (En.flat E) ∧ B + 2 ≤ g2 ∧ 32 ≤ c2))
    case first =>
      go_wp2_with (at_builtin; refine wpList_append_own _ rfl _ _ 26 rfl wc.heap.size 36 iE (.agg #[.int .i64 0, .int .i64 0, .int .i64 0, .int .i64 0, .int .i64 0, .int .i64 0, .int .i64 0, .int .i64 0, .int .i64 0, .int .i64 0, .int .i64 0]) 11 88 Try.underlying26 hiE hzE0 hzE1 hzE2 rfl (by decide) _ 0 [] rfl (World.ownsRow_made _ _ _ (Nat.le_refl _) (by decide) (by simp)) ⟨gE, 0, none⟩ 32 cE (Gd.list 352 (En.flat E)) rfl (Gd.list_len _ _) (Gd.list_src fun q hq => (grown_cell (grown_trans (unhide hP1).grown (World.grownBy_alloc _ _ _)) gE q (unhide lE) (by simp)).trans ((unhide hL').read.2.1 q hq)) (Gd.list_one fun _ => rfl) ?c4 ?c5 ?c6 ?_)
      case c4 => unfold maxLen; omega
      case c5 => omega
      case c6 => simp
      intro v' w1 hown hgrow hnil
      obtain ⟨g9, c9, rfl, hlo, hnc, hlie⟩ := Lie.of_append (n := 32) (z := 11) (F := (En.flat E)) hown (by simpa using hnil)
      have hg9 := grown_own (World.grownBy_alloc wc _ none) hgrow (fun k e => by cases e; exact Nat.le_refl _)
      have hP9 := hide ((unhide hP1).on hg9)
      have y5 := (unhide hP9).box.eleven.2.2.2.2.2.1
      have fB9 := (unhide hP9).box.free
      have hl9 := hide hlie
      have hlo9 := hide hlo
      have hnc9 := hide hnc
      have hg9' := hide hg9
      clear hown hgrow hnil hlie hlo hnc hg9 q5 fB lB
      go_wp2_with fail
      go_meet
      have htw := (unhide hP1).two
      have hlo := unhide hlo9
      obtain ⟨k1, k2⟩ := unhide hL1
      exact ⟨g9, c9, (unhide hP9).set 5 _ _ _ _ _ _ _ (Gd.box_5 s g g1 gE gI c1 cE cI g9 c9), (k1.on (unhide hg9')).other (by omega) _ _, k2, (unhide hl9).other (by omega) _ _, by omega, unhide hnc9⟩
    case rest =>
      obtain ⟨g2, c2, hP2, hL2⟩ := hcut
      clear q5 fB lB hP1 hL1
      have q6 := (unhide hP2).box.eleven.2.2.2.2.2.2.1
      have fB := (unhide hP2).box.free
      have lB := (unhide hP2).box.lt
      go_upto_region 3 with fail
      go_cut [] from 13 (fun wx => ∃ g3 c3, Hid (Gd.Boxed w wx B g1 g2 g3 c1 c2 c3 s g c E I))
      case first =>
        go_wp2_with (at_builtin; refine wpList_append_own _ rfl _ _ 23 rfl wc.heap.size 57 iI (.agg #[.int .i64 0, .int .i64 0, .int .i64 0, .int .i64 0]) 4 32 Try.underlying23 hiI hzI0 hzI1 hzI2 rfl (by decide) _ 0 [] rfl (World.ownsRow_made _ _ _ (Nat.le_refl _) (by decide) (by simp)) ⟨gI, 0, none⟩ 40 cI (Gd.list 160 (Gd.flat I)) rfl (Gd.list_len _ _) (Gd.list_src fun q hq => (grown_cell (grown_trans (unhide hP2).grown (World.grownBy_alloc _ _ _)) gI q (unhide lI) (by simp)).trans ((unhide hL').read.2.2 q hq)) (Gd.list_one fun _ => rfl) ?c4 ?c5 ?c6 ?_)
        case c4 => unfold maxLen; omega
        case c5 => omega
        case c6 => simp
        intro v' w1 hown hgrow hnil
        obtain ⟨g9, c9, rfl, hlo, hnc, hlie⟩ := Lie.of_append (n := 40) (z := 4) (F := (Gd.flat I)) hown (by simpa using hnil)
        have hg9 := grown_own (World.grownBy_alloc wc _ none) hgrow (fun k e => by cases e; exact Nat.le_refl _)
        have hP9 := hide ((unhide hP2).on hg9)
        have y6 := (unhide hP9).box.eleven.2.2.2.2.2.2.1
        have fB9 := (unhide hP9).box.free
        have hl9 := hide hlie
        have hlo9 := hide hlo
        have hnc9 := hide hnc
        have hg9' := hide hg9
        clear hown hgrow hnil hlie hlo hnc hg9 q6 fB lB
        go_wp2_with fail
        go_meet
        have htw := (unhide hP2).two
        have hlo := unhide hlo9
        obtain ⟨k1, k2, k3, k4, k5⟩ := unhide hL2
        have hPz := (unhide hP9).set 6 _ _ _ _ _ _ _ (Gd.box_6 s g g1 g2 gI c1 c2 cI g9 c9)
        have m1 := (k1.on (unhide hg9')).other (p := B) (by omega) 6 (.slice (some ⟨g9, 0, none⟩) 40 c9)
        have m2 := (k3.on (unhide hg9')).other (p := B) (by omega) 6 (.slice (some ⟨g9, 0, none⟩) 40 c9)
        have m3 := (unhide hl9).other (p := B) (by omega) 6 (.slice (some ⟨g9, 0, none⟩) 40 c9)
        exact ⟨g9, c9, ⟨hPz.box, ⟨m1, m2, m3⟩, by omega, by omega, by omega, m1.type7 m2 (by decide), m1.type7 m3 (by decide), m2.type7 m3 (by decide)⟩, hPz.at_, k2, k4, by omega, k5, hPz.res, hPz.grown⟩
      case rest =>
        obtain ⟨g3, c3, hX⟩ := hcut
        clear q6 fB lB hP2 hL2
        obtain ⟨b0, b1, b2, b3, b4, b5, b6, b7, b8, b9, b10⟩ := (unhide hX).hold.box.eleven
        have fz := (unhide hX).res.free
        obtain ⟨z0, z1, z2, z3, z4, z5, z6, z7, z8, z9, z10⟩ := Gd.res_cells (unhide hX).res
        have hfin := hide (fun vs => (unhide hX).worlds vs)
        go_wp2
        refine bodyPost_ret (v := .agg (Gd.world s g1 g2 g3 c1 c2 c3 g)) (by simp [results, Try.results10, go_sem, Gd.world, z0, z1, z2, z3, z4, z5, z6, z7, z8, z9, z10]) rfl ?_
        exact unhide hfin [_, _, _, _, _, _, _, _, _, _, _]

end Go.Proofs.Ytbploaihicakeaa

namespace Go.Proofs.Ytbploaihicakeaa
open Go.RowKit

theorem Gd.three_at (z : Int) : Gd.three (decide (0 ≤ z)) = if 0 ≤ z then 3 else 0 := by
  unfold Gd.three
  by_cases h : 0 ≤ z <;> simp [h]

theorem Gd.two_at (z : Int) : Gd.two (decide (0 ≤ z)) = if 0 ≤ z then 2 else 0 := by
  unfold Gd.two
  by_cases h : 0 ≤ z <;> simp [h]

end Go.Proofs.Ytbploaihicakeaa

namespace Go.Proofs.Ytbploaihicakeaa
open Go.RowKit

def Gd.goneQ (J : Nat → Nat → Int) : Nat → Bool := fun i => Gd.zeroB (J i 0) (J i 1) (J i 2) (J i 3)

/-- The first m items laid, one behind the other, each into the lowest row that is gone. -/
def Gd.lay (I M : Nat → Nat → Int) : Nat → Nat → Nat → Int
  | 0 => I
  | m + 1 => if 0 ≤ En.first (Gd.goneQ (Gd.lay I M m)) 40 then En.put (Gd.lay I M m) (En.first (Gd.goneQ (Gd.lay I M m)) 40).toNat (Gd.row (M m 0) (M m 1) (M m 2) (M m 3)) else Gd.lay I M m

theorem Gd.lay_none {I M : Nat → Nat → Int} {m : Nat} (h : ∀ j, j < 40 → Gd.goneQ (Gd.lay I M m) j = false) : Gd.lay I M (m + 1) = Gd.lay I M m := by
  show (if _ then _ else _) = _
  rw [En.first_none h, if_neg (by omega)]

theorem Gd.lay_some {I M : Nat → Nat → Int} {m r : Nat} (hno : ∀ j, j < r → Gd.goneQ (Gd.lay I M m) j = false) (hr : Gd.goneQ (Gd.lay I M m) r = true) (h40 : r < 40) : Gd.lay I M (m + 1) = En.put (Gd.lay I M m) r (Gd.row (M m 0) (M m 1) (M m 2) (M m 3)) := by
  show (if _ then _ else _) = _
  rw [En.first_hit hno hr h40, if_pos (by omega), Int.toNat_natCast]

theorem Gd.lay_stuck {I M : Nat → Nat → Int} {m : Nat} (h : ∀ j, j < 40 → Gd.goneQ (Gd.lay I M m) j = false) : ∀ d, Gd.lay I M (m + d) = Gd.lay I M m
  | 0 => rfl
  | d + 1 => by
      have ih := Gd.lay_stuck h d
      have h' : ∀ j, j < 40 → Gd.goneQ (Gd.lay I M (m + d)) j = false := by rw [ih]; exact h
      rw [← Nat.add_assoc, Gd.lay_none h', ih]

/-- Items that came in: none, or a list at some place of a block. -/
def Gd.Some (w : World) (a : Option Addr) (n : Nat) (M : Nat → Nat → Int) : Prop := n ≤ 100 ∧ (n = 0 ∨ ∃ b o, a = some ⟨b, o, none⟩ ∧ Its w b o n M)

theorem Gd.Some.on {w w' : World} {a : Option Addr} {n : Nat} {M : Nat → Nat → Int} (h : Gd.Some w a n M) (hg : w.grownBy w' none) : Gd.Some w' a n M := by
  obtain ⟨h1, h0 | ⟨b, o, h2, h3⟩⟩ := h
  · exact ⟨h1, .inl h0⟩
  · exact ⟨h1, .inr ⟨b, o, h2, h3.on hg⟩⟩

theorem Gd.Some.row {w : World} {a : Option Addr} {n : Nat} {M : Nat → Nat → Int} (h : Gd.Some w a n M) {k : Nat} (hk : k < n) : ∃ b o, a = some ⟨b, o, none⟩ ∧ b < w.heap.size ∧ w.cell? ⟨b, o + k * 4, none⟩ = some (.int .i64 (M k 0)) ∧ w.cell? ⟨b, o + k * 4 + 1, none⟩ = some (.int .i64 (M k 1)) ∧ w.cell? ⟨b, o + k * 4 + 2, none⟩ = some (.int .i64 (M k 2)) ∧ w.cell? ⟨b, o + k * 4 + 3, none⟩ = some (.int .i64 (M k 3)) := by
  obtain ⟨_, h0 | ⟨b, o, h2, h3⟩⟩ := h
  · omega
  · exact ⟨b, o, h2, h3.2.1, h3.2.2 k 0 hk (by omega), h3.2.2 k 1 hk (by omega), h3.2.2 k 2 hk (by omega), h3.2.2 k 3 hk (by omega)⟩

/-- A call hands back a list of 40 items of its own. -/
def Gd.Gives40 (w : World) (J : Nat → Nat → Int) (e : Ending) (w' : World) : Prop :=
  ∃ g cap, e = .returned (.slice (some ⟨g, 0, none⟩) 40 cap) ∧ w.heap.size ≤ g ∧ Lie w' g 57 160 (Gd.flat J) ∧ w.grownBy w' none

end Go.Proofs.Ytbploaihicakeaa
