/-
  All that a seat has is swept away, in goods: Sweep.
  What is worn helps, in goods and in the document: Bonus.
  A world apart, in the document: Twin.
  All that a seat has is swept away, and what is worn helps, in the document: Sweep, Bonus.
  Whether an item may be where it is, and whether all may, in the document: placed, Check.
  Whether all items may be where they are, in the document: Check.
  Items that are laid into rows that are gone: as numbers, and in the document: Lay.
-/
import Derived.Test.YtgkomdpceilggabPart18
import Derived.Test.YtgkomdpceilggabPart15
namespace Go.Proofs.Ytgkomdpceilggab
open Go.RowKit

theorem Gd.Boxed.put {w x : World} {B gC gE gI cC cE cI : Nat} {s g c : Nat → Int} {E I : Nat → Nat → Int} (h : Gd.Boxed w x B gC gE gI cC cE cI s g c E I) (m : Nat) (a b d e : Int) : Gd.Boxed w ((((x.setCell ⟨gI, m * 4, none⟩ (.int .i64 a)).setCell ⟨gI, m * 4 + 1, none⟩ (.int .i64 b)).setCell ⟨gI, m * 4 + 2, none⟩ (.int .i64 d)).setCell ⟨gI, m * 4 + 3, none⟩ (.int .i64 e)) B gC gE gI cC cE cI s g c E (En.put I m (Gd.row a b d e)) := by
  have h1 := h.lI
  have h2 := h.at_
  have r := grown_put4 (World.grownBy.refl x (some gI)) m (.int .i64 a) (.int .i64 b) (.int .i64 d) (.int .i64 e)
  exact { h with hold := h.hold.put m a b d e, res := h.res.grown r (by simp; omega), grown := grown_own h.grown r (fun n e => by cases e; omega) }

theorem Gd.Boxed.same {w x : World} {B gC gE gI cC cE cI : Nat} {s g c : Nat → Int} {E I J : Nat → Nat → Int} (h : Gd.Boxed w x B gC gE gI cC cE cI s g c E I) (he : ∀ i, i < 40 → J i = I i) : Gd.Boxed w x B gC gE gI cC cE cI s g c E J :=
  { h with hold := { h.hold with lists := { h.hold.lists with items := h.hold.lists.items.congr fun q hq => by unfold Gd.flat; rw [he (q / 4) (by omega)] } } }

/-- The first k rows swept. -/
def Gd.sweepTo (I : Nat → Nat → Int) (seat : Int) (k : Nat) : Nat → Nat → Int := fun i => if i < k then Gd.sweep I seat i else I i

theorem Gd.sweep_yes {I : Nat → Nat → Int} {seat : Int} {k : Nat} (h : (I k 1 = 2 ∨ I k 1 = 3) ∧ I k 2 = seat) : Gd.sweepTo I seat (k + 1) = En.put (Gd.sweepTo I seat k) k (Gd.row 0 0 0 0) := by
  funext i
  unfold Gd.sweepTo En.put
  by_cases e : i = k
  · rw [if_pos (by omega), if_pos e, e, Gd.row_gone]
    unfold Gd.sweep
    rw [if_pos h]
  · rw [if_neg e]
    show _ = if i < k then _ else _
    by_cases e2 : i < k
    · rw [if_pos (by omega), if_pos e2]
    · rw [if_neg (by omega), if_neg e2]

theorem Gd.sweep_no {I : Nat → Nat → Int} {seat : Int} {k : Nat} (h : ¬ ((I k 1 = 2 ∨ I k 1 = 3) ∧ I k 2 = seat)) : Gd.sweepTo I seat (k + 1) = Gd.sweepTo I seat k := by
  funext i
  unfold Gd.sweepTo
  by_cases e : i = k
  · rw [if_pos (by omega), if_neg (by omega), e]
    unfold Gd.sweep
    rw [if_neg h]
  · by_cases e2 : i < k
    · rw [if_pos (by omega), if_pos e2]
    · rw [if_neg (by omega), if_neg e2]

set_option maxHeartbeats 6400000 in
theorem sweep_any (s g c : Nat → Int) (E I : Nat → Nat → Int) (gC gE gI cC cE cI : Nat) (seat : Int) (w : World) (hL : Gd.Lists w gC gE gI c E I) :
    Calls Try.prog 34 #[.agg (Gd.world s gC gE gI cC cE cI g), .int .i64 seat] w (Gd.Worlds w s g c E (Gd.sweep I seat)) := by
  obtain ⟨w0, hw0, hbox, hres, hg0, hsz⟩ := Gd.boxes w gC gE gI cC cE cI s g
  have ca := apart_any s g c E I gC gE gI cC cE cI w0 (hL.on hg0)
  obtain ⟨b0, b1, b2, b3, b4, b5, b6, b7, b8, b9, b10⟩ := hbox.eleven
  have hbx := hide hbox
  have hrs := hide hres
  have hg0' := hide hg0
  have hsz' := hide hsz
  have ca' := hide ca
  have hfB := hbox.free
  clear hL ca hbox hres hg0 hsz
  unfold Gd.world at hw0 ca' ⊢
  go_enter Try.func34, Try.ntmps34
  go_upto_region 1 with fail
  rw [← hw0]
  clear hw0
  obtain ⟨B, hB⟩ : ∃ B, w.heap.size = B := ⟨_, rfl⟩
  rw [hB] at hbx hrs hsz' b0 b1 b2 b3 b4 b5 b6 b7 b8 b9 b10 ⊢
  have hB' := hide hB
  rw [hB] at hfB
  clear hB
  go_cut [] from 7 (fun wx => ∃ g1 g2 g3 c1 c2 c3, Hid (Gd.Boxed w wx B g1 g2 g3 c1 c2 c3 s g c E I))
  case first =>
    go_wp2_with fail
    refine (unhide ca').mono ?_
    rintro e w1 ⟨g1, g2, g3, c1, c2, c3, rfl, hcap, l1, l2, l3, n1, n2, n3, hL1, hg1⟩
    obtain ⟨y0, y1, y2, y3, y4, y5, y6, y7, y8, y9, y10⟩ := ((unhide hbx).on hg1).eleven
    have fB := ((unhide hbx).on hg1).free
    have fin : Hid (Gd.Boxed w (w1.setCells B 0 (Gd.world s g1 g2 g3 c1 c2 c3 g).toList) B g1 g2 g3 c1 c2 c3 s g c E I) := by
      have r := grown_sets (g := B) (Gd.world s g1 g2 g3 c1 c2 c3 g).toList 0 w1 (World.grownBy.refl _ _)
      have hB := unhide hB'
      have hs := unhide hsz'
      exact ⟨⟨((unhide hbx).on hg1).whole s g g1 g2 g3 c1 c2 c3, ⟨hL1.cells.grown r (by simp; omega), hL1.ents.grown r (by simp; omega), hL1.items.grown r (by simp; omega)⟩, by omega, by omega, by omega, n1, n2, n3⟩, hB, by omega, by omega, by omega, hcap, ((unhide hrs).on hg1).grown r (by simp), own_sets (by omega) _ 0 w1 (grown_trans (unhide hg0') hg1)⟩
    unfold Gd.world at fin ⊢
    clear hcap l1 l2 l3 n1 n2 n3 hL1 hg1 b0 b1 b2 b3 b4 b5 b6 b7 b8 b9 b10 hfB ca'
    go_wp2_with fail
    go_meet
    exact ⟨g1, g2, g3, c1, c2, c3, fin⟩
  case rest =>
    obtain ⟨g1, g2, g3, c1, c2, c3, hX⟩ := hcut
    clear b0 b1 b2 b3 b4 b5 b6 b7 b8 b9 b10 hfB ca' hbx hrs hg0' hsz' hB'
    clear w0
    have q6 := (unhide hX).hold.box.eleven.2.2.2.2.2.2.1
    go_wp2_with fail
    go_loopw [12] (fun i wr => ∃ k : Nat, k ≤ 40 ∧ i = .int .i64 (k : Int) ∧ Hid (Gd.Boxed w wr B g1 g2 g3 c1 c2 c3 s g c E (Gd.sweepTo I seat k))) (fun i _ => 200 - (intOf i).toNat)
    case atStart => exact ⟨0, by omega, rfl, (unhide hX).same (fun i _ => if_neg (by omega))⟩
    case round =>
      clear q6 hX
      obtain ⟨k, hk, rfl, hB⟩ := hrel
      by_cases hlt : k < 40
      · have hlt' : (k : Int) < 40 := by omega
        have hrow := (unhide hB).hold.lists.its.row hlt
        rw [show Gd.sweepTo I seat k k = I k from if_neg (by omega)] at hrow
        obtain ⟨u0, u1, u2, u3⟩ := hrow
        have HL := hide hlt
        have hnx := hide (fun (o : Obj) => (unhide hB).on (World.grownBy_alloc wr o none))
        have q6 := (unhide hB).hold.box.eleven.2.2.2.2.2.2.1
        have fI := (unhide hB).hold.lists.items.free
        have lI := (unhide hB).hold.lists.items.lt
        have lB := (unhide hB).hold.box.lt
        by_cases hc : (I k 1 = 2 ∨ I k 1 = 3) ∧ I k 2 = seat
        · have he := hide (Gd.sweep_yes hc)
          obtain ⟨hc1, hc2⟩ := hc
          rcases hc1 with hc1 | hc1
          all_goals
            go_wp2
            go_roundw
            case rel => exact ⟨k + 1, by have := unhide HL; omega, by go_num, by
              show Gd.Boxed _ _ _ _ _ _ _ _ _ _ _ _ _ _
              rw [unhide he]
              exact ((unhide hB).put k 0 0 0 0).on (World.grownBy_alloc _ _ _)⟩
            case measure => simp [intOf]; omega
        · have he := hide (Gd.sweep_no hc)
          by_cases hc2 : I k 2 = seat
          · have n1 : ¬ I k 1 = 2 := fun h => hc ⟨.inl h, hc2⟩
            have n2 : ¬ I k 1 = 3 := fun h => hc ⟨.inr h, hc2⟩
            have m1 : (I k 1 == 2) = false := by simp [n1]
            have m2 : (I k 1 == 3) = false := by simp [n2]
            clear hc
            go_wp2
            go_roundw
            case rel => exact ⟨k + 1, by have := unhide HL; omega, by go_num, by
              show Gd.Boxed _ _ _ _ _ _ _ _ _ _ _ _ _ _
              rw [unhide he]
              exact unhide hnx _⟩
            case measure => simp [intOf]; omega
          · have m2 : (I k 2 == seat) = false := by simp [hc2]
            clear hc
            go_wp2
            go_roundw
            case rel => exact ⟨k + 1, by have := unhide HL; omega, by go_num, by
              show Gd.Boxed _ _ _ _ _ _ _ _ _ _ _ _ _ _
              rw [unhide he]
              exact unhide hnx _⟩
            case measure => simp [intOf]; omega
      · have hge : ¬ (k : Int) < 40 := by omega
        have hBf := (unhide hB).same (J := Gd.sweep I seat) (fun i hi => by show _ = if i < k then _ else _; rw [if_pos (by omega)])
        clear hB
        have hbx := hide hBf
        obtain ⟨b0, b1, b2, b3, b4, b5, b6, b7, b8, b9, b10⟩ := (unhide hbx).hold.box.eleven
        have fz := (unhide hbx).res.free
        obtain ⟨z0, z1, z2, z3, z4, z5, z6, z7, z8, z9, z10⟩ := Gd.res_cells (unhide hbx).res
        have hfin := hide (fun vs => (unhide hbx).worlds vs)
        go_wp2
        refine bodyPost_ret (v := .agg (Gd.world s g1 g2 g3 c1 c2 c3 g)) (by simp [results, Try.results34, go_sem, Gd.world, z0, z1, z2, z3, z4, z5, z6, z7, z8, z9, z10]) rfl ?_
        exact unhide hfin [_, _, _, _, _, _, _, _, _, _, _]

end Go.Proofs.Ytgkomdpceilggab

namespace Go.Proofs.Ytgkomdpceilggab
open Go.RowKit

/-- Does a seat wear one of a kind, among the first rows? -/
def Gd.wornK (I : Nat → Nat → Int) (seat kd : Int) : Nat → Bool
  | 0 => false
  | k + 1 => Gd.wornK I seat kd k || (decide (I k 1 = 3 ∧ I k 2 = seat) && decide (I k 0 = kd))

theorem Gd.worn_iff (I : Nat → Nat → Int) (seat kd : Int) : ∀ k, Gd.wornK I seat kd k = true ↔ ∃ j, j < k ∧ I j 1 = 3 ∧ I j 2 = seat ∧ I j 0 = kd
  | 0 => by simp [Gd.wornK]
  | k + 1 => by
      unfold Gd.wornK
      rw [Bool.or_eq_true, Gd.worn_iff I seat kd k, Bool.and_eq_true, decide_eq_true_eq, decide_eq_true_eq]
      constructor
      · rintro (⟨j, hj, h⟩ | ⟨⟨h1, h2⟩, h3⟩)
        · exact ⟨j, by omega, h⟩
        · exact ⟨k, by omega, h1, h2, h3⟩
      · rintro ⟨j, hj, h1, h2, h3⟩
        by_cases e : j = k
        · rw [e] at h1 h2 h3
          exact .inr ⟨⟨h1, h2⟩, h3⟩
        · exact .inl ⟨j, by omega, h1, h2, h3⟩

/-- Of items that may be: a sword is worn at 0, a mail at 1. -/
theorem Gd.worn_at {c : Nat → Int} {I : Nat → Nat → Int} (h : Gd.Ok c 40 I) (seat b : Int) : Gd.wornK I seat (b + 2) 40 = decide (0 ≤ Gd.find I 40 3 seat b) := by
  apply Bool.eq_iff_iff.2
  rw [Gd.worn_iff, decide_eq_true_eq]
  constructor
  · rintro ⟨j, hj, h1, h2, h3⟩
    rcases Gd.find_cases I 40 3 seat b with ⟨_, hno⟩ | ⟨k, _, e, _⟩
    · obtain ⟨_, _, hp⟩ := h.of hj (by omega)
      exact absurd ⟨h1, h2, by omega⟩ (hno j hj)
    · omega
  · intro h0
    obtain ⟨k, hk, _, h1, h2, h3⟩ := Gd.find_pos h0
    obtain ⟨_, _, hp⟩ := h.of hk (by omega)
    exact ⟨k, hk, h1, h2, by omega⟩

def Gd.three (b : Bool) : Int := if b = true then 3 else 0
def Gd.two (b : Bool) : Int := if b = true then 2 else 0

set_option maxHeartbeats 6400000 in
theorem bonus_any (s g c : Nat → Int) (E I : Nat → Nat → Int) (gC gE gI cC cE cI : Nat) (seat : Int) (w : World) (hL : Gd.Lists w gC gE gI c E I) :
    Calls Try.prog 45 #[.agg (Gd.world s gC gE gI cC cE cI g), .int .i64 seat] w (Says w (.tuple #[.int .i64 (Gd.three (Gd.wornK I seat 2 40)), .int .i64 (Gd.two (Gd.wornK I seat 3 40))])) := by
  obtain ⟨w0, hw0⟩ : ∃ w0, w0 = w.alloc (.cells (Gd.world s gC gE gI cC cE cI g) 28) := ⟨_, rfl⟩
  have hbox : Lie w0 w.heap.size 28 11 (Gd.box s gC gE gI cC cE cI g) := by rw [hw0]; exact (Arr.world (heap_alloc_new w _)).lie
  have hg0 : w.grownBy w0 none := by rw [hw0]; exact World.grownBy_alloc _ _ _
  have hL0 := hide (hL.on hg0)
  obtain ⟨B, hB⟩ : ∃ B, w.heap.size = B := ⟨_, rfl⟩
  rw [hB] at hbox
  have hbox' := hide hbox
  have hg0' := hide hg0
  obtain ⟨_, _, _, _, _, _, b6, _⟩ := hbox.eleven
  clear hL hbox hg0
  unfold Gd.world at hw0 ⊢
  go_enter Try.func45, Try.ntmps45
  go_upto_region 1 with fail
  rw [← hw0]
  clear hw0 hB
  go_wp2_with fail
  go_loopw [6, 7, 13] (fun a d i wr => ∃ k : Nat, k ≤ 40 ∧ i = .int .i64 (k : Int) ∧ a = .int .i64 (Gd.three (Gd.wornK I seat 2 k)) ∧ d = .int .i64 (Gd.two (Gd.wornK I seat 3 k)) ∧ w0.grownBy wr none) (fun _ _ i _ => 200 - (intOf i).toNat)
  case atStart => exact ⟨0, by omega, rfl, rfl, rfl, World.grownBy.refl _ _⟩
  case round =>
    obtain ⟨k, hk, rfl, rfl, rfl, hgr⟩ := hrel
    have hgr' := hide hgr
    clear hgr b6
    by_cases hlt : k < 40
    · obtain ⟨u0, u1, u2, u3⟩ := ((unhide hL0).on (unhide hgr')).its.row hlt
      have hlt' : (k : Int) < 40 := by omega
      have HL := hide hlt
      have hnx := hide (fun (o : Obj) => grown_alloc (unhide hgr') o)
      have e2 := hide (show Gd.wornK I seat 2 (k + 1) = (Gd.wornK I seat 2 k || (decide (I k 1 = 3 ∧ I k 2 = seat) && decide (I k 0 = 2))) from rfl)
      have e3 := hide (show Gd.wornK I seat 3 (k + 1) = (Gd.wornK I seat 3 k || (decide (I k 1 = 3 ∧ I k 2 = seat) && decide (I k 0 = 3))) from rfl)
      clear hlt
      by_cases h1 : I k 1 = 3
      · by_cases h2 : I k 2 = seat
        · by_cases k2 : I k 0 = 2
          · have r2 : Hid (Gd.wornK I seat 2 (k + 1) = true) := by show _ = _; rw [unhide e2]; simp [h1, h2, k2]
            have r3 : Hid (Gd.wornK I seat 3 (k + 1) = Gd.wornK I seat 3 k) := by show _ = _; rw [unhide e3]; simp [k2]
            clear e2 e3
            go_wp2
            go_roundw
            case rel => exact ⟨k + 1, by have := unhide HL; omega, by go_num, by rw [unhide r2]; rfl, by rw [unhide r3], unhide hnx _⟩
            case measure => simp [intOf]; omega
          · have m2 : (I k 0 == 2) = false := by simp [k2]
            have r2 : Hid (Gd.wornK I seat 2 (k + 1) = Gd.wornK I seat 2 k) := by show _ = _; rw [unhide e2]; simp [k2]
            by_cases k3 : I k 0 = 3
            · have r3 : Hid (Gd.wornK I seat 3 (k + 1) = true) := by show _ = _; rw [unhide e3]; simp [h1, h2, k3]
              clear e2 e3
              go_wp2
              go_roundw
              case rel => exact ⟨k + 1, by have := unhide HL; omega, by go_num, by rw [unhide r2], by rw [unhide r3]; rfl, unhide hnx _⟩
              case measure => simp [intOf]; omega
            · have m3 : (I k 0 == 3) = false := by simp [k3]
              have r3 : Hid (Gd.wornK I seat 3 (k + 1) = Gd.wornK I seat 3 k) := by show _ = _; rw [unhide e3]; simp [k3]
              clear e2 e3
              go_wp2
              go_roundw
              case rel => exact ⟨k + 1, by have := unhide HL; omega, by go_num, by rw [unhide r2], by rw [unhide r3], unhide hnx _⟩
              case measure => simp [intOf]; omega
        · have m2 : (I k 2 == seat) = false := by simp [h2]
          have r2 : Hid (Gd.wornK I seat 2 (k + 1) = Gd.wornK I seat 2 k) := by show _ = _; rw [unhide e2]; simp [h2]
          have r3 : Hid (Gd.wornK I seat 3 (k + 1) = Gd.wornK I seat 3 k) := by show _ = _; rw [unhide e3]; simp [h2]
          clear e2 e3
          go_wp2
          go_roundw
          case rel => exact ⟨k + 1, by have := unhide HL; omega, by go_num, by rw [unhide r2], by rw [unhide r3], unhide hnx _⟩
          case measure => simp [intOf]; omega
      · have m1 : (I k 1 == 3) = false := by simp [h1]
        have r2 : Hid (Gd.wornK I seat 2 (k + 1) = Gd.wornK I seat 2 k) := by show _ = _; rw [unhide e2]; simp [h1]
        have r3 : Hid (Gd.wornK I seat 3 (k + 1) = Gd.wornK I seat 3 k) := by show _ = _; rw [unhide e3]; simp [h1]
        clear e2 e3
        go_wp2
        go_roundw
        case rel => exact ⟨k + 1, by have := unhide HL; omega, by go_num, by rw [unhide r2], by rw [unhide r3], unhide hnx _⟩
        case measure => simp [intOf]; omega
    · have hge : ¬ (k : Int) < 40 := by omega
      have hfin := hide (grown_trans (unhide hg0') (unhide hgr'))
      obtain rfl : k = 40 := by omega
      go_wp2
      refine bodyPost_ret (v := .tuple #[.int .i64 (Gd.three (Gd.wornK I seat 2 40)), .int .i64 (Gd.two (Gd.wornK I seat 3 40))]) (by simp [results, Try.results45, go_sem]) rfl ?_
      exact ⟨rfl, unhide hfin⟩

end Go.Proofs.Ytgkomdpceilggab

namespace Go.Proofs.Ytgkomdpceilggab
open Go.RowKit

theorem Lie.of_append {w : World} {base n z : Nat} {T : TypeId} {v : Value} {F : Nat → Value} (h : w.ownsRow base T z v n (Gd.list (n * z) F)) (hv : v ≠ .slice none 0 0) : ∃ g cap, v = .slice (some ⟨g, 0, none⟩) n cap ∧ base ≤ g ∧ n ≤ cap ∧ Lie w g T (n * z) F := by
  rcases h.2 with ⟨h', _⟩ | ⟨g, cap, cur, rfl, hb, hg, hnc, hcm, hcs, htake⟩
  · exact absurd h' hv
  · refine ⟨g, cap, rfl, hb, hnc, cur.size, fun j => cur[j]?.getD undef, Arr.lit hg, by rw [hcs]; exact Nat.mul_le_mul_right z hnc, fun c hc => ?_⟩
    have e := Gd.list_at (F := F) hc
    rw [← htake, List.getElem?_take, if_pos hc, Array.getElem?_toList] at e
    show cur[c]?.getD undef = _
    rw [e]
    rfl

theorem Lie.type7 {x : World} {B G : Nat} {T U : TypeId} {m n : Nat} {F K : Nat → Value} (h1 : Lie x B T m F) (h2 : Lie x G U n K) (h : T ≠ U) : B ≠ G := by
  rintro rfl
  obtain ⟨_, _, ⟨c1, e1, _⟩, _⟩ := h1
  obtain ⟨_, _, ⟨c2, e2, _⟩, _⟩ := h2
  rw [e1] at e2
  simp only [Option.some.injEq, Obj.cells.injEq] at e2
  exact h e2.2.1

/-- A box with some lists, and the place of what is answered. -/
structure Gd.Part (w x : World) (B gC gE gI cC cE cI : Nat) (s g : Nat → Int) : Prop where
  box : Lie x B 28 11 (Gd.box s gC gE gI cC cE cI g)
  res : Lie x (B + 1) 28 11 (fun j => #[.int .i64 0, .int .i64 0, .int .i64 0, .int .i64 0, .slice none 0 0, .slice none 0 0, .slice none 0 0, .int .i64 0, .int .i64 0, .int .i64 0, Value.int .i64 0][j]?.getD undef)
  at_ : w.heap.size = B
  two : B + 2 ≤ x.heap.size
  grown : w.grownBy x none

theorem Gd.Part.on {w x y : World} {B gC gE gI cC cE cI : Nat} {s g : Nat → Int} (h : Gd.Part w x B gC gE gI cC cE cI s g) (hg : x.grownBy y none) : Gd.Part w y B gC gE gI cC cE cI s g :=
  ⟨h.box.on hg, h.res.on hg, h.at_, Nat.le_trans h.two hg.size, grown_trans h.grown hg⟩

theorem Gd.Part.set {w x : World} {B gC gE gI cC cE cI : Nat} {s g : Nat → Int} (h : Gd.Part w x B gC gE gI cC cE cI s g) (i : Nat) (v : Value) (gC' gE' gI' cC' cE' cI' : Nat) (he : ∀ j, j < 11 → (if j = i then v else Gd.box s gC gE gI cC cE cI g j) = Gd.box s gC' gE' gI' cC' cE' cI' g j) : Gd.Part w (x.setCell ⟨B, i, none⟩ v) B gC' gE' gI' cC' cE' cI' s g := by
  have hB := h.at_
  have r := grown_set0 x B i v
  exact ⟨(h.box.store i v).congr he, h.res.grown r (by simp), h.at_, by simpa using h.two, grown_store h.grown ⟨B, i, none⟩ (by show w.heap.size ≤ B; omega) v⟩

theorem Gd.box_4 (s g : Nat → Int) (gC gE gI cC cE cI g1 c1 : Nat) : ∀ j, j < 11 → (if j = 4 then Value.slice (some ⟨g1, 0, none⟩) 384 c1 else Gd.box s gC gE gI cC cE cI g j) = Gd.box s g1 gE gI c1 cE cI g j := by
  intro j hj
  rcases (show j = 0 ∨ j = 1 ∨ j = 2 ∨ j = 3 ∨ j = 4 ∨ j = 5 ∨ j = 6 ∨ j = 7 ∨ j = 8 ∨ j = 9 ∨ j = 10 by omega) with rfl | rfl | rfl | rfl | rfl | rfl | rfl | rfl | rfl | rfl | rfl <;> rfl

theorem Gd.box_5 (s g : Nat → Int) (gC gE gI cC cE cI g1 c1 : Nat) : ∀ j, j < 11 → (if j = 5 then Value.slice (some ⟨g1, 0, none⟩) 32 c1 else Gd.box s gC gE gI cC cE cI g j) = Gd.box s gC g1 gI cC c1 cI g j := by
  intro j hj
  rcases (show j = 0 ∨ j = 1 ∨ j = 2 ∨ j = 3 ∨ j = 4 ∨ j = 5 ∨ j = 6 ∨ j = 7 ∨ j = 8 ∨ j = 9 ∨ j = 10 by omega) with rfl | rfl | rfl | rfl | rfl | rfl | rfl | rfl | rfl | rfl | rfl <;> rfl

theorem Gd.box_6 (s g : Nat → Int) (gC gE gI cC cE cI g1 c1 : Nat) : ∀ j, j < 11 → (if j = 6 then Value.slice (some ⟨g1, 0, none⟩) 40 c1 else Gd.box s gC gE gI cC cE cI g j) = Gd.box s gC gE g1 cC cE c1 g j := by
  intro j hj
  rcases (show j = 0 ∨ j = 1 ∨ j = 2 ∨ j = 3 ∨ j = 4 ∨ j = 5 ∨ j = 6 ∨ j = 7 ∨ j = 8 ∨ j = 9 ∨ j = 10 by omega) with rfl | rfl | rfl | rfl | rfl | rfl | rfl | rfl | rfl | rfl | rfl <;> rfl

end Go.Proofs.Ytgkomdpceilggab

namespace Go.Proofs.Ytgkomdpceilggab
open Go.RowKit

theorem Gd.three_at (z : Int) : Gd.three (decide (0 ≤ z)) = if 0 ≤ z then 3 else 0 := by
  unfold Gd.three
  by_cases h : 0 ≤ z <;> simp [h]

theorem Gd.two_at (z : Int) : Gd.two (decide (0 ≤ z)) = if 0 ≤ z then 2 else 0 := by
  unfold Gd.two
  by_cases h : 0 ≤ z <;> simp [h]

end Go.Proofs.Ytgkomdpceilggab

namespace Go.Proofs.Ytgkomdpceilggab
open Go.RowKit

end Go.Proofs.Ytgkomdpceilggab

namespace Go.Proofs.Ytgkomdpceilggab
open Go.RowKit

theorem Gd.find_self {I : Nat → Nat → Int} {k : Nat} (hk : k < 40) : Gd.find I 40 (I k 1) (I k 2) (I k 3) = (k : Int) ↔ ∀ j, j < k → ¬ (I j 1 = I k 1 ∧ I j 2 = I k 2 ∧ I j 3 = I k 3) := by
  rcases Gd.find_cases I 40 (I k 1) (I k 2) (I k 3) with ⟨_, hno⟩ | ⟨m, hm, e, h1, h2, h3, hlow⟩
  · exact absurd ⟨rfl, rfl, rfl⟩ (hno k hk)
  · rw [e]
    constructor
    · intro h j hj
      exact hlow j (by omega)
    · intro h
      by_cases lt : m < k
      · exact absurd ⟨h1, h2, h3⟩ (h m lt)
      · by_cases gt : k < m
        · exact absurd ⟨rfl, rfl, rfl⟩ (hlow k gt)
        · have : m = k := by omega
          rw [this]

theorem Gd.fits_where {c : Nat → Int} {k p a b : Int} (h : Gd.fitsB c k p a b = true) : p ≠ 0 ∧ 1 ≤ k ∧ k ≤ 4 := by
  have := (Gd.fits_iff c (Gd.row k p a b)).1 h
  exact ⟨this.where_ne, this.1, this.2.1⟩

end Go.Proofs.Ytgkomdpceilggab

namespace Go.Proofs.Ytgkomdpceilggab
open Go.RowKit

def Gd.goneQ (J : Nat → Nat → Int) : Nat → Bool := fun i => Gd.zeroB (J i 0) (J i 1) (J i 2) (J i 3)

/-- The first m items laid, one behind the other, each into the lowest row that is gone. -/
def Gd.lay (I M : Nat → Nat → Int) : Nat → Nat → Nat → Int
  | 0 => I
  | m + 1 => if 0 ≤ En.first (Gd.goneQ (Gd.lay I M m)) 40 then En.put (Gd.lay I M m) (En.first (Gd.goneQ (Gd.lay I M m)) 40).toNat (Gd.row (M m 0) (M m 1) (M m 2) (M m 3)) else Gd.lay I M m

theorem Gd.lay_none {I M : Nat → Nat → Int} {m : Nat} (h : ∀ j, j < 40 → Gd.goneQ (Gd.lay I M m) j = false) : Gd.lay I M (m + 1) = Gd.lay I M m := by
  show (if _ then _ else _) = _
  rw [En.first_none h, if_neg (by omega)]

theorem Gd.lay_some {I M : Nat → Nat → Int} {m r : Nat} (hno : ∀ j, j < r → Gd.goneQ (Gd.lay I M m) j = false) (hr : Gd.goneQ (Gd.lay I M m) r = true) (h40 : r < 40) : Gd.lay I M (m + 1) = En.put (Gd.lay I M m) r (Gd.row (M m 0) (M m 1) (M m 2) (M m 3)) := by
  show (if _ then _ else _) = _
  rw [En.first_hit hno hr h40, if_pos (by omega), Int.toNat_natCast]

theorem Gd.lay_stuck {I M : Nat → Nat → Int} {m : Nat} (h : ∀ j, j < 40 → Gd.goneQ (Gd.lay I M m) j = false) : ∀ d, Gd.lay I M (m + d) = Gd.lay I M m
  | 0 => rfl
  | d + 1 => by
      have ih := Gd.lay_stuck h d
      have h' : ∀ j, j < 40 → Gd.goneQ (Gd.lay I M (m + d)) j = false := by rw [ih]; exact h
      rw [← Nat.add_assoc, Gd.lay_none h', ih]

/-- Items that came in: none, or a list at some place of a block. -/
def Gd.Some (w : World) (a : Option Addr) (n : Nat) (M : Nat → Nat → Int) : Prop := n ≤ 100 ∧ (n = 0 ∨ ∃ b o, a = some ⟨b, o, none⟩ ∧ Its w b o n M)

theorem Gd.Some.on {w w' : World} {a : Option Addr} {n : Nat} {M : Nat → Nat → Int} (h : Gd.Some w a n M) (hg : w.grownBy w' none) : Gd.Some w' a n M := by
  obtain ⟨h1, h0 | ⟨b, o, h2, h3⟩⟩ := h
  · exact ⟨h1, .inl h0⟩
  · exact ⟨h1, .inr ⟨b, o, h2, h3.on hg⟩⟩

theorem Gd.Some.row {w : World} {a : Option Addr} {n : Nat} {M : Nat → Nat → Int} (h : Gd.Some w a n M) {k : Nat} (hk : k < n) : ∃ b o, a = some ⟨b, o, none⟩ ∧ b < w.heap.size ∧ w.cell? ⟨b, o + k * 4, none⟩ = some (.int .i64 (M k 0)) ∧ w.cell? ⟨b, o + k * 4 + 1, none⟩ = some (.int .i64 (M k 1)) ∧ w.cell? ⟨b, o + k * 4 + 2, none⟩ = some (.int .i64 (M k 2)) ∧ w.cell? ⟨b, o + k * 4 + 3, none⟩ = some (.int .i64 (M k 3)) := by
  obtain ⟨_, h0 | ⟨b, o, h2, h3⟩⟩ := h
  · omega
  · exact ⟨b, o, h2, h3.2.1, h3.2.2 k 0 hk (by omega), h3.2.2 k 1 hk (by omega), h3.2.2 k 2 hk (by omega), h3.2.2 k 3 hk (by omega)⟩

/-- A call hands back a list of 40 items of its own. -/
def Gd.Gives40 (w : World) (J : Nat → Nat → Int) (e : Ending) (w' : World) : Prop :=
  ∃ g cap, e = .returned (.slice (some ⟨g, 0, none⟩) 40 cap) ∧ w.heap.size ≤ g ∧ Lie w' g 41 160 (Gd.flat J) ∧ w.grownBy w' none

end Go.Proofs.Ytgkomdpceilggab
