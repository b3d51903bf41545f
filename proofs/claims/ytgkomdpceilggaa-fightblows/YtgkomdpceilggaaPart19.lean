/-
  All that a seat has is swept away, in goods: Sweep.
  What is worn helps, in goods and in the document: Bonus.
  A world apart, in the document: Twin.
  All that a seat has is swept away, and what is worn helps, in the document: Sweep, Bonus.
  Whether an item may be where it is, and whether all may, in the document: placed, Check.
  Whether all items may be where they are, in the document: Check.
  Items that are laid into rows that are gone: as numbers, and in the document: Lay.
-/
import Derived.Test.YtgkomdpceilggaaPart18
import Derived.Test.YtgkomdpceilggaaPart15
namespace Go.Proofs.Ytgkomdpceilggaa
open Go.RowKit

theorem Gd.Boxed.put {w x : World} {B gC gE gI cC cE cI : Nat} {s g c : Nat → Int} {E I : Nat → Nat → Int} (h : Gd.Boxed w x B gC gE gI cC cE cI s g c E I) (m : Nat) (a b d e : Int) : Gd.Boxed w ((((x.setCell ⟨gI, m * 4, none⟩ (.int .i64 a)).setCell ⟨gI, m * 4 + 1, none⟩ (.int .i64 b)).setCell ⟨gI, m * 4 + 2, none⟩ (.int .i64 d)).setCell ⟨gI, m * 4 + 3, none⟩ (.int .i64 e)) B gC gE gI cC cE cI s g c E (En.put I m (Gd.row a b d e)) := by
  have h1 := h.lI
  have h2 := h.at_
  have r := grown_put4 (World.grownBy.refl x (some gI)) m (.int .i64 a) (.int .i64 b) (.int .i64 d) (.int .i64 e)
  exact { h with hold := h.hold.put m a b d e, res := h.res.grown r (by simp; omega), grown := grown_own h.grown r (fun n e => by cases e; omega) }

theorem Gd.Boxed.same {w x : World} {B gC gE gI cC cE cI : Nat} {s g c : Nat → Int} {E I J : Nat → Nat → Int} (h : Gd.Boxed w x B gC gE gI cC cE cI s g c E I) (he : ∀ i, i < 40 → J i = I i) : Gd.Boxed w x B gC gE gI cC cE cI s g c E J :=
  { h with hold := { h.hold with lists := { h.hold.lists with items := h.hold.lists.items.congr fun q hq => by unfold Gd.flat; rw [he (q / 4) (by omega)] } } }

/-- The first k rows swept. -/
def Gd.sweepTo (I : Nat → Nat → Int) (seat : Int) (k : Nat) : Nat → Nat → Int := fun i => if i < k then Gd.sweep I seat i else I i

theorem Gd.sweep_yes {I : Nat → Nat → Int} {seat : Int} {k : Nat} (h : (I k 1 = 2 ∨ I k 1 = 3) ∧ I k 2 = seat) : Gd.sweepTo I seat (k + 1) = En.put (Gd.sweepTo I seat k) k (Gd.row 0 0 0 0) := by
  funext i
  unfold Gd.sweepTo En.put
  by_cases e : i = k
  · rw [if_pos (by omega), if_pos e, e, Gd.row_gone]
    unfold Gd.sweep
    rw [if_pos h]
  · rw [if_neg e]
    show _ = if i < k then _ else _
    by_cases e2 : i < k
    · rw [if_pos (by omega), if_pos e2]
    · rw [if_neg (by omega), if_neg e2]

theorem Gd.sweep_no {I : Nat → Nat → Int} {seat : Int} {k : Nat} (h : ¬ ((I k 1 = 2 ∨ I k 1 = 3) ∧ I k 2 = seat)) : Gd.sweepTo I seat (k + 1) = Gd.sweepTo I seat k := by
  funext i
  unfold Gd.sweepTo
  by_cases e : i = k
  · rw [if_pos (by omega), if_neg (by omega), e]
    unfold Gd.sweep
    rw [if_neg h]
  · by_cases e2 : i < k
    · rw [if_pos (by omega), if_pos e2]
    · rw [if_neg (by omega), if_neg e2]

set_option maxHeartbeats 6400000 in
theorem sweep_any (s g c : Nat → Int) (E I : Nat → Nat → Int) (gC gE gI cC cE cI : Nat) (seat : Int) (w : World) (hL : Gd.Lists w gC gE gI c E I) :
    Calls Try.prog 17 #[.agg (Gd.world s gC gE gI cC cE cI g), .int .i64 seat] w (Gd.Worlds w s g c E (Gd.sweep I seat)) := by
  obtain ⟨w0, hw0, hbox, hres, hg0, hsz⟩ := Gd.boxes w gC gE gI cC cE cI s g
  have ca := apart_any s g c E I gC gE gI cC cE cI w0 (hL.on hg0)
  obtain ⟨b0, b1, b2, b3, b4, b5, b6, b7, b8, b9, b10⟩ := hbox.eleven
  have hbx := hide hbox
  have hrs := hide hres
  have hg0' := hide hg0
  have hsz' := hide hsz
  have ca' := hide ca
  have hfB := hbox.free
  clear hL ca hbox hres hg0 hsz
  unfold Gd.world at hw0 ca' ⊢
  go_enter Try.func17, Try.ntmps17
  go_upto_region 1 with fail
  rw [← hw0]
  clear hw0
  obtain ⟨B, hB⟩ : ∃ B, w.heap.size = B := ⟨_, rfl⟩
  rw [hB] at hbx hrs hsz' b0 b1 b2 b3 b4 b5 b6 b7 b8 b9 b10 ⊢
  have hB' := hide hB
  rw [hB] at hfB
  clear hB
  go_cut [] from 7 (fun wx => ∃ g1 g2 g3 c1 c2 c3, Hid (Gd.Boxed w wx B g1 g2 g3 c1 c2 c3 s g c E I))
  case first =>
    go_wp2_with fail
    refine (unhide ca').mono ?_
    rintro e w1 ⟨g1, g2, g3, c1, c2, c3, rfl, hcap, l1, l2, l3, n1, n2, n3, hL1, hg1⟩
    obtain ⟨y0, y1, y2, y3, y4, y5, y6, y7, y8, y9, y10⟩ := ((unhide hbx).on hg1).eleven
    have fB := ((unhide hbx).on hg1).free
    have fin : Hid (Gd.Boxed w (w1.setCells B 0 (Gd.world s g1 g2 g3 c1 c2 c3 g).toList) B g1 g2 g3 c1 c2 c3 s g c E I) := by
      have r := grown_sets (g := B) (Gd.world s g1 g2 g3 c1 c2 c3 g).toList 0 w1 (World.grownBy.refl _ _)
      have hB := unhide hB'
      have hs := unhide hsz'
      exact ⟨⟨((unhide hbx).on hg1).whole s g g1 g2 g3 c1 c2 c3, ⟨hL1.cells.grown r (by simp; omega), hL1.ents.grown r (by simp; omega), hL1.items.grown r (by simp; omega)⟩, by omega, by omega, by omega, n1, n2, n3⟩, hB, by omega, by omega, by omega, hcap, ((unhide hrs).on hg1).grown r (by simp), own_sets (by omega) _ 0 w1 (grown_trans (unhide hg0') hg1)⟩
    unfold Gd.world at fin ⊢
    clear hcap l1 l2 l3 n1 n2 n3 hL1 hg1 b0 b1 b2 b3 b4 b5 b6 b7 b8 b9 b10 hfB ca'
    go_wp2_with fail
    go_meet
    exact ⟨g1, g2, g3, c1, c2, c3, fin⟩
  case rest =>
    obtain ⟨g1, g2, g3, c1, c2, c3, hX⟩ := hcut
    clear b0 b1 b2 b3 b4 b5 b6 b7 b8 b9 b10 hfB ca' hbx hrs hg0' hsz' hB'
    clear w0
    have q6 := (unhide hX).hold.box.eleven.2.2.2.2.2.2.1
    go_wp2_with fail
    go_loopw [12] (fun i wr => ∃ k : Nat, k ≤ 40 ∧ i = .int .i64 (k : Int) ∧ Hid (Gd.Boxed w wr B g1 g2 g3 c1 c2 c3 s g c E (Gd.sweepTo I seat k))) (fun i _ => 200 - (intOf i).toNat)
    case atStart => exact ⟨0, by omega, rfl, (unhide hX).same (fun i _ => if_neg (by omega))⟩
    case round =>
      clear q6 hX
      obtain ⟨k, hk, rfl, hB⟩ := hrel
      by_cases hlt : k < 40
      · have hlt' : (k : Int) < 40 := by omega
        have hrow := (unhide hB).hold.lists.its.row hlt
        rw [show Gd.sweepTo I seat k k = I k from if_neg (by omega)] at hrow
        obtain ⟨u0, u1, u2, u3⟩ := hrow
        have HL := hide hlt
        have hnx := hide (fun (o : Obj) => (unhide hB).on (World.grownBy_alloc wr o none))
        have q6 := (unhide hB).hold.box.eleven.2.2.2.2.2.2.1
        have fI := (unhide hB).hold.lists.items.free
        have lI := (unhide hB).hold.lists.items.lt
        have lB := (unhide hB).hold.box.lt
        by_cases hc : (I k 1 = 2 ∨ I k 1 = 3) ∧ I k 2 = seat
        · have he := hide (Gd.sweep_yes hc)
          obtain ⟨hc1, hc2⟩ := hc
          rcases hc1 with hc1 | hc1
          all_goals
            go_wp2
            go_roundw
            case rel => exact ⟨k + 1, by have := unhide HL; omega, by go_num, by
              show Gd.Boxed _ _ _ _ _ _ _ _ _ _ _ _ _ _
              rw [unhide he]
              exact ((unhide hB).put k 0 0 0 0).on (World.grownBy_alloc _ _ _)⟩
            case measure => simp [intOf]; omega
        · have he := hide (Gd.sweep_no hc)
          by_cases hc2 : I k 2 = seat
          · have n1 : ¬ I k 1 = 2 := fun h => hc ⟨.inl h, hc2⟩
            have n2 : ¬ I k 1 = 3 := fun h => hc ⟨.inr h, hc2⟩
            have m1 : (I k 1 == 2) = false := by simp [n1]
            have m2 : (I k 1 == 3) = false := by simp [n2]
            clear hc
            go_wp2
            go_roundw
            case rel => exact ⟨k + 1, by have := unhide HL; omega, by go_num, by
              show Gd.Boxed _ _ _ _ _ _ _ _ _ _ _ _ _ _
              rw [unhide he]
              exact unhide hnx _⟩
            case measure => simp [intOf]; omega
          · have m2 : (I k 2 == seat) = false := by simp [hc2]
            clear hc
            go_wp2
            go_roundw
            case rel => exact ⟨k + 1, by have := unhide HL; omega, by go_num, by
              show Gd.Boxed _ _ _ _ _ _ _ _ _ _ _ _ _ _
              rw [unhide he]
              exact unhide hnx _⟩
            case measure => simp [intOf]; omega
      · have hge : ¬ (k : Int) < 40 := by omega
        have hBf := (unhide hB).same (J := Gd.sweep I seat) (fun i hi => by show _ = if i < k then _ else _; rw [if_pos (by omega)])
        clear hB
        have hbx := hide hBf
        obtain ⟨b0, b1, b2, b3, b4, b5, b6, b7, b8, b9, b10⟩ := (unhide hbx).hold.box.eleven
        have fz := (unhide hbx).res.free
        obtain ⟨z0, z1, z2, z3, z4, z5, z6, z7, z8, z9, z10⟩ := Gd.res_cells (unhide hbx).res
        have hfin := hide (fun vs => (unhide hbx).worlds vs)
        go_wp2
        refine bodyPost_ret (v := .agg (Gd.world s g1 g2 g3 c1 c2 c3 g)) (by simp [results, Try.results17, go_sem, Gd.world, z0, z1, z2, z3, z4, z5, z6, z7, z8, z9, z10]) rfl ?_
        exact unhide hfin [_, _, _, _, _, _, _, _, _, _, _]

end Go.Proofs.Ytgkomdpceilggaa

namespace Go.Proofs.Ytgkomdpceilggaa
open Go.RowKit

/-- Does a seat wear one of a kind, among the first rows? -/
def Gd.wornK (I : Nat → Nat → Int) (seat kd : Int) : Nat → Bool
  | 0 => false
  | k + 1 => Gd.wornK I seat kd k || (decide (I k 1 = 3 ∧ I k 2 = seat) && decide (I k 0 = kd))

theorem Gd.worn_iff (I : Nat → Nat → Int) (seat kd : Int) : ∀ k, Gd.wornK I seat kd k = true ↔ ∃ j, j < k ∧ I j 1 = 3 ∧ I j 2 = seat ∧ I j 0 = kd
  | 0 => by simp [Gd.wornK]
  | k + 1 => by
      unfold Gd.wornK
      rw [Bool.or_eq_true, Gd.worn_iff I seat kd k, Bool.and_eq_true, decide_eq_true_eq, decide_eq_true_eq]
      constructor
      · rintro (⟨j, hj, h⟩ | ⟨⟨h1, h2⟩, h3⟩)
        · exact ⟨j, by omega, h⟩
        · exact ⟨k, by omega, h1, h2, h3⟩
      · rintro ⟨j, hj, h1, h2, h3⟩
        by_cases e : j = k
        · rw [e] at h1 h2 h3
          exact .inr ⟨⟨h1, h2⟩, h3⟩
        · exact .inl ⟨j, by omega, h1, h2, h3⟩

/-- Of items that may be: a sword is worn at 0, a mail at 1. -/
theorem Gd.worn_at {c : Nat → Int} {I : Nat → Nat → Int} (h : Gd.Ok c 40 I) (seat b : Int) : Gd.wornK I seat (b + 2) 40 = decide (0 ≤ Gd.find I 40 3 seat b) := by
  apply Bool.eq_iff_iff.2
  rw [Gd.worn_iff, decide_eq_true_eq]
  constructor
  · rintro ⟨j, hj, h1, h2, h3⟩
    rcases Gd.find_cases I 40 3 seat b with ⟨_, hno⟩ | ⟨k, _, e, _⟩
    · obtain ⟨_, _, hp⟩ := h.of hj (by omega)
      exact absurd ⟨h1, h2, by omega⟩ (hno j hj)
    · omega
  · intro h0
    obtain ⟨k, hk, _, h1, h2, h3⟩ := Gd.find_pos h0
    obtain ⟨_, _, hp⟩ := h.of hk (by omega)
    exact ⟨k, hk, h1, h2, by omega⟩

def Gd.three (b : Bool) : Int := if b = true then 3 else 0
def Gd.two (b : Bool) : Int := if b = true then 2 else 0

set_option maxHeartbeats 6400000 in
theorem bonus_any (s g c : Nat → Int) (E I : Nat → Nat → Int) (gC gE gI cC cE cI : Nat) (seat : Int) (w : World) (hL : Gd.Lists w gC gE gI c E I) :
    Calls Try.prog 19 #[.agg (Gd.world s gC gE gI cC cE cI g), .int .i64 seat] w (Says w (.tuple #[.int .i64 (Gd.three (Gd.wornK I seat 2 40)), .int .i64 (Gd.two (Gd.wornK I seat 3 40))])) := by
  obtain ⟨w0, hw0⟩ : ∃ w0, w0 = w.alloc (.cells (Gd.world s gC gE gI cC cE cI g) 29) := ⟨_, rfl⟩
  have hbox : Lie w0 w.heap.size 29 11 (Gd.box s gC gE gI cC cE cI g) := by rw [hw0]; exact (Arr.world (heap_alloc_new w _)).lie
  have hg0 : w.grownBy w0 none := by rw [hw0]; exact World.grownBy_alloc _ _ _
  have hL0 := hide (hL.on hg0)
  obtain ⟨B, hB⟩ : ∃ B, w.heap.size = B := ⟨_, rfl⟩
  rw [hB] at hbox
  have hbox' := hide hbox
  have hg0' := hide hg0
  obtain ⟨_, _, _, _, _, _, b6, _⟩ := hbox.eleven
  clear hL hbox hg0
  unfold Gd.world at hw0 ⊢
  go_enter Try.func19, Try.ntmps19
  go_upto_region 1 with fail
  rw [← hw0]
  clear hw0 hB
  go_wp2_with fail
  go_loopw [6, 7, 13] (fun a d i wr => ∃ k : Nat, k ≤ 40 ∧ i = .int .i64 (k : Int) ∧ a = .int .i64 (Gd.three (Gd.wornK I seat 2 k)) ∧ d = .int .i64 (Gd.two (Gd.wornK I seat 3 k)) ∧ w0.grownBy wr none) (fun _ _ i _ => 200 - (intOf i).toNat)
  case atStart => exact ⟨0, by omega, rfl, rfl, rfl, World.grownBy.refl _ _⟩
  case round =>
    obtain ⟨k, hk, rfl, rfl, rfl, hgr⟩ := hrel
    have hgr' := hide hgr
    clear hgr b6
    by_cases hlt : k < 40
    · obtain ⟨u0, u1, u2, u3⟩ := ((unhide hL0).on (unhide hgr')).its.row hlt
      have hlt' : (k : Int) < 40 := by omega
      have HL := hide hlt
      have hnx := hide (fun (o : Obj) => grown_alloc (unhide hgr') o)
      have e2 := hide (show Gd.wornK I seat 2 (k + 1) = (Gd.wornK I seat 2 k || (decide (I k 1 = 3 ∧ I k 2 = seat) && decide (I k 0 = 2))) from rfl)
      have e3 := hide (show Gd.wornK I seat 3 (k + 1) = (Gd.wornK I seat 3 k || (decide (I k 1 = 3 ∧ I k 2 = seat) && decide (I k 0 = 3))) from rfl)
      clear hlt
      by_cases h1 : I k 1 = 3
      · by_cases h2 : I k 2 = seat
        · by_cases k2 : I k 0 = 2
          · have r2 : Hid (Gd.wornK I seat 2 (k + 1) = true) := by show _ = _; rw [unhide e2]; simp [h1, h2, k2]
            have r3 : Hid (Gd.wornK I seat 3 (k + 1) = Gd.wornK I seat 3 k) := by show _ = _; rw [unhide e3]; simp [k2]
            clear e2 e3
            go_wp2
            go_roundw
            case rel => exact ⟨k + 1, by have := unhide HL; omega, by go_num, by rw [unhide r2]; rfl, by rw [unhide r3], unhide hnx _⟩
            case measure => simp [intOf]; omega
          · have m2 : (I k 0 == 2) = false := by simp [k2]
            have r2 : Hid (Gd.wornK I seat 2 (k + 1) = Gd.wornK I seat 2 k) := by show _ = _; rw [unhide e2]; simp [k2]
            by_cases k3 : I k 0 = 3
            · have r3 : Hid (Gd.wornK I seat 3 (k + 1) = true) := by show _ = _; rw [unhide e3]; simp [h1, h2, k3]
              clear e2 e3
              go_wp2
              go_roundw
              case rel => exact ⟨k + 1, by have := unhide HL; omega, by go_num, by rw [unhide r2], by rw [unhide r3]; rfl, unhide hnx _⟩
              case measure => simp [intOf]; omega
            · have m3 : (I k 0 == 3) = false := by simp [k3]
              have r3 : Hid (Gd.wornK I seat 3 (k + 1) = Gd.wornK I seat 3 k) := by show _ = _; rw [unhide e3]; simp [k3]
              clear e2 e3
              go_wp2
              go_roundw
              case rel => exact ⟨k + 1, by have := unhide HL; omega, by go_num, by rw [unhide r2], by rw [unhide r3], unhide hnx _⟩
              case measure => simp [intOf]; omega
        · have m2 : (I k 2 == seat) = false := by simp [h2]
          have r2 : Hid (Gd.wornK I seat 2 (k + 1) = Gd.wornK I seat 2 k) := by show _ = _; rw [unhide e2]; simp [h2]
          have r3 : Hid (Gd.wornK I seat 3 (k + 1) = Gd.wornK I seat 3 k) := by show _ = _; rw [unhide e3]; simp [h2]
          clear e2 e3
          go_wp2
          go_roundw
          case rel => exact ⟨k + 1, by have := unhide HL; omega, by go_num, by rw [unhide r2], by rw [unhide r3], unhide hnx _⟩
          case measure => simp [intOf]; omega
      · have m1 : (I k 1 == 3) = false := by simp [h1]
        have r2 : Hid (Gd.wornK I seat 2 (k + 1) = Gd.wornK I seat 2 k) := by show _ = _; rw [unhide e2]; simp [h1]
        have r3 : Hid (Gd.wornK I seat 3 (k + 1) = Gd.wornK I seat 3 k) := by show _ = _; rw [unhide e3]; simp [h1]
        clear e2 e3
        go_wp2
        go_roundw
        case rel => exact ⟨k + 1, by have := unhide HL; omega, by go_num, by rw [unhide r2], by rw [unhide r3], unhide hnx _⟩
        case measure => simp [intOf]; omega
    · have hge : ¬ (k : Int) < 40 := by omega
      have hfin := hide (grown_trans (unhide hg0') (unhide hgr'))
      obtain rfl : k = 40 := by omega
      go_wp2
      refine bodyPost_ret (v := .tuple #[.int .i64 (Gd.three (Gd.wornK I seat 2 40)), .int .i64 (Gd.two (Gd.wornK I seat 3 40))]) (by simp [results, Try.results19, go_sem]) rfl ?_
      exact ⟨rfl, unhide hfin⟩

end Go.Proofs.Ytgkomdpceilggaa

namespace Go.Proofs.Ytgkomdpceilggaa
open Go.RowKit

theorem Lie.of_append {w : World} {base n z : Nat} {T : TypeId} {v : Value} {F : Nat → Value} (h : w.ownsRow base T z v n (Gd.list (n * z) F)) (hv : v ≠ .slice none 0 0) : ∃ g cap, v = .slice (some ⟨g, 0, none⟩) n cap ∧ base ≤ g ∧ n ≤ cap ∧ Lie w g T (n * z) F := by
  rcases h.2 with ⟨h', _⟩ | ⟨g, cap, cur, rfl, hb, hg, hnc, hcm, hcs, htake⟩
  · exact absurd h' hv
  · refine ⟨g, cap, rfl, hb, hnc, cur.size, fun j => cur[j]?.getD undef, Arr.lit hg, by rw [hcs]; exact Nat.mul_le_mul_right z hnc, fun c hc => ?_⟩
    have e := Gd.list_at (F := F) hc
    rw [← htake, List.getElem?_take, if_pos hc, Array.getElem?_toList] at e
    show cur[c]?.getD undef = _
    rw [e]
    rfl

theorem Lie.type7 {x : World} {B G : Nat} {T U : TypeId} {m n : Nat} {F K : Nat → Value} (h1 : Lie x B T m F) (h2 : Lie x G U n K) (h : T ≠ U) : B ≠ G := by
  rintro rfl
  obtain ⟨_, _, ⟨c1, e1, _⟩, _⟩ := h1
  obtain ⟨_, _, ⟨c2, e2, _⟩, _⟩ := h2
  rw [e1] at e2
  simp only [Option.some.injEq, Obj.cells.injEq] at e2
  exact h e2.2.1

/-- A box with some lists, and the place of what is answered. -/
structure Gd.Part (w x : World) (B gC gE gI cC cE cI : Nat) (s g : Nat → Int) : Prop where
  box : Lie x B 29 11 (Gd.box s gC gE gI cC cE cI g)
  res : Lie x (B + 1) 29 11 (fun j => #[.int .i64 0, .int .i64 0, .int .i64 0, .int .i64 0, .slice none 0 0, .slice none 0 0, .slice none 0 0, .int .i64 0, .int .i64 0, .int .i64 0, Value.int .i64 0][j]?.getD undef)
  at_ : w.heap.size = B
  two : B + 2 ≤ x.heap.size
  grown : w.grownBy x none

theorem Gd.Part.on {w x y : World} {B gC gE gI cC cE cI : Nat} {s g : Nat → Int} (h : Gd.Part w x B gC gE gI cC cE cI s g) (hg : x.grownBy y none) : Gd.Part w y B gC gE gI cC cE cI s g :=
  ⟨h.box.on hg, h.res.on hg, h.at_, Nat.le_trans h.two hg.size, grown_trans h.grown hg⟩

theorem Gd.Part.set {w x : World} {B gC gE gI cC cE cI : Nat} {s g : Nat → Int} (h : Gd.Part w x B gC gE gI cC cE cI s g) (i : Nat) (v : Value) (gC' gE' gI' cC' cE' cI' : Nat) (he : ∀ j, j < 11 → (if j = i then v else Gd.box s gC gE gI cC cE cI g j) = Gd.box s gC' gE' gI' cC' cE' cI' g j) : Gd.Part w (x.setCell ⟨B, i, none⟩ v) B gC' gE' gI' cC' cE' cI' s g := by
  have hB := h.at_
  have r := grown_set0 x B i v
  exact ⟨(h.box.store i v).congr he, h.res.grown r (by simp), h.at_, by simpa using h.two, grown_store h.grown ⟨B, i, none⟩ (by show w.heap.size ≤ B; omega) v⟩

theorem Gd.box_4 (s g : Nat → Int) (gC gE gI cC cE cI g1 c1 : Nat) : ∀ j, j < 11 → (if j = 4 then Value.slice (some ⟨g1, 0, none⟩) 384 c1 else Gd.box s gC gE gI cC cE cI g j) = Gd.box s g1 gE gI c1 cE cI g j := by
  intro j hj
  rcases (show j = 0 ∨ j = 1 ∨ j = 2 ∨ j = 3 ∨ j = 4 ∨ j = 5 ∨ j = 6 ∨ j = 7 ∨ j = 8 ∨ j = 9 ∨ j = 10 by omega) with rfl | rfl | rfl | rfl | rfl | rfl | rfl | rfl | rfl | rfl | rfl <;> rfl

theorem Gd.box_5 (s g : Nat → Int) (gC gE gI cC cE cI g1 c1 : Nat) : ∀ j, j < 11 → (if j = 5 then Value.slice (some ⟨g1, 0, none⟩) 32 c1 else Gd.box s gC gE gI cC cE cI g j) = Gd.box s gC g1 gI cC c1 cI g j := by
  intro j hj
  rcases (show j = 0 ∨ j = 1 ∨ j = 2 ∨ j = 3 ∨ j = 4 ∨ j = 5 ∨ j = 6 ∨ j = 7 ∨ j = 8 ∨ j = 9 ∨ j = 10 by omega) with rfl | rfl | rfl | rfl | rfl | rfl | rfl | rfl | rfl | rfl | rfl <;> rfl

theorem Gd.box_6 (s g : Nat → Int) (gC gE gI cC cE cI g1 c1 : Nat) : ∀ j, j < 11 → (if j = 6 then Value.slice (some ⟨g1, 0, none⟩) 40 c1 else Gd.box s gC gE gI cC cE cI g j) = Gd.box s gC gE g1 cC cE c1 g j := by
  intro j hj
  rcases (show j = 0 ∨ j = 1 ∨ j = 2 ∨ j = 3 ∨ j = 4 ∨ j = 5 ∨ j = 6 ∨ j = 7 ∨ j = 8 ∨ j = 9 ∨ j = 10 by omega) with rfl | rfl | rfl | rfl | rfl | rfl | rfl | rfl | rfl | rfl | rfl <;> rfl

set_option maxHeartbeats 6400000 in
theorem refTwin_any (s g c : Nat → Int) (E I : Nat → Nat → Int) (gC gE gI cC cE cI : Nat) (w : World) (hL : Gd.Lists w gC gE gI c E I) :
    Calls Try.prog 12 #[.agg (Gd.world s gC gE gI cC cE cI g)] w (Gd.Worlds w s g c E I) := by
  obtain ⟨w0, hw0, hbox, hres, hg0, hsz⟩ := Gd.boxes w gC gE gI cC cE cI s g
  obtain ⟨B, hB⟩ : ∃ B, w.heap.size = B := ⟨_, rfl⟩
  rw [hB] at hbox hres hsz
  have hP0 : Hid (Gd.Part w w0 B gC gE gI cC cE cI s g) := ⟨hbox, hres, hB, by omega, hg0⟩
  have hL' := hide hL
  have lC := hide hL.cells.lt
  have lE := hide hL.ents.lt
  have lI := hide hL.items.lt
  obtain ⟨iB, hiB, hzB0, hzB1, hzB2⟩ := info_parts info_byte
  obtain ⟨iE, hiE, hzE0, hzE1, hzE2⟩ := info_parts info_ent
  obtain ⟨iI, hiI, hzI0, hzI1, hzI2⟩ := info_parts info_item
  have hB' := hide hB
  clear hL hbox hres hg0 hsz
  unfold Gd.world at hw0 ⊢
  clear hB
  go_enter Try.func12, Try.ntmps12
  go_upto_region 1 with fail
  rw [← hw0, unhide hB']
  clear hw0
  have q4 := (unhide hP0).box.eleven.2.2.2.2.1
  have fB := (unhide hP0).box.free
  have lB := (unhide hP0).box.lt
  go_upto_region 1 with fail
  go_cut [] from 3 (fun wx => ∃ g1 c1, Hid (Gd.Part w wx B g1 gE gI c1 cE cI s g) ∧ Hid (Lie wx g1 5 384 (Byts c) ∧ B + 2 ≤ g1))
  case first =>
    go_wp2_with (at_builtin; refine wpList_append_own _ rfl _ _ 25 rfl w0.heap.size 5 iB (.int .u8 0) 1 1 Try.underlying25 hiB hzB0 hzB1 hzB2 rfl (by decide) _ 0 [] rfl (World.ownsRow_made _ _ _ (Nat.le_refl _) (by decide) (by simp)) ⟨gC, 0, none⟩ 384 cC (Gd.list 384 (Byts c)) rfl (Gd.list_len _ _) (Gd.list_src fun q hq => (grown_cell (grown_trans (unhide hP0).grown (World.grownBy_alloc _ _ _)) gC q (unhide lC) (by simp)).trans ((unhide hL').read.1 q hq)) (Gd.list_one fun _ => rfl) ?c4 ?c5 ?c6 ?_)
    case c4 => unfold maxLen; omega
    case c5 => omega
    case c6 => simp
    intro v' w1 hown hgrow hnil
    obtain ⟨g9, c9, rfl, hlo, hnc, hlie⟩ := Lie.of_append (n := 384) (z := 1) (F := (Byts c)) hown (by simpa using hnil)
    have hg9 := grown_own (World.grownBy_alloc w0 _ none) hgrow (fun k e => by cases e; exact Nat.le_refl _)
    have hP9 := hide ((unhide hP0).on hg9)
    have y4 := (unhide hP9).box.eleven.2.2.2.2.1
    have fB9 := (unhide hP9).box.free
    have hl9 := hide hlie
    have hlo9 := hide hlo
    have hnc9 := hide hnc
    have hg9' := hide hg9
    clear hown hgrow hnil hlie hlo hnc hg9 q4 fB lB
    go_wp2_with fail
    go_meet
    have htw := (unhide hP0).two
    have hlo := unhide hlo9
    exact ⟨g9, c9, (unhide hP9).set 4 _ _ _ _ _ _ _ (Gd.box_4 s g gC gE gI cC cE cI g9 c9), (unhide hl9).other (by omega) _ _, by omega⟩
  case rest =>
    obtain ⟨g1, c1, hP1, hL1⟩ := hcut
    clear q4 fB lB hP0
    have q5 := (unhide hP1).box.eleven.2.2.2.2.2.1
    have fB := (unhide hP1).box.free
    have lB := (unhide hP1).box.lt
    go_upto_region 2 with fail
    go_cut [] from 8 (fun wx => ∃ g2 c2, Hid (Gd.Part w wx B g1 g2 gI c1 c2 cI s g) ∧ Hid (Lie wx g1 5 384 (Byts c) ∧ B + 2 ≤ g1 ∧ Lie wx g2 47 352 (En.flat E) ∧ B + 2 ≤ g2 ∧ 32 ≤ c2))
    case first =>
      go_wp2_with (at_builtin; refine wpList_append_own _ rfl _ _ 26 rfl wc.heap.size 47 iE (.agg #[.int .i64 0, .int .i64 0, .int .i64 0, .int .i64 0, .int .i64 0, .int .i64 0, .int .i64 0, .int .i64 0, .int .i64 0, .int .i64 0, .int .i64 0]) 11 88 Try.underlying26 hiE hzE0 hzE1 hzE2 rfl (by decide) _ 0 [] rfl (World.ownsRow_made _ _ _ (Nat.le_refl _) (by decide) (by simp)) ⟨gE, 0, none⟩ 32 cE (Gd.list 352 (En.flat E)) rfl (Gd.list_len _ _) (Gd.list_src fun q hq => (grown_cell (grown_trans (unhide hP1).grown (World.grownBy_alloc _ _ _)) gE q (unhide lE) (by simp)).trans ((unhide hL').read.2.1 q hq)) (Gd.list_one fun _ => rfl) ?c4 ?c5 ?c6 ?_)
      case c4 => unfold maxLen; omega
      case c5 => omega
      case c6 => simp
      intro v' w1 hown hgrow hnil
      obtain ⟨g9, c9, rfl, hlo, hnc, hlie⟩ := Lie.of_append (n := 32) (z := 11) (F := (En.flat E)) hown (by simpa using hnil)
      have hg9 := grown_own (World.grownBy_alloc wc _ none) hgrow (fun k e => by cases e; exact Nat.le_refl _)
      have hP9 := hide ((unhide hP1).on hg9)
      have y5 := (unhide hP9).box.eleven.2.2.2.2.2.1
      have fB9 := (unhide hP9).box.free
      have hl9 := hide hlie
      have hlo9 := hide hlo
      have hnc9 := hide hnc
      have hg9' := hide hg9
      clear hown hgrow hnil hlie hlo hnc hg9 q5 fB lB
      go_wp2_with fail
      go_meet
      have htw := (unhide hP1).two
      have hlo := unhide hlo9
      obtain ⟨k1, k2⟩ := unhide hL1
      exact ⟨g9, c9, (unhide hP9).set 5 _ _ _ _ _ _ _ (Gd.box_5 s g g1 gE gI c1 cE cI g9 c9), (k1.on (unhide hg9')).other (by omega) _ _, k2, (unhide hl9).other (by omega) _ _, by omega, unhide hnc9⟩
    case rest =>
      obtain ⟨g2, c2, hP2, hL2⟩ := hcut
      clear q5 fB lB hP1 hL1
      have q6 := (unhide hP2).box.eleven.2.2.2.2.2.2.1
      have fB := (unhide hP2).box.free
      have lB := (unhide hP2).box.lt
      go_upto_region 3 with fail
      go_cut [] from 13 (fun wx => ∃ g3 c3, Hid (Gd.Boxed w wx B g1 g2 g3 c1 c2 c3 s g c E I))
      case first =>
        go_wp2_with (at_builtin; refine wpList_append_own _ rfl _ _ 22 rfl wc.heap.size 38 iI (.agg #[.int .i64 0, .int .i64 0, .int .i64 0, .int .i64 0]) 4 32 Try.underlying22 hiI hzI0 hzI1 hzI2 rfl (by decide) _ 0 [] rfl (World.ownsRow_made _ _ _ (Nat.le_refl _) (by decide) (by simp)) ⟨gI, 0, none⟩ 40 cI (Gd.list 160 (Gd.flat I)) rfl (Gd.list_len _ _) (Gd.list_src fun q hq => (grown_cell (grown_trans (unhide hP2).grown (World.grownBy_alloc _ _ _)) gI q (unhide lI) (by simp)).trans ((unhide hL').read.2.2 q hq)) (Gd.list_one fun _ => rfl) ?c4 ?c5 ?c6 ?_)
        case c4 => unfold maxLen; omega
        case c5 => omega
        case c6 => simp
        intro v' w1 hown hgrow hnil
        obtain ⟨g9, c9, rfl, hlo, hnc, hlie⟩ := Lie.of_append (n := 40) (z := 4) (F := (Gd.flat I)) hown (by simpa using hnil)
        have hg9 := grown_own (World.grownBy_alloc wc _ none) hgrow (fun k e => by cases e; exact Nat.le_refl _)
        have hP9 := hide ((unhide hP2).on hg9)
        have y6 := (unhide hP9).box.eleven.2.2.2.2.2.2.1
        have fB9 := (unhide hP9).box.free
        have hl9 := hide hlie
        have hlo9 := hide hlo
        have hnc9 := hide hnc
        have hg9' := hide hg9
        clear hown hgrow hnil hlie hlo hnc hg9 q6 fB lB
        go_wp2_with fail
        go_meet
        have htw := (unhide hP2).two
        have hlo := unhide hlo9
        obtain ⟨k1, k2, k3, k4, k5⟩ := unhide hL2
        have hPz := (unhide hP9).set 6 _ _ _ _ _ _ _ (Gd.box_6 s g g1 g2 gI c1 c2 cI g9 c9)
        have m1 := (k1.on (unhide hg9')).other (p := B) (by omega) 6 (.slice (some ⟨g9, 0, none⟩) 40 c9)
        have m2 := (k3.on (unhide hg9')).other (p := B) (by omega) 6 (.slice (some ⟨g9, 0, none⟩) 40 c9)
        have m3 := (unhide hl9).other (p := B) (by omega) 6 (.slice (some ⟨g9, 0, none⟩) 40 c9)
        exact ⟨g9, c9, ⟨hPz.box, ⟨m1, m2, m3⟩, by omega, by omega, by omega, m1.type7 m2 (by decide), m1.type7 m3 (by decide), m2.type7 m3 (by decide)⟩, hPz.at_, k2, k4, by omega, k5, hPz.res, hPz.grown⟩
      case rest =>
        obtain ⟨g3, c3, hX⟩ := hcut
        clear q6 fB lB hP2 hL2
        obtain ⟨b0, b1, b2, b3, b4, b5, b6, b7, b8, b9, b10⟩ := (unhide hX).hold.box.eleven
        have fz := (unhide hX).res.free
        obtain ⟨z0, z1, z2, z3, z4, z5, z6, z7, z8, z9, z10⟩ := Gd.res_cells (unhide hX).res
        have hfin := hide (fun vs => (unhide hX).worlds vs)
        go_wp2
        refine bodyPost_ret (v := .agg (Gd.world s g1 g2 g3 c1 c2 c3 g)) (by simp [results, Try.results12, go_sem, Gd.world, z0, z1, z2, z3, z4, z5, z6, z7, z8, z9, z10]) rfl ?_
        exact unhide hfin [_, _, _, _, _, _, _, _, _, _, _]

end Go.Proofs.Ytgkomdpceilggaa

namespace Go.Proofs.Ytgkomdpceilggaa
open Go.RowKit

set_option maxHeartbeats 6400000 in
theorem refSweep_any (s g c : Nat → Int) (E I : Nat → Nat → Int) (gC gE gI cC cE cI : Nat) (seat : Int) (w : World) (hL : Gd.Lists w gC gE gI c E I) :
    Calls Try.prog 23 #[.agg (Gd.world s gC gE gI cC cE cI g), .int .i64 seat] w (Gd.Worlds w s g c E (Gd.sweep I seat)) := by
  obtain ⟨w0, hw0, hbox, hres, hg0, hsz⟩ := Gd.boxes w gC gE gI cC cE cI s g
  have ca := refTwin_any s g c E I gC gE gI cC cE cI w0 (hL.on hg0)
  obtain ⟨b0, b1, b2, b3, b4, b5, b6, b7, b8, b9, b10⟩ := hbox.eleven
  have hbx := hide hbox
  have hrs := hide hres
  have hg0' := hide hg0
  have hsz' := hide hsz
  have ca' := hide ca
  have hfB := hbox.free
  clear hL ca hbox hres hg0 hsz
  unfold Gd.world at hw0 ca' ⊢
  go_enter Try.func23, Try.ntmps23
  go_upto_region 1 with fail
  rw [← hw0]
  clear hw0
  obtain ⟨B, hB⟩ : ∃ B, w.heap.size = B := ⟨_, rfl⟩
  rw [hB] at hbx hrs hsz' b0 b1 b2 b3 b4 b5 b6 b7 b8 b9 b10 ⊢
  have hB' := hide hB
  rw [hB] at hfB
  clear hB
  go_cut [] from 6 (fun wx => ∃ g1 g2 g3 c1 c2 c3, Hid (Gd.Boxed w wx B g1 g2 g3 c1 c2 c3 s g c E I))
  case first =>
    go_wp2_with fail
    refine (unhide ca').mono ?_
    rintro e w1 ⟨g1, g2, g3, c1, c2, c3, rfl, hcap, l1, l2, l3, n1, n2, n3, hL1, hg1⟩
    obtain ⟨y0, y1, y2, y3, y4, y5, y6, y7, y8, y9, y10⟩ := ((unhide hbx).on hg1).eleven
    have fB := ((unhide hbx).on hg1).free
    have fin : Hid (Gd.Boxed w (w1.setCells B 0 (Gd.world s g1 g2 g3 c1 c2 c3 g).toList) B g1 g2 g3 c1 c2 c3 s g c E I) := by
      have r := grown_sets (g := B) (Gd.world s g1 g2 g3 c1 c2 c3 g).toList 0 w1 (World.grownBy.refl _ _)
      have hB := unhide hB'
      have hs := unhide hsz'
      exact ⟨⟨((unhide hbx).on hg1).whole s g g1 g2 g3 c1 c2 c3, ⟨hL1.cells.grown r (by simp; omega), hL1.ents.grown r (by simp; omega), hL1.items.grown r (by simp; omega)⟩, by omega, by omega, by omega, n1, n2, n3⟩, hB, by omega, by omega, by omega, hcap, ((unhide hrs).on hg1).grown r (by simp), own_sets (by omega) _ 0 w1 (grown_trans (unhide hg0') hg1)⟩
    unfold Gd.world at fin ⊢
    clear hcap l1 l2 l3 n1 n2 n3 hL1 hg1 b0 b1 b2 b3 b4 b5 b6 b7 b8 b9 b10 hfB ca'
    go_wp2_with fail
    go_meet
    exact ⟨g1, g2, g3, c1, c2, c3, fin⟩
  case rest =>
    obtain ⟨g1, g2, g3, c1, c2, c3, hX⟩ := hcut
    clear b0 b1 b2 b3 b4 b5 b6 b7 b8 b9 b10 hfB ca' hbx hrs hg0' hsz' hB'
    clear w0
    have q6 := (unhide hX).hold.box.eleven.2.2.2.2.2.2.1
    go_wp2_with fail
    go_loopw [5] (fun i wr => ∃ k : Nat, k ≤ 40 ∧ i = .int .i64 (k : Int) ∧ Hid (Gd.Boxed w wr B g1 g2 g3 c1 c2 c3 s g c E (Gd.sweepTo I seat k))) (fun i _ => 200 - (intOf i).toNat)
    case atStart => exact ⟨0, by omega, rfl, (unhide hX).same (fun i _ => if_neg (by omega))⟩
    case round =>
      clear q6 hX
      obtain ⟨k, hk, rfl, hB⟩ := hrel
      have q6 := (unhide hB).hold.box.eleven.2.2.2.2.2.2.1
      by_cases hlt : k < 40
      · have hlt' : (k : Int) < 40 := by omega
        have hrow := (unhide hB).hold.lists.its.row hlt
        rw [show Gd.sweepTo I seat k k = I k from if_neg (by omega)] at hrow
        obtain ⟨u0, u1, u2, u3⟩ := hrow
        have HL := hide hlt
        have fI := (unhide hB).hold.lists.items.free
        have lI := (unhide hB).hold.lists.items.lt
        have lB := (unhide hB).hold.box.lt
        by_cases hc : (I k 1 = 2 ∨ I k 1 = 3) ∧ I k 2 = seat
        · have he := hide (Gd.sweep_yes hc)
          obtain ⟨hc1, hc2⟩ := hc
          rcases hc1 with hc1 | hc1
          all_goals
            go_wp2
            go_roundw
            case rel => exact ⟨k + 1, by have := unhide HL; omega, by go_num, by
              show Gd.Boxed _ _ _ _ _ _ _ _ _ _ _ _ _ _
              rw [unhide he]
              exact (unhide hB).put k 0 0 0 0⟩
            case measure => simp [intOf]; omega
        · have he := hide (Gd.sweep_no hc)
          by_cases w2 : I k 1 = 2
          · have hs : ¬ I k 2 = seat := fun h => hc ⟨.inl w2, h⟩
            have ms : (I k 2 == seat) = false := by simp [hs]
            clear hc
            go_wp2
            go_roundw
            case rel => exact ⟨k + 1, by have := unhide HL; omega, by go_num, by
              show Gd.Boxed _ _ _ _ _ _ _ _ _ _ _ _ _ _
              rw [unhide he]
              exact unhide hB⟩
            case measure => simp [intOf]; omega
          · have m1 : (I k 1 == 2) = false := by simp [w2]
            by_cases w3 : I k 1 = 3
            · have hs : ¬ I k 2 = seat := fun h => hc ⟨.inr w3, h⟩
              have ms : (I k 2 == seat) = false := by simp [hs]
              clear hc
              go_wp2
              go_roundw
              case rel => exact ⟨k + 1, by have := unhide HL; omega, by go_num, by
                show Gd.Boxed _ _ _ _ _ _ _ _ _ _ _ _ _ _
                rw [unhide he]
                exact unhide hB⟩
              case measure => simp [intOf]; omega
            · have m2 : (I k 1 == 3) = false := by simp [w3]
              clear hc
              go_wp2
              go_roundw
              case rel => exact ⟨k + 1, by have := unhide HL; omega, by go_num, by
                show Gd.Boxed _ _ _ _ _ _ _ _ _ _ _ _ _ _
                rw [unhide he]
                exact unhide hB⟩
              case measure => simp [intOf]; omega
      · have hge : ¬ (k : Int) < 40 := by omega
        have hBf := (unhide hB).same (J := Gd.sweep I seat) (fun i hi => by show _ = if i < k then _ else _; rw [if_pos (by omega)])
        clear hB
        have hbx := hide hBf
        obtain ⟨b0, b1, b2, b3, b4, b5, b6, b7, b8, b9, b10⟩ := (unhide hbx).hold.box.eleven
        have fz := (unhide hbx).res.free
        obtain ⟨z0, z1, z2, z3, z4, z5, z6, z7, z8, z9, z10⟩ := Gd.res_cells (unhide hbx).res
        have hfin := hide (fun vs => (unhide hbx).worlds vs)
        go_wp2
        refine bodyPost_ret (v := .agg (Gd.world s g1 g2 g3 c1 c2 c3 g)) (by simp [results, Try.results23, go_sem, Gd.world, z0, z1, z2, z3, z4, z5, z6, z7, z8, z9, z10]) rfl ?_
        exact unhide hfin [_, _, _, _, _, _, _, _, _, _, _]

theorem Gd.three_at (z : Int) : Gd.three (decide (0 ≤ z)) = if 0 ≤ z then 3 else 0 := by
  unfold Gd.three
  by_cases h : 0 ≤ z <;> simp [h]

theorem Gd.two_at (z : Int) : Gd.two (decide (0 ≤ z)) = if 0 ≤ z then 2 else 0 := by
  unfold Gd.two
  by_cases h : 0 ≤ z <;> simp [h]

set_option maxHeartbeats 6400000 in
theorem refBonus_any (s g c : Nat → Int) (E I : Nat → Nat → Int) (gC gE gI cC cE cI : Nat) (seat : Int) (w : World) (hL : Gd.Lists w gC gE gI c E I) :
    Calls Try.prog 20 #[.agg (Gd.world s gC gE gI cC cE cI g), .int .i64 seat] w (Says w (.tuple #[.int .i64 (Gd.three (decide (0 ≤ Gd.find I 40 3 seat 0))), .int .i64 (Gd.two (decide (0 ≤ Gd.find I 40 3 seat 1)))])) := by
  obtain ⟨w0, hw0⟩ : ∃ w0, w0 = w.alloc (.cells (Gd.world s gC gE gI cC cE cI g) 29) := ⟨_, rfl⟩
  have hbox : Lie w0 w.heap.size 29 11 (Gd.box s gC gE gI cC cE cI g) := by rw [hw0]; exact (Arr.world (heap_alloc_new w _)).lie
  have hg0 : w.grownBy w0 none := by rw [hw0]; exact World.grownBy_alloc _ _ _
  have hL0 := hL.on hg0
  obtain ⟨B, hB⟩ : ∃ B, w.heap.size = B := ⟨_, rfl⟩
  rw [hB] at hbox
  have hg0' := hide hg0
  obtain ⟨_, _, _, _, _, _, b6, _⟩ := hbox.eleven
  have c1 := refIn7_same gI 40 cI I 3 seat 0 w0 hL0.its
  have c2 := refIn7_same gI 40 cI I 3 seat 1 w0 hL0.its
  obtain ⟨f, hf⟩ : ∃ f, Gd.find I 40 3 seat 0 = f := ⟨_, rfl⟩
  obtain ⟨d, hd⟩ : ∃ d, Gd.find I 40 3 seat 1 = d := ⟨_, rfl⟩
  rw [hf] at c1 ⊢
  rw [hd] at c2 ⊢
  rw [Gd.three_at, Gd.two_at]
  have c1' := hide c1
  have c2' := hide c2
  clear hL hbox hg0 hL0 c1 c2 hf hd
  unfold Gd.world at hw0 ⊢
  by_cases h1 : 0 ≤ f
  · by_cases h2 : 0 ≤ d
    · rw [if_pos h1, if_pos h2]
      go_enter Try.func20, Try.ntmps20
      go_upto_region 1 with fail
      rw [← hw0]
      clear hw0 hB
      go_wp2_with fail
      refine (unhide c1').mono ?_
      rintro e wy ⟨rfl, hw⟩
      subst wy
      go_wp2_with fail
      refine (unhide c2').mono ?_
      rintro e wy ⟨rfl, hw⟩
      subst wy
      go_wp2
      refine bodyPost_ret (v := .tuple #[.int .i64 3, .int .i64 2]) (by simp [results, Try.results20, go_sem]) rfl ?_
      exact ⟨rfl, unhide hg0'⟩
    · rw [if_pos h1, if_neg h2]
      go_enter Try.func20, Try.ntmps20
      go_upto_region 1 with fail
      rw [← hw0]
      clear hw0 hB
      go_wp2_with fail
      refine (unhide c1').mono ?_
      rintro e wy ⟨rfl, hw⟩
      subst wy
      go_wp2_with fail
      refine (unhide c2').mono ?_
      rintro e wy ⟨rfl, hw⟩
      subst wy
      go_wp2
      refine bodyPost_ret (v := .tuple #[.int .i64 3, .int .i64 0]) (by simp [results, Try.results20, go_sem]) rfl ?_
      exact ⟨rfl, unhide hg0'⟩
  · by_cases h2 : 0 ≤ d
    · rw [if_neg h1, if_pos h2]
      go_enter Try.func20, Try.ntmps20
      go_upto_region 1 with fail
      rw [← hw0]
      clear hw0 hB
      go_wp2_with fail
      refine (unhide c1').mono ?_
      rintro e wy ⟨rfl, hw⟩
      subst wy
      go_wp2_with fail
      refine (unhide c2').mono ?_
      rintro e wy ⟨rfl, hw⟩
      subst wy
      go_wp2
      refine bodyPost_ret (v := .tuple #[.int .i64 0, .int .i64 2]) (by simp [results, Try.results20, go_sem]) rfl ?_
      exact ⟨rfl, unhide hg0'⟩
    · rw [if_neg h1, if_neg h2]
      go_enter Try.func20, Try.ntmps20
      go_upto_region 1 with fail
      rw [← hw0]
      clear hw0 hB
      go_wp2_with fail
      refine (unhide c1').mono ?_
      rintro e wy ⟨rfl, hw⟩
      subst wy
      go_wp2_with fail
      refine (unhide c2').mono ?_
      rintro e wy ⟨rfl, hw⟩
      subst wy
      go_wp2
      refine bodyPost_ret (v := .tuple #[.int .i64 0, .int .i64 0]) (by simp [results, Try.results20, go_sem]) rfl ?_
      exact ⟨rfl, unhide hg0'⟩

end Go.Proofs.Ytgkomdpceilggaa

namespace Go.Proofs.Ytgkomdpceilggaa
open Go.RowKit

set_option maxHeartbeats 3200000 in
theorem refPlaced_any (s g c : Nat → Int) (gC gE gI cC cE cI : Nat) (k p a b : Int) (w : World) (hC : Vec w.heap.size w (some ⟨gC, 0, none⟩) 384 (Byts c)) (hc : ∀ i, 0 ≤ c i ∧ c i ≤ 255) (k1 : 1 ≤ k) (k5 : k ≤ 4) :
    Calls Try.prog 51 #[.agg (Gd.world s gC gE gI cC cE cI g), .agg #[.int .i64 k, .int .i64 p, .int .i64 a, .int .i64 b]] w (Says w (.bool (Gd.fitsB c k p a b))) := by
  obtain ⟨r, hr⟩ : ∃ r, Gd.fitsB c k p a b = r := ⟨_, rfl⟩
  rw [hr]
  have hr' := hide hr
  have hg := hide (fun (o1 o2 : Obj) => grown_alloc (World.grownBy_alloc w o1 none) o2)
  have hC' := hide hC
  have hc' := hide hc
  have ek : Hid (decide (1 ≤ k ∧ k ≤ 4) = true) := decide_eq_true ⟨k1, k5⟩
  unfold Gd.world
  clear hr hC hc
  by_cases p1 : p = 1
  · subst p1
    have he := unhide hr'
    unfold Gd.fitsB at he
    rw [unhide ek, Bool.true_and, if_pos rfl] at he
    have he' := hide he
    clear he
    have cI := fun wx => refIn_any a b wx
    by_cases hin : Gr.inB a b = true
    · rw [hin] at cI
      have cI' := hide cI
      have cA : Hid (∀ o o' : Obj, Calls Try.prog 46 #[.slice (some ⟨gC, 0, none⟩) 384 cC, .int .i64 a, .int .i64 b] ((w.alloc o).alloc o') fun e w' => e = .returned (.int .i64 (Gr.at 384 c a b)) ∧ w' = (w.alloc o).alloc o') := fun o o' => refAt_any w.heap.size (some ⟨gC, 0, none⟩) 384 cC c a b _ ((unhide hC').kept (none_below (unhide hg o o'))) (unhide hc')
      obtain ⟨A, hA⟩ : ∃ A, Gr.at 384 c a b = A := ⟨_, rfl⟩
      rw [hA] at cA he'
      clear hA cI
      go_enter Try.func51, Try.ntmps51
      go_wp2_with fail
      refine (unhide cI' _).mono ?_
      rintro e w' ⟨rfl, hw⟩
      subst w'
      go_wp2_with fail
      refine (unhide cA _ _).mono ?_
      rintro e w' ⟨rfl, hw⟩
      subst w'
      go_wp2_with fail
      refine (refWalk_any A _).mono ?_
      rintro e w' ⟨rfl, hw⟩
      subst w'
      go_wp2
      go_ret
      exact ret_says (unhide he') (unhide hg _ _)
    · have hin' : Gr.inB a b = false := by simpa using hin
      rw [hin'] at cI
      have cI' := hide cI
      have hf := hide (show false = r by rw [← unhide he', Gd.at_out hin']; rfl)
      clear cI hin
      go_enter Try.func51, Try.ntmps51
      go_wp2_with fail
      refine (unhide cI' _).mono ?_
      rintro e w' ⟨rfl, hw⟩
      subst w'
      go_wp2
      go_ret
      exact ret_says (unhide hf) (unhide hg _ _)
  · by_cases p2 : p = 2
    · subst p2
      have he := unhide hr'
      unfold Gd.fitsB at he
      rw [unhide ek, Bool.true_and, if_neg (by decide), if_pos rfl] at he
      have he' := hide he
      clear he p1
      unfold Gd.isSeat at he'
      by_cases a0 : 0 ≤ a
      · by_cases a4 : a < 4
        · by_cases b0 : 0 ≤ b
          · by_cases b4 : b < 4
            · by_cases k4 : k = 4
              · have hf := hide (show false = r by rw [← unhide he']; simp [k4])
                subst k4
                go_enter Try.func51, Try.ntmps51
                go_wp2
                go_ret
                exact ret_says (unhide hf) (unhide hg _ _)
              · have hf := hide (show true = r by rw [← unhide he']; simp [k4, a0, a4, b0, b4])
                have k4' : (k == 4) = false := by simp [k4]
                go_enter Try.func51, Try.ntmps51
                go_wp2
                go_ret
                exact ret_says (by rw [← unhide hf]; simp [k4]) (unhide hg _ _)
            · have hf := hide (show false = r by rw [← unhide he']; simp [b4])
              go_enter Try.func51, Try.ntmps51
              go_wp2
              go_ret
              exact ret_says (unhide hf) (unhide hg _ _)
          · have hf := hide (show false = r by rw [← unhide he']; simp [b0])
            go_enter Try.func51, Try.ntmps51
            go_wp2
            go_ret
            exact ret_says (unhide hf) (unhide hg _ _)
        · have hf := hide (show false = r by rw [← unhide he']; simp [a4])
          go_enter Try.func51, Try.ntmps51
          go_wp2
          go_ret
          exact ret_says (unhide hf) (unhide hg _ _)
      · have hf := hide (show false = r by rw [← unhide he']; simp [a0])
        go_enter Try.func51, Try.ntmps51
        go_wp2
        go_ret
        exact ret_says (unhide hf) (unhide hg _ _)
    · by_cases p3 : p = 3
      · subst p3
        have he := unhide hr'
        unfold Gd.fitsB at he
        rw [unhide ek, Bool.true_and, if_neg (by decide), if_neg (by decide), if_pos rfl, Gd.serves_7] at he
        have he' := hide he
        clear he p1 p2
        unfold Gd.isSeat at he'
        by_cases a0 : 0 ≤ a
        · by_cases a4 : a < 4
          · by_cases k2 : k = 2
            · subst k2
              by_cases b0 : b = 0
              · have hf := hide (show true = r by rw [← unhide he']; simp [a0, a4, b0])
                subst b0
                go_enter Try.func51, Try.ntmps51
                go_wp2
                go_ret
                exact ret_says (unhide hf) (unhide hg _ _)
              · have hf := hide (show false = r by rw [← unhide he']; simp [b0])
                have b0' : (b == 0) = false := by simp [b0]
                go_enter Try.func51, Try.ntmps51
                go_wp2
                go_ret
                exact ret_says (unhide hf) (unhide hg _ _)
            · have k2' : (k == 2) = false := by simp [k2]
              by_cases k3 : k = 3
              · subst k3
                by_cases b1 : b = 1
                · have hf := hide (show true = r by rw [← unhide he']; simp [a0, a4, b1])
                  subst b1
                  go_enter Try.func51, Try.ntmps51
                  go_wp2
                  go_ret
                  exact ret_says (unhide hf) (unhide hg _ _)
                · have hf := hide (show false = r by rw [← unhide he']; simp [b1])
                  have b1' : (b == 1) = false := by simp [b1]
                  go_enter Try.func51, Try.ntmps51
                  go_wp2
                  go_ret
                  exact ret_says (unhide hf) (unhide hg _ _)
              · have hf := hide (show false = r by rw [← unhide he']; simp [k2, k3])
                have k3' : (k == 3) = false := by simp [k3]
                go_enter Try.func51, Try.ntmps51
                go_wp2
                go_ret
                exact ret_says (unhide hf) (unhide hg _ _)
          · have hf := hide (show false = r by rw [← unhide he']; simp [a4])
            go_enter Try.func51, Try.ntmps51
            go_wp2
            go_ret
            exact ret_says (unhide hf) (unhide hg _ _)
        · have hf := hide (show false = r by rw [← unhide he']; simp [a0])
          go_enter Try.func51, Try.ntmps51
          go_wp2
          go_ret
          exact ret_says (unhide hf) (unhide hg _ _)
      · by_cases p4 : p = 4
        · subst p4
          have he := unhide hr'
          unfold Gd.fitsB at he
          rw [unhide ek, Bool.true_and, if_neg (by decide), if_neg (by decide), if_neg (by decide), if_pos rfl] at he
          have he' := hide he
          clear he p1 p2 p3
          by_cases a0 : 0 ≤ a
          · by_cases a3 : a < 3
            · by_cases b0 : b = 0
              · by_cases k4 : k = 4
                · have hf := hide (show false = r by rw [← unhide he']; simp [k4])
                  subst k4
                  go_enter Try.func51, Try.ntmps51
                  go_wp2
                  go_ret
                  exact ret_says (unhide hf) (unhide hg _ _)
                · have hf := hide (show true = r by rw [← unhide he']; simp [k4, a0, a3, b0])
                  have k4' : (k == 4) = false := by simp [k4]
                  subst b0
                  go_enter Try.func51, Try.ntmps51
                  go_wp2
                  go_ret
                  exact ret_says (by rw [← unhide hf]; simp [k4]) (unhide hg _ _)
              · have hf := hide (show false = r by rw [← unhide he']; simp [b0])
                have b0' : (b == 0) = false := by simp [b0]
                go_enter Try.func51, Try.ntmps51
                go_wp2
                go_ret
                exact ret_says (unhide hf) (unhide hg _ _)
            · have hf := hide (show false = r by rw [← unhide he']; simp [a3])
              go_enter Try.func51, Try.ntmps51
              go_wp2
              go_ret
              exact ret_says (unhide hf) (unhide hg _ _)
          · have hf := hide (show false = r by rw [← unhide he']; simp [a0])
            go_enter Try.func51, Try.ntmps51
            go_wp2
            go_ret
            exact ret_says (unhide hf) (unhide hg _ _)
        · have he := unhide hr'
          unfold Gd.fitsB at he
          rw [unhide ek, Bool.true_and, if_neg p1, if_neg p2, if_neg p3, if_neg p4] at he
          have he' := hide he
          clear he
          go_enter Try.func51, Try.ntmps51
          go_wp2
          go_ret
          exact ret_says (unhide he') (unhide hg _ _)

end Go.Proofs.Ytgkomdpceilggaa

namespace Go.Proofs.Ytgkomdpceilggaa
open Go.RowKit

theorem Gd.find_self {I : Nat → Nat → Int} {k : Nat} (hk : k < 40) : Gd.find I 40 (I k 1) (I k 2) (I k 3) = (k : Int) ↔ ∀ j, j < k → ¬ (I j 1 = I k 1 ∧ I j 2 = I k 2 ∧ I j 3 = I k 3) := by
  rcases Gd.find_cases I 40 (I k 1) (I k 2) (I k 3) with ⟨_, hno⟩ | ⟨m, hm, e, h1, h2, h3, hlow⟩
  · exact absurd ⟨rfl, rfl, rfl⟩ (hno k hk)
  · rw [e]
    constructor
    · intro h j hj
      exact hlow j (by omega)
    · intro h
      by_cases lt : m < k
      · exact absurd ⟨h1, h2, h3⟩ (h m lt)
      · by_cases gt : k < m
        · exact absurd ⟨rfl, rfl, rfl⟩ (hlow k gt)
        · have : m = k := by omega
          rw [this]

theorem Gd.fits_where {c : Nat → Int} {k p a b : Int} (h : Gd.fitsB c k p a b = true) : p ≠ 0 ∧ 1 ≤ k ∧ k ≤ 4 := by
  have := (Gd.fits_iff c (Gd.row k p a b)).1 h
  exact ⟨this.where_ne, this.1, this.2.1⟩

set_option maxHeartbeats 6400000 in
theorem refCheck_any (s g c : Nat → Int) (E I : Nat → Nat → Int) (gC gE gI cC cE cI : Nat) (w : World) (hL : Gd.Lists w gC gE gI c E I) (hc : ∀ i, 0 ≤ c i ∧ c i ≤ 255) :
    Calls Try.prog 18 #[.agg (Gd.world s gC gE gI cC cE cI g)] w (Tells7 w (Gd.Ok c 40 I)) := by
  obtain ⟨w0, hw0⟩ : ∃ w0, w0 = w.alloc (.cells (Gd.world s gC gE gI cC cE cI g) 29) := ⟨_, rfl⟩
  have hbox : Lie w0 w.heap.size 29 11 (Gd.box s gC gE gI cC cE cI g) := by rw [hw0]; exact (Arr.world (heap_alloc_new w _)).lie
  have hg0 : w.grownBy w0 none := by rw [hw0]; exact World.grownBy_alloc _ _ _
  have hL0 := hide (hL.on hg0)
  obtain ⟨B, hB⟩ : ∃ B, w.heap.size = B := ⟨_, rfl⟩
  rw [hB] at hbox
  have hbox' := hide hbox
  have hg0' := hide hg0
  have hc' := hide hc
  obtain ⟨_, _, _, _, _, _, b6, _⟩ := hbox.eleven
  clear hL hc hbox hg0
  unfold Gd.world at hw0 ⊢
  go_enter Try.func18, Try.ntmps18
  go_upto_region 1 with fail
  rw [← hw0]
  clear hw0 hB
  go_wp2_with fail
  go_loopw [3] (fun i wr => ∃ k : Nat, k ≤ 40 ∧ i = .int .i64 (k : Int) ∧ (∀ j, j < k → Gd.good c I j) ∧ w0.grownBy wr none) (fun i _ => 200 - (intOf i).toNat)
  case atStart => exact ⟨0, by omega, rfl, fun j hj => by omega, World.grownBy.refl _ _⟩
  case round =>
    obtain ⟨k, hk, rfl, hno, hgr⟩ := hrel
    have hno' := hide hno
    have hgr' := hide hgr
    clear hno hgr b6
    obtain ⟨b0, b1, b2, b3, b4, b5, b6, b7, b8, b9, b10⟩ := ((unhide hbox').on (unhide hgr')).eleven
    by_cases hlt : k < 40
    · obtain ⟨u0, u1, u2, u3⟩ := ((unhide hL0).on (unhide hgr')).its.row hlt
      have hlt' : (k : Int) < 40 := by omega
      have HL := hide hlt
      have lB := ((unhide hbox').on (unhide hgr')).lt
      clear hlt
      have hnx := hide (fun (o : Obj) => grown_alloc (unhide hgr') o)
      by_cases hz : Gd.zeroB (I k 0) (I k 1) (I k 2) (I k 3) = true
      · have hq : Hid (Gd.good c I k) := .inl hz
        obtain ⟨e0, e1, e2, e3⟩ : I k 0 = 0 ∧ I k 1 = 0 ∧ I k 2 = 0 ∧ I k 3 = 0 := of_decide_eq_true hz
        rw [e0] at u0
        rw [e1] at u1
        rw [e2] at u2
        rw [e3] at u3
        clear hz e0 e1 e2 e3
        go_wp2
        go_roundw
        case rel => exact ⟨k + 1, by have := unhide HL; omega, by go_num, fun j hj => by
          by_cases e : j = k
          · rw [e]; exact unhide hq
          · exact unhide hno' j (by omega), unhide hnx _⟩
        case measure => simp [intOf]; omega
      · have hz' : Gd.zeroB (I k 0) (I k 1) (I k 2) (I k 3) = false := by simpa using hz
        have hcmp : ∀ wx : World, (binOp .eql 38 (.agg #[.int .i64 (I k 0), .int .i64 (I k 1), .int .i64 (I k 2), .int .i64 (I k 3)]) (.agg #[.int .i64 0, .int .i64 0, .int .i64 0, .int .i64 0])).run Try.prog wx = .ok (.bool false) wx := fun wx => by
          rw [run_eq_item]
          refine congrArg (fun z => Result.ok (Value.bool z) wx) ?_
          have h := of_decide_eq_false hz'
          rw [← Bool.not_eq_true]
          simp only [Bool.and_eq_true, decide_eq_true_eq]
          exact h
        have nz := hide hz'
        clear hz hz'
        by_cases k1 : 1 ≤ I k 0
        · by_cases k4 : I k 0 ≤ 4
          · have nk1 : ¬ I k 0 < 1 := by omega
            have nk4 : ¬ I k 0 > 4 := by omega
            have cpl0 := fun (o : Obj) => refPlaced_any s g c gC gE gI cC cE cI (I k 0) (I k 1) (I k 2) (I k 3) (wr.alloc o) ((unhide hL0).on (unhide hnx o)).vec (unhide hc') k1 k4
            unfold Gd.world at cpl0
            obtain ⟨V, hV⟩ : ∃ V, Gd.fitsB c (I k 0) (I k 1) (I k 2) (I k 3) = V := ⟨_, rfl⟩
            rw [hV] at cpl0
            have hV' := hide hV
            have cpl := hide cpl0
            clear cpl0 hV k1 k4
            have hnew := hide (Arr.lit (heap_alloc_new wr (.cells #[.int .i64 (I k 0), .int .i64 (I k 1), .int .i64 (I k 2), .int .i64 (I k 3)] 38))).lie
            have hgb := hide (unhide hnx (.cells #[.int .i64 (I k 0), .int .i64 (I k 1), .int .i64 (I k 2), .int .i64 (I k 3)] 38))
            go_wp2_with fail
            refine (unhide cpl _).mono ?_
            rintro e w1 ⟨rfl, hg1⟩
            have hn1 := hide ((unhide hnew).on hg1)
            have hg1' := hide (grown_trans (unhide hgb) hg1)
            obtain ⟨P, hP⟩ : ∃ P, wr.heap.size = P := ⟨_, rfl⟩
            rw [hP] at hn1 ⊢
            clear hP hnew hgb hg1 cpl hcmp u0 u1 u2 u3 b0 b1 b2 b3 b4 b5 b6 b7 b8 b9 b10 lB
            cases V with
            | false =>
              have hnok := hide (show ¬ Gd.Ok c 40 I from fun h => by
                rcases Gd.ok_good h (unhide HL) with h1 | ⟨h1, _⟩
                · rw [unhide nz] at h1; cases h1
                · rw [unhide hV'] at h1; cases h1)
              have hfin := hide (grown_trans (unhide hg0') (unhide hg1'))
              go_wp2
              go_ret
              exact ⟨false, rfl, ⟨(fun h => absurd h (by simp)), (fun h => absurd h (unhide hnok))⟩, unhide hfin⟩
            | true =>
              have hwh := hide (Gd.fits_where (unhide hV')).1
              go_wp2_with fail
              go_loopw [5] (fun i wz => ∃ j : Nat, j ≤ k ∧ i = .int .i64 (j : Int) ∧ (∀ q, q < j → ¬ (I q 1 = I k 1 ∧ I q 2 = I k 2 ∧ I q 3 = I k 3)) ∧ w1.grownBy wz none) (fun i _ => 200 - (intOf i).toNat)
              case atStart => exact ⟨0, by omega, rfl, fun j hj => by omega, World.grownBy.refl _ _⟩
              case round =>
                obtain ⟨j, hj, rfl, hlow, hgz⟩ := hrel
                have hlow' := hide hlow
                have hgz' := hide hgz
                clear hlow hgz
                have x1 : wr.cell? ⟨P, 1, none⟩ = some (.int .i64 (I k 1)) := ((unhide hn1).on (unhide hgz')).cell (c := 1) (by simp)
                have x2 : wr.cell? ⟨P, 2, none⟩ = some (.int .i64 (I k 2)) := ((unhide hn1).on (unhide hgz')).cell (c := 2) (by simp)
                have x3 : wr.cell? ⟨P, 3, none⟩ = some (.int .i64 (I k 3)) := ((unhide hn1).on (unhide hgz')).cell (c := 3) (by simp)
                have lP := ((unhide hn1).on (unhide hgz')).lt
                have hgt := hide (grown_trans (unhide hg1') (unhide hgz'))
                have b6 := ((unhide hbox').on (unhide hgt)).eleven.2.2.2.2.2.2.1
                by_cases hjk : j < k
                · have hj40 : j < 40 := by have := unhide HL; omega
                  obtain ⟨v0, v1, v2, v3⟩ := ((unhide hL0).on (unhide hgt)).its.row hj40
                  have hj40' : (j : Int) < 40 := by omega
                  have hjk' : (j : Int) < (k : Int) := by omega
                  have hnz := hide (fun (o : Obj) => grown_alloc (unhide hgz') o)
                  have hft := hide (fun (o : Obj) => grown_trans (unhide hg0') (grown_alloc (unhide hgt) o))
                  have HJ := hide hjk
                  clear hjk hj40
                  by_cases c1 : I j 1 = I k 1
                  · by_cases c2 : I j 2 = I k 2
                    · by_cases c3 : I j 3 = I k 3
                      · have hnok := hide (show ¬ Gd.Ok c 40 I from fun h => by
                          rcases Gd.ok_good h (unhide HL) with h1 | ⟨_, h1⟩
                          · rw [unhide nz] at h1; cases h1
                          · exact (Gd.find_self (unhide HL)).1 h1 j (unhide HJ) ⟨c1, c2, c3⟩)
                        have hne : ¬ I k 1 = 0 := unhide hwh
                        have hne' : (I k 1 == 0) = false := by simp [hne]
                        rw [c1] at v1
                        rw [c2] at v2
                        rw [c3] at v3
                        clear c1 c2 c3
                        go_wp2
                        go_ret
                        exact ⟨false, rfl, ⟨(fun h => absurd h (by simp)), (fun h => absurd h (unhide hnok))⟩, unhide hft _⟩
                      · have c3' : (I j 3 == I k 3) = false := by simp [c3]
                        rw [c1] at v1
                        rw [c2] at v2
                        have hq := hide (show ¬ (I j 1 = I k 1 ∧ I j 2 = I k 2 ∧ I j 3 = I k 3) from fun h => c3 h.2.2)
                        clear c1 c2
                        go_wp2
                        go_roundw
                        case rel => exact ⟨j + 1, by have := unhide HJ; omega, by go_num, fun q hq1 => by
                          by_cases e : q = j
                          · rw [e]; exact unhide hq
                          · exact unhide hlow' q (by omega), unhide hnz _⟩
                        case measure => simp [intOf]; omega
                    · have c2' : (I j 2 == I k 2) = false := by simp [c2]
                      rw [c1] at v1
                      have hq := hide (show ¬ (I j 1 = I k 1 ∧ I j 2 = I k 2 ∧ I j 3 = I k 3) from fun h => c2 h.2.1)
                      clear c1
                      go_wp2
                      go_roundw
                      case rel => exact ⟨j + 1, by have := unhide HJ; omega, by go_num, fun q hq1 => by
                        by_cases e : q = j
                        · rw [e]; exact unhide hq
                        · exact unhide hlow' q (by omega), unhide hnz _⟩
                      case measure => simp [intOf]; omega
                  · have c1' : (I j 1 == I k 1) = false := by simp [c1]
                    have hq := hide (show ¬ (I j 1 = I k 1 ∧ I j 2 = I k 2 ∧ I j 3 = I k 3) from fun h => c1 h.1)
                    go_wp2
                    go_roundw
                    case rel => exact ⟨j + 1, by have := unhide HJ; omega, by go_num, fun q hq1 => by
                      by_cases e : q = j
                      · rw [e]; exact unhide hq
                      · exact unhide hlow' q (by omega), unhide hnz _⟩
                    case measure => simp [intOf]; omega
                · have hge : ¬ (j : Int) < (k : Int) := by omega
                  have hq : Hid (Gd.good c I k) := .inr ⟨unhide hV', (Gd.find_self (unhide HL)).2 (fun q hq1 => unhide hlow' q (by omega))⟩
                  go_wp2
                  go_roundw
                  case rel => exact ⟨k + 1, by have := unhide HL; omega, by go_num, fun q hq1 => by
                    by_cases e : q = k
                    · rw [e]; exact unhide hq
                    · exact unhide hno' q (by omega), unhide hgt⟩
                  case measure => simp [intOf]; omega
          · have nk1 : ¬ I k 0 < 1 := by omega
            have nk4 : I k 0 > 4 := by omega
            have hnok := hide (show ¬ Gd.Ok c 40 I from fun h => by
              rcases Gd.ok_good h (unhide HL) with h1 | ⟨h1, _⟩
              · rw [unhide nz] at h1; cases h1
              · have := (Gd.fits_where h1).2
                omega)
            have hfin := hide (fun (o : Obj) => grown_trans (unhide hg0') (unhide hnx o))
            go_wp2
            go_ret
            exact ⟨false, rfl, ⟨(fun h => absurd h (by simp)), (fun h => absurd h (unhide hnok))⟩, unhide hfin _⟩
        · have nk1 : I k 0 < 1 := by omega
          have hnok := hide (show ¬ Gd.Ok c 40 I from fun h => by
            rcases Gd.ok_good h (unhide HL) with h1 | ⟨h1, _⟩
            · rw [unhide nz] at h1; cases h1
            · have := (Gd.fits_where h1).2
              omega)
          have hfin := hide (fun (o : Obj) => grown_trans (unhide hg0') (unhide hnx o))
          go_wp2
          go_ret
          exact ⟨false, rfl, ⟨(fun h => absurd h (by simp)), (fun h => absurd h (unhide hnok))⟩, unhide hfin _⟩
    · have hge : ¬ (k : Int) < 40 := by omega
      have he := hide (Gd.good_ok (fun j hj => unhide hno' j (by omega)))
      have hfin := hide (grown_trans (unhide hg0') (unhide hgr'))
      go_wp2
      go_ret
      exact ⟨true, rfl, ⟨fun _ => unhide he, fun _ => rfl⟩, unhide hfin⟩

end Go.Proofs.Ytgkomdpceilggaa

namespace Go.Proofs.Ytgkomdpceilggaa
open Go.RowKit

def Gd.goneQ (J : Nat → Nat → Int) : Nat → Bool := fun i => Gd.zeroB (J i 0) (J i 1) (J i 2) (J i 3)

/-- The first m items laid, one behind the other, each into the lowest row that is gone. -/
def Gd.lay (I M : Nat → Nat → Int) : Nat → Nat → Nat → Int
  | 0 => I
  | m + 1 => if 0 ≤ En.first (Gd.goneQ (Gd.lay I M m)) 40 then En.put (Gd.lay I M m) (En.first (Gd.goneQ (Gd.lay I M m)) 40).toNat (Gd.row (M m 0) (M m 1) (M m 2) (M m 3)) else Gd.lay I M m

theorem Gd.lay_none {I M : Nat → Nat → Int} {m : Nat} (h : ∀ j, j < 40 → Gd.goneQ (Gd.lay I M m) j = false) : Gd.lay I M (m + 1) = Gd.lay I M m := by
  show (if _ then _ else _) = _
  rw [En.first_none h, if_neg (by omega)]

theorem Gd.lay_some {I M : Nat → Nat → Int} {m r : Nat} (hno : ∀ j, j < r → Gd.goneQ (Gd.lay I M m) j = false) (hr : Gd.goneQ (Gd.lay I M m) r = true) (h40 : r < 40) : Gd.lay I M (m + 1) = En.put (Gd.lay I M m) r (Gd.row (M m 0) (M m 1) (M m 2) (M m 3)) := by
  show (if _ then _ else _) = _
  rw [En.first_hit hno hr h40, if_pos (by omega), Int.toNat_natCast]

theorem Gd.lay_stuck {I M : Nat → Nat → Int} {m : Nat} (h : ∀ j, j < 40 → Gd.goneQ (Gd.lay I M m) j = false) : ∀ d, Gd.lay I M (m + d) = Gd.lay I M m
  | 0 => rfl
  | d + 1 => by
      have ih := Gd.lay_stuck h d
      have h' : ∀ j, j < 40 → Gd.goneQ (Gd.lay I M (m + d)) j = false := by rw [ih]; exact h
      rw [← Nat.add_assoc, Gd.lay_none h', ih]

/-- Items that came in: none, or a list at some place of a block. -/
def Gd.Some (w : World) (a : Option Addr) (n : Nat) (M : Nat → Nat → Int) : Prop := n ≤ 100 ∧ (n = 0 ∨ ∃ b o, a = some ⟨b, o, none⟩ ∧ Its w b o n M)

theorem Gd.Some.on {w w' : World} {a : Option Addr} {n : Nat} {M : Nat → Nat → Int} (h : Gd.Some w a n M) (hg : w.grownBy w' none) : Gd.Some w' a n M := by
  obtain ⟨h1, h0 | ⟨b, o, h2, h3⟩⟩ := h
  · exact ⟨h1, .inl h0⟩
  · exact ⟨h1, .inr ⟨b, o, h2, h3.on hg⟩⟩

theorem Gd.Some.row {w : World} {a : Option Addr} {n : Nat} {M : Nat → Nat → Int} (h : Gd.Some w a n M) {k : Nat} (hk : k < n) : ∃ b o, a = some ⟨b, o, none⟩ ∧ b < w.heap.size ∧ w.cell? ⟨b, o + k * 4, none⟩ = some (.int .i64 (M k 0)) ∧ w.cell? ⟨b, o + k * 4 + 1, none⟩ = some (.int .i64 (M k 1)) ∧ w.cell? ⟨b, o + k * 4 + 2, none⟩ = some (.int .i64 (M k 2)) ∧ w.cell? ⟨b, o + k * 4 + 3, none⟩ = some (.int .i64 (M k 3)) := by
  obtain ⟨_, h0 | ⟨b, o, h2, h3⟩⟩ := h
  · omega
  · exact ⟨b, o, h2, h3.2.1, h3.2.2 k 0 hk (by omega), h3.2.2 k 1 hk (by omega), h3.2.2 k 2 hk (by omega), h3.2.2 k 3 hk (by omega)⟩

/-- A call hands back a list of 40 items of its own. -/
def Gd.Gives40 (w : World) (J : Nat → Nat → Int) (e : Ending) (w' : World) : Prop :=
  ∃ g cap, e = .returned (.slice (some ⟨g, 0, none⟩) 40 cap) ∧ w.heap.size ≤ g ∧ Lie w' g 38 160 (Gd.flat J) ∧ w.grownBy w' none

end Go.Proofs.Ytgkomdpceilggaa
