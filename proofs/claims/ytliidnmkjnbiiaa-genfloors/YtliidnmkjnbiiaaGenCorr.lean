/-
  All corridors of a floor.
-/
import Derived.Test.YtliidnmkjnbiiaaGenDig
import Derived.Test.YtliidnmkjnbiiaaGenRooms
import Derived.Deep.RegionHeld3
namespace Go.Proofs.Ytliidnmkjnbiiaa
open Go.RowKit

structure CorrHold (w : World) (G : Nat) (s f : Int) (d : Gn.Dice) (wr : World) : Prop where
  plan : Arr wr w.heap.size 48 2 (fun j => .int .i64 (if j = 0 then s else f))
  mid : Arr wr (w.heap.size + 1) 51 12 (fun j => .int .i64 (Gn.mid d j))
  grown : w.grownBy wr (some G)

theorem CorrHold.on {w : World} {G : Nat} {s f : Int} {d : Gn.Dice} {wr wx : World} (h : CorrHold w G s f d wr) (hg : wr.grownBy wx none) : CorrHold w G s f d wx :=
  ⟨h.plan.grown hg (by simp), h.mid.grown hg (by simp), grown_none h.grown hg⟩

theorem CorrHold.own {w : World} {G : Nat} {s f : Int} {d : Gn.Dice} {wr wx : World} (h : CorrHold w G s f d wr) (hG : G < w.heap.size) (hg : wr.grownBy wx (some G)) : CorrHold w G s f d wx :=
  ⟨h.plan.grown hg (by simp; omega), h.mid.grown hg (by simp; omega), grown_trans h.grown hg⟩

theorem CorrHold.start (w : World) (G : Nat) (s f : Int) (d : Gn.Dice) :
    CorrHold w G s f d ((w.alloc (.cells #[.int .i64 s, .int .i64 f] 48)).alloc (.cells (Gn.mids d) 51)) := by
  refine ⟨(Arr.pair _ _ _ _).alloc _, ?_, grown_alloc (World.grownBy_alloc _ _ _) _⟩
  refine ⟨Gn.mids d, ?_, rfl, fun i hi => ?_⟩
  · have := heap_alloc_new (w.alloc (.cells #[.int .i64 s, .int .i64 f] 48)) (.cells (Gn.mids d) 51)
    simpa using this
  · rcases (show i = 0 ∨ i = 1 ∨ i = 2 ∨ i = 3 ∨ i = 4 ∨ i = 5 ∨ i = 6 ∨ i = 7 ∨ i = 8 ∨ i = 9 ∨ i = 10 ∨ i = 11 by omega) with rfl | rfl | rfl | rfl | rfl | rfl | rfl | rfl | rfl | rfl | rfl | rfl <;> rfl

theorem Gn.mid_even (d : Gn.Dice) (k : Nat) : Gn.mid d (k * 2) = Gn.mx d k := by
  unfold Gn.mid
  rw [if_pos (by omega), show k * 2 / 2 = k by omega]

theorem Gn.mid_odd (d : Gn.Dice) (k : Nat) : Gn.mid d (k * 2 + 1) = Gn.my d k := by
  unfold Gn.mid
  rw [if_neg (by omega), show (k * 2 + 1) / 2 = k by omega]

set_option maxRecDepth 8000 in
set_option maxHeartbeats 4000000 in
theorem corridors_any (s f : Int) (d : Gn.Dice) (hd : ∀ a b n, Gn.D s f a b n = d a b n) (hF : Gn.Fair d) (G : Nat) (w : World) (hA : Arr w G 5 384 (Byts (Gn.dug d 0))) :
    Calls Try.prog 18 #[.agg #[.int .i64 s, .int .i64 f], .slice (some ⟨G, 0, none⟩) 384 384, .agg (Gn.mids d)] w
      (fun e w' => e = .returned (.tuple #[]) ∧ Arr w' G 5 384 (Byts (Gn.dug d 5)) ∧ w.grownBy w' (some G)) := by
  have hG := hA.lt
  have hA' := hide hA
  have hd' := hide hd
  have hF' := hide hF
  clear hA hd hF
  go_enter Try.func18, Try.ntmps18
  go_wp2_with fail
  go_loopw [6] (fun i wr => ∃ j k : Nat, k ≤ 5 ∧ j = k + 1 ∧ i = .int .i64 (j : Int) ∧ Arr wr G 5 384 (Byts (Gn.dug d k)) ∧ CorrHold w G s f d wr) (fun i _ => 6 - (intOf i).toNat)
  case atStart => exact ⟨1, 0, by omega, rfl, rfl, ((unhide hA').alloc _).alloc _, CorrHold.start w G s f d⟩
  case round =>
    obtain ⟨j, k, hk, hj, rfl, hA, hH⟩ := hrel
    have hA1 := hide hA
    have hH1 := hide hH
    clear hA hH hA'
    by_cases hlt : k < 5
    · have hlt' : (j : Int) < 6 := by omega
      have hjk : (j : Int) - 1 = (k : Int) := by omega
      have hk2 : (k : Int) < 6 := by omega
      have hk0 : (0 : Int) ≤ (k : Int) := by omega
      have hj0 : (0 : Int) ≤ (j : Int) := by omega
      have hwr : IntKind.i64.wrap ((j : Int) - 1) = (k : Int) := by rw [hjk, IntKind.wrap_i64]; omega
      have hwr2 : IntKind.i64.wrap (k : Int) = (k : Int) := by rw [IntKind.wrap_i64]; omega
      obtain ⟨D0, hD0⟩ : ∃ x, x = d (j : Int) 4 2 := ⟨_, rfl⟩
      obtain ⟨x0, hx0⟩ : ∃ x, x = Gn.mx d k := ⟨_, rfl⟩
      obtain ⟨y0, hy0⟩ : ∃ x, x = Gn.my d k := ⟨_, rfl⟩
      obtain ⟨x1, hx1⟩ : ∃ x, x = Gn.mx d j := ⟨_, rfl⟩
      obtain ⟨y1, hy1⟩ : ∃ x, x = Gn.my d j := ⟨_, rfl⟩
      have keep : ∀ x, CorrHold w G s f d x → (x.cell? ⟨w.heap.size, 0, none⟩ = some (.int .i64 s) ∧ x.cell? ⟨w.heap.size, 1, none⟩ = some (.int .i64 f) ∧ x.cell? ⟨w.heap.size + 1, k * 2, none⟩ = some (.int .i64 x0) ∧ x.cell? ⟨w.heap.size + 1, k * 2 + 1, none⟩ = some (.int .i64 y0) ∧ x.cell? ⟨w.heap.size + 1, j * 2, none⟩ = some (.int .i64 x1) ∧ x.cell? ⟨w.heap.size + 1, j * 2 + 1, none⟩ = some (.int .i64 y1)) := by
        intro x hx
        have m1 := hx.mid.cell (i := k * 2) (by omega)
        have m2 := hx.mid.cell (i := k * 2 + 1) (by omega)
        have m3 := hx.mid.cell (i := j * 2) (by omega)
        have m4 := hx.mid.cell (i := j * 2 + 1) (by omega)
        simp only [Gn.mid_even, Gn.mid_odd, ← hx0, ← hy0, ← hx1, ← hy1] at m1 m2 m3 m4
        exact ⟨hx.plan.cell (by omega), hx.plan.cell (by omega), m1, m2, m3, m4⟩
      have keep' := hide keep
      have cdie : Calls Try.prog 28 #[.agg #[.int .i64 s, .int .i64 f], .int .i64 j, .int .i64 4, .int .i64 2] wr.drew (fun e w' => e = .returned (.int .i64 D0) ∧ Hid (CorrHold w G s f d w') ∧ Hid (Arr w' G 5 384 (Byts (Gn.dug d k)))) := by
        have h := die3_any s f j 4 2 wr.drew (by omega)
        rw [unhide hd', ← hD0] at h
        have hg0 := grown_drew1 (World.grownBy.refl wr none)
        exact h.mono fun e w' ⟨he, hg⟩ => ⟨he, ((unhide hH1).on hg0).on hg, ((unhide hA1).grown hg0 (by simp)).grown hg (by simp)⟩
      have cdig : ∀ x, Hid (CorrHold w G s f d x) → Hid (Arr x G 5 384 (Byts (Gn.dug d k))) → Calls Try.prog 30 #[.slice (some ⟨G, 0, none⟩) 384 384, .agg #[.int .i64 x0, .int .i64 y0], .agg #[.int .i64 x1, .int .i64 y1], .bool (D0 == 0)] x (fun e w' => e = .returned (.tuple #[]) ∧ Hid (CorrHold w G s f d w') ∧ Hid (Arr w' G 5 384 (Byts (Gn.dug d j)))) := by
        intro x hx ha
        have b0 := Gn.mid_bd (unhide hF') k
        have b1 := Gn.mid_bd (unhide hF') j
        rw [← hx0, ← hy0] at b0
        rw [← hx1, ← hy1] at b1
        have h := dig_any G (Gn.dug d k) x0 y0 x1 y1 (D0 == 0) x (unhide ha) (Gn.dug_5 d k) (by omega) (by omega)
        refine h.mono ?_
        rintro e w' ⟨he, hA2, hg⟩
        refine ⟨he, (unhide hx).own hG hg, ?_⟩
        rw [hx0, hy0, hx1, hy1, hD0, hj] at hA2
        rw [hj]
        exact hA2
      have cdie' := hide cdie
      have cdig' := hide cdig
      obtain ⟨p1, p2, p3, p4, p5, p6⟩ := keep wr (unhide hH1)
      have hj' := hide hj
      clear keep cdie cdig hD0 hx0 hy0 hx1 hy1 hj hlt hk
      go_wp2_with fail
      go_region_held3 (fun x => x.cell? ⟨w.heap.size, 0, none⟩ = some (.int .i64 s) ∧ x.cell? ⟨w.heap.size, 1, none⟩ = some (.int .i64 f) ∧ x.cell? ⟨w.heap.size + 1, k * 2, none⟩ = some (.int .i64 x0) ∧ x.cell? ⟨w.heap.size + 1, k * 2 + 1, none⟩ = some (.int .i64 y0) ∧ x.cell? ⟨w.heap.size + 1, j * 2, none⟩ = some (.int .i64 x1) ∧ x.cell? ⟨w.heap.size + 1, j * 2 + 1, none⟩ = some (.int .i64 y1)) (go_keep) (first | (go_at_call 28; refine (unhide cdie').mono ?_; rintro e wd ⟨rfl, hHd, hAd⟩; obtain ⟨z1, z2, z3, z4, z5, z6⟩ := unhide keep' wd (unhide hHd)) | (go_at_call 30; refine (unhide cdig' _ (by assumption) (by assumption)).mono ?_; rintro e we ⟨rfl, hHe, hAe⟩; obtain ⟨z1, z2, z3, z4, z5, z6⟩ := unhide keep' we (unhide hHe)))
      have hAe' : Hid (Arr we G 5 384 (Byts (Gn.dug d j))) := hAe
      have hHe' : Hid (CorrHold w G s f d we) := hHe
      clear cdie' cdig' keep' z1 z2 z3 z4 z5 z6 hwr hwr2 hjk
      go_wp2
      go_roundw
      case rel => exact ⟨j + 1, j, by omega, rfl, by go_num, unhide hAe', unhide hHe'⟩
      case measure => simp [intOf]; omega
    · have hge : ¬ (j : Int) < 6 := by omega
      obtain rfl : k = 5 := by omega
      clear hk hlt hj
      go_wp2
      go_end0
      exact ⟨rfl, unhide hA1, (unhide hH1).grown⟩

end Go.Proofs.Ytliidnmkjnbiiaa
