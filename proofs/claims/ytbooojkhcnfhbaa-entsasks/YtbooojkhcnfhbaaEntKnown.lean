/-
  The law package's own known: the chapter's example.
-/
import Derived.Test.YtbooojkhcnfhbaaEntFree
namespace Go.Proofs.Ytbooojkhcnfhbaa
open Go.RowKit

/-- A list of free rows into which the first one has come. -/
def En.one : Nat → Nat → Int := En.put (fun _ _ => 0) 0 (En.gen (En.stats 2) 1)

theorem spawn_first (b : Nat) (x : World) (h : Ents x b 32 (fun _ _ => 0)) : Calls Try.prog 9 #[.slice (some ⟨b, 0, none⟩) 32 32, .agg (En.cells (En.stats 2))] x (Spawns x 32 En.one 0) :=
  spawn_some b 32 32 0 (fun _ _ => 0) (En.stats 2) x h (by omega) (by decide) (En.first_hit (fun j hj => by omega) (by decide) (by omega)) (by omega) (fun i _ => ⟨by show (0:Int) ≤ 0; decide, by show (0:Int) ≤ 255; decide⟩)

theorem id_first (b c : Nat) (x : World) (h : Ents x b 32 En.one) (hc : 32 ≤ c) : Calls Try.prog 20 #[.slice (some ⟨b, 0, none⟩) 32 c, .int .i64 0] x (Says x (.int .i64 32)) := by
  have hG : En.Gens 32 En.one := fun i _ => by
    by_cases e : i = 0
    · subst e; decide
    · unfold En.one; rw [En.put_other e]; decide
  have := id_any b 32 c En.one 0 x h hc hG
  rwa [show En.id 32 En.one 0 = 32 by decide] at this

set_option maxHeartbeats 1600000 in
theorem known_any (w : World) : Calls Try.prog 7 #[] w (Says w (.bool true)) := by
  obtain ⟨Z, hmk, hZ⟩ := make32
  have hZ' := hide hZ
  clear hZ
  go_enter Try.func7, Try.ntmps7
  go_wp2_with fail
  go_region_with (first | (go_at_call 14; refine (stats_any _ _).mono ?_; rintro e w1 ⟨rfl, hg1⟩) | (go_at_call 9; refine (spawn_first _ _ (((unhide hZ' w).on (grown_drew1 (World.grownBy.refl _ _))).on hg1).ents).mono ?_; rintro e w2 ⟨g, cap, rfl, hlo, hnc, hcm, hown, hg2⟩; have hfin := hide (show w.grownBy w2 none from grown_trans (grown_trans (grown_drew1 (World.grownBy_alloc _ _ _)) hg1) hg2); clear hg1 hg2) | (go_at_call 9; refine (spawn_first _ _ (unhide hZ' w1).ents).mono ?_; rintro e w2 ⟨g, cap, rfl, hlo, hnc, hcm, hown, hg2⟩; have hfin := hide (show w.grownBy w2 none from grown_trans (grown_alloc (grown_trans (grown_drew1 (World.grownBy.refl _ _)) hg1) _) hg2); clear hg1 hg2))
  all_goals
    have ci := hide (id_first g cap w2 hown.ents hnc)
    clear hmk hZ' hlo hnc hcm hown
    go_wp2_with fail
    refine (unhide ci).mono ?_
    rintro e w3 ⟨rfl, hg3⟩
    have hfin3 := hide (grown_trans (unhide hfin) hg3)
    clear hg3
    go_wp2
    go_ret
    exact ⟨rfl, unhide hfin3⟩

end Go.Proofs.Ytbooojkhcnfhbaa
