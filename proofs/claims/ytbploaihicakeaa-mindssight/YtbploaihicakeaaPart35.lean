/-
  The law's own crowd, without anybody but the hero.
-/
import Derived.Test.YtbploaihicakeaaPart27
import Derived.Test.YtbploaihicakeaaPart33
namespace Go.Proofs.Ytbploaihicakeaa
open Go.RowKit

/-- A world of a hero alone is handed back. -/
def Md.Bare (w : World) (e : Ending) (w' : World) : Prop := ∃ (c : Nat → Int) (kc : Nat) (s g : Nat → Int), Nv.Floor c ∧ kc < 384 ∧ Gr.walkB (c kc) = true ∧ Md.Wide e ∧ Gd.Worlds w s g c (En.put (fun _ _ => 0) 1 (Gd.folk 0 kc 1)) (fun _ _ => 0) e w'

set_option maxRecDepth 8000 in
set_option maxHeartbeats 12800000 in
theorem crowd_bare (seed floor frame : Int) (w : World) :
    Calls Try.prog 9 #[.int .i64 seed, .int .i64 floor, .slice none 0 0, .slice none 0 0, .int .i64 frame] w (Md.Bare w) := by
  have hr0 := hide (Arr.lit (heap_alloc_new w (.cells #[.int .i64 0, .int .i64 0, .int .i64 0, .int .i64 0, .slice none 0 0, .slice none 0 0, .slice none 0 0, .int .i64 0, .int .i64 0, .int .i64 0, .int .i64 0] 29))).lie
  have hg0 := hide (World.grownBy_alloc w (.cells #[.int .i64 0, .int .i64 0, .int .i64 0, .int .i64 0, .slice none 0 0, .slice none 0 0, .slice none 0 0, .int .i64 0, .int .i64 0, .int .i64 0, .int .i64 0] 29) none)
  have hs0 : Hid ((w.alloc (.cells #[.int .i64 0, .int .i64 0, .int .i64 0, .int .i64 0, .slice none 0 0, .slice none 0 0, .slice none 0 0, .int .i64 0, .int .i64 0, .int .i64 0, .int .i64 0] 29)).heap.size = w.heap.size + 1) := by
    show _ = _
    simp
  have cW := hide (fun wq => within8_any frame 1048576 wq (by omega) (by omega))
  obtain ⟨fr, hfr⟩ : ∃ fr, frame % 1048576 = fr := ⟨_, rfl⟩
  rw [hfr] at cW
  clear hfr
  go_enter Try.func9, Try.ntmps9
  go_wp2_with fail
  refine (world_wide seed floor 0 1 50 (by omega) (by omega) _).mono ?_
  rintro e wa ⟨c, kc, s, g, E, hSit, hF, hE, hWd, gC, gE, gI, cC, cE, cI, rfl, hcap, l1, l2, l3, n1, n2, n3, hL, hg⟩
  have hcw : Hid (384 ≤ cC) := hWd.cap
  clear hWd
  have hF' := hide (show Nv.Floor c ∧ kc < 384 ∧ Gr.walkB (c kc) = true from ⟨hF, hSit.kc4, hSit.walk⟩)
  have hE' : Hid (E = En.put (fun _ _ => 0) 1 (Gd.folk 0 kc 1)) := hE
  obtain ⟨I, hI⟩ : ∃ I : Nat → Nat → Int, (fun _ _ => 0) = I := ⟨_, rfl⟩
  rw [hI] at hL
  have hI' := hide hI
  have hW := hide (Gd.law_new (s := s) (g := g) (cC := cC) (cI := cI) (unhide hg0) hcap l1 l2 l3 n1 n2 n3 hL hg)
  have lC : Hid (w.heap.size ≤ gC) := (show w.heap.size ≤ gC by have := unhide hs0; omega)
  have hR := hide ((unhide hr0).on (grown_trans hg (World.grownBy_alloc wa (.cells #[.int .i64 (s 0), .int .i64 (s 1), .int .i64 (s 2), .int .i64 (s 3), .slice (some ⟨gC, 0, none⟩) 384 cC, .slice (some ⟨gE, 0, none⟩) 32 cE, .slice (some ⟨gI, 0, none⟩) 40 cI, .int .i64 (g 0), .int .i64 (g 1), .int .i64 (g 2), .int .i64 (g 3)] 29) none)))
  have hRT : Hid (wa.heap.size ≠ w.heap.size) := (show wa.heap.size ≠ w.heap.size by have := unhide hs0; have := hg.size; omega)
  clear hcap l1 l2 l3 n1 n2 n3 hL hg hF hSit hE hI hg0 hs0 hr0
  unfold Gd.world at hW ⊢
  go_upto_region 2 with fail
  obtain ⟨T, hT⟩ : ∃ T, wa.heap.size = T := ⟨_, rfl⟩
  rw [hT] at hW hRT ⊢
  generalize wa.alloc (.cells #[.int .i64 (s 0), .int .i64 (s 1), .int .i64 (s 2), .int .i64 (s 3), .slice (some ⟨gC, 0, none⟩) 384 cC, .slice (some ⟨gE, 0, none⟩) 32 cE, .slice (some ⟨gI, 0, none⟩) 40 cI, .int .i64 (g 0), .int .i64 (g 1), .int .i64 (g 2), .int .i64 (g 3)] 29) = wb at hW hR ⊢
  clear hT
  obtain ⟨R, hRe⟩ : ∃ R, w.heap.size = R := ⟨_, rfl⟩
  rw [hRe] at hR hRT ⊢
  have lR : Hid (w.heap.size ≤ R) := (show w.heap.size ≤ R by omega)
  clear hRe
  have b1 := (unhide hW).eleven.2.1
  have fT := (unhide hW).hold.box.free
  go_wp2_with fail
  refine (unhide cW _).mono ?_
  rintro e wy ⟨rfl, hy⟩
  subst wy
  have hW1 := hide ((unhide hW).tick fr)
  have hR1 := hide ((unhide hR).other (unhide hRT) 1 (.int .i64 fr))
  obtain ⟨s2, hs2⟩ : ∃ s2, Ft.tick s fr = s2 := ⟨_, rfl⟩
  rw [hs2] at hW1
  clear hs2 cW
  go_upto_region 3 with fail
  generalize wb.setCell ⟨T, 1, none⟩ (.int .i64 fr) = wc at hW1 hR1 ⊢
  clear b1 fT hW hR
  go_wp2_with fail
  go_loopw [12, 13] (fun va vi wr => va = .int .i64 0 ∧ vi = .int .i64 0 ∧ wr = wc) (fun _ _ _ => 1)
  case atStart => exact ⟨rfl, rfl, rfl⟩
  case round =>
    obtain ⟨rfl, rfl, hwe⟩ := hrel
    subst hwe
    obtain ⟨b0, b1, b2, b3, b4, b5, b6, b7, b8, b9, b10⟩ := (unhide hW1).eleven
    have fz := (unhide hR1).free
    obtain ⟨z0, z1, z2, z3, z4, z5, z6, z7, z8, z9, z10⟩ := Gd.res_cells (unhide hR1)
    have hfin : Hid (∀ vs, Gd.Worlds w s2 g c (En.put (fun _ _ => 0) 1 (Gd.folk 0 kc 1)) (fun _ _ => 0) (.returned (.agg (Gd.world s2 gC gE gI cC cE cI g))) (wr.setCells R 0 vs)) := fun vs => by
      rw [← unhide hE', unhide hI']
      exact (unhide hW1).worlds (unhide lC) (unhide lR) (unhide hR1) vs
    go_wp2
    refine bodyPost_ret (v := .agg (Gd.world s2 gC gE gI cC cE cI g)) (by simp [results, Try.results9, go_sem, Gd.world, z0, z1, z2, z3, z4, z5, z6, z7, z8, z9, z10]) rfl ?_
    exact ⟨c, kc, s2, g, (unhide hF').1, (unhide hF').2.1, (unhide hF').2.2, ⟨s2, gC, gE, gI, cC, cE, cI, g, unhide hcw, rfl⟩, unhide hfin [_, _, _, _, _, _, _, _, _, _, _]⟩

end Go.Proofs.Ytbploaihicakeaa
