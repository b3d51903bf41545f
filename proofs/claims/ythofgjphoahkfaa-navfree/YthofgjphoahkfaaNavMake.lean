/-
  A floor that the document makes: its cells, and that what can be walked on hangs together.
-/
import Derived.Test.YthofgjphoahkfaaGenRefMake
import Derived.Test.YthofgjphoahkfaaGenKnown
namespace Go.Proofs.Ythofgjphoahkfaa
open Go.RowKit

/-- The cells of a floor: kinds; one at least can be walked on; and what can be hangs together. -/
structure Nv.Floor (c : Nat → Int) : Prop where
  five : ∀ i, 0 ≤ c i ∧ c i ≤ 5
  some : ∃ i, i < 384 ∧ c i ≠ 0
  hang : ∀ P, Gn.Closed c P → ∀ k, k < 384 → c k ≠ 0 → P k → ∀ i, i < 384 → c i ≠ 0 → P i

theorem Nv.to_up {d : Gn.Dice} (hd : Gn.Fair d) {c F : Nat → Int} {far : Nat} (h : Gn.Facts d c F far) {P : Nat → Prop} (hC : Gn.Closed c P) : ∀ (n k : Nat), k < 384 → c k ≠ 0 → P k → F k = (n : Int) → P (Gn.up d) := by
  intro n
  induction n with
  | zero =>
    intro k hk _ hP e
    rw [← (h.fld.zero k hk).1 e]
    exact hP
  | succ n ih =>
    intro k hk hck hP e
    obtain ⟨_, j, dd, hj, hdd, hn, rfl, he⟩ := h.fld.back k hk (by omega)
    obtain ⟨b1, b2⟩ := Gr.nb_back hj hdd hn
    have hcj : c j ≠ 0 := (h.reach hd j hj).1 (by omega)
    refine ih j hj hcj ?_ (by omega)
    have := hC (Gr.nbOf j dd) (Gr.opp dd) hk (Gr.opp_lt hdd) hP b1 (by rw [b2]; exact hcj)
    rwa [b2] at this

theorem Nv.floor_of {d : Gn.Dice} (hd : Gn.Fair d) {c F : Nat → Int} (h : Gn.IsLevel d c F) : Nv.Floor c := by
  obtain ⟨far, hf⟩ := h.facts hd
  refine ⟨hf.five, ⟨far, hf.farl, by have := (hf.is4 far).2 rfl; omega⟩, fun P hC k hk hck hP i hi hci => ?_⟩
  have h0 := (hf.reach hd k hk).2 hck
  have hup := Nv.to_up hd hf hC (F k).toNat k hk hck hP (by omega)
  exact Gn.hangs hd (fun j _ => hf.nz j) hC hup i hi hci

theorem navMake_any (s f : Int) (h1 : 1 ≤ f) (h3 : f ≤ 3) (w : World) :
    Calls Try.prog 8 #[.int .i64 s, .int .i64 f] w fun e w' => ∃ (c : Nat → Int) (G nE nI cE cI : Nat) (aE aI : Option Addr), e = .returned (.agg #[.slice (some ⟨G, 0, none⟩) 384 384, .slice aE nE cE, .slice aI nI cI]) ∧ Nv.Floor c ∧ w.heap.size ≤ G ∧ Arr w' G 5 384 (Byts c) ∧ w.grownBy w' none := by
  obtain ⟨d, hd, hF⟩ := dice_of s f
  refine (refMake_any s f d hd hF h1 h3 w).mono ?_
  rintro e w' ⟨c, F, G, nE, nI, cE, cI, aE, aI, hlev, rfl, hG, hA, _, _, _, _, hg⟩
  exact ⟨c, G, _, _, _, _, _, _, rfl, Nv.floor_of hF hlev, hG, hA, hg⟩

theorem field_cells (v1 v2 v3 : Option Addr) (n1 n2 n3 c1 c2 c3 : Nat) (w : World) : (Instr.field 28 (.agg #[.slice v1 n1 c1, .slice v2 n2 c2, .slice v3 n3 c3]) 0).run Try.prog w = .ok (.slice v1 n1 c1) w := by kernel_rfl

end Go.Proofs.Ythofgjphoahkfaa
