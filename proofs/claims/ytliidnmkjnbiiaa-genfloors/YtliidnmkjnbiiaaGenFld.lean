/-
  The document's field over a floor that the program has made is the floor's own.
-/
import Derived.Test.YtliidnmkjnbiiaaGenNear
import Derived.Test.YtliidnmkjnbiiaaGridRef
namespace Go.Proofs.Ytliidnmkjnbiiaa
open Go.RowKit

/-- Over a world in which a floor lies, the field from its up stair. -/
theorem levField {w : World} {B G nE nI cE cI : Nat} {aE aI : Option Addr} {d : Gn.Dice} {c F : Nat → Int} {far : Nat} {wr : World} (h : LevHold w B G nE nI cE cI aE aI c wr) (hf : Gn.Facts d c F far) (n : Nat) (hn : n = wr.heap.size) :
    Calls Try.prog 13 #[.slice (some ⟨G, 0, none⟩) 384 384, .slice none 0 0, .slice (some ⟨n, 0, none⟩) 1 1] (wr.alloc (.cells #[.int .i64 ((Gn.up d : Nat) : Int)] 3)).drew
      fun e w' => ∃ g, e = .returned (.slice (some ⟨g, 0, none⟩) 384 384) ∧ wr.heap.size ≤ g ∧ LevHold w B G nE nI cE cI aE aI c w' ∧ Arr w' g 3 384 (Ints F) ∧ wr.grownBy w' none := by
  subst hn
  have hg0 : wr.grownBy (wr.alloc (.cells #[.int .i64 ((Gn.up d : Nat) : Int)] 3)).drew none := grown_drew1 (World.grownBy_alloc _ _ _)
  have hA := h.cells.grown hg0 (by simp)
  have hV := Vec.one wr wr.heap.size rfl (.int .i64 ((Gn.up d : Nat) : Int)) 3 (Ints fun _ => ((Gn.up d : Nat) : Int)) rfl
  have hV2 : Vec (wr.alloc (.cells #[.int .i64 ((Gn.up d : Nat) : Int)] 3)).drew.heap.size (wr.alloc (.cells #[.int .i64 ((Gn.up d : Nat) : Int)] 3)).drew (some ⟨wr.heap.size, 0, none⟩) 1 (Ints fun _ => ((Gn.up d : Nat) : Int)) := hV
  have hul := hf.upl
  refine (refField_any _ _ _ 0 1 _ _ _ c (fun _ => ((Gn.up d : Nat) : Int)) (fun _ => false) _ (hA.vec _ hA.lt (by decide)) (fun i => by have := hf.five i; omega) (Vec.none0 _ _ _ _) hV2 (fun _ => by constructor <;> omega)).mono ?_
  rintro e w5 ⟨F0, ⟨g, rfl, hg, hAF, hbel⟩, hfld⟩
  have hgr := below_grown hbel
  have hF : Gr.IsField (fun i => Gr.walkB (c i) = true) (fun i => i = Gn.up d) F0 := Gn.isField_congr hfld
    (fun i hi => by simp [Gr.openB])
    (fun i hi => by
      constructor
      · rintro ⟨_, j, _, he⟩
        have he' : ((Gn.up d : Nat) : Int) = (i : Int) := he
        omega
      · rintro rfl
        exact ⟨by rw [(hf.is3 _).2 rfl]; rfl, 0, by omega, rfl⟩) (fun _ _ => rfl)
  refine ⟨g, rfl, ?_, (h.on hg0).on hgr, hAF.congr fun j hj => ?_, grown_none hg0 hgr⟩
  · have := hg0.size
    omega
  · show Value.int .i64 (F0 j) = .int .i64 (F j)
    rw [hF.one hf.fld j hj]

end Go.Proofs.Ytliidnmkjnbiiaa
