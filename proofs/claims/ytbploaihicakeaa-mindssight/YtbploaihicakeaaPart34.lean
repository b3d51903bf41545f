/-
  Worlds of which minds are asked.
  Worlds of a crowd are such as minds may be asked about.
-/
import Derived.Test.YtbploaihicakeaaPart31
import Derived.Test.YtbploaihicakeaaPart29
import Derived.Test.YtbploaihicakeaaPart33
namespace Go.Proofs.Ytbploaihicakeaa
open Go.RowKit

/-- A world that may be, as far as minds look at it. -/
structure Md.Good (c : Nat → Int) (E I : Nat → Nat → Int) : Prop where
  fine : Md.Fine E
  gens : En.Gens 32 E
  words : Nv.Words 32 E
  ok : Gd.Ok c 40 I

theorem Md.good_of {c : Nat → Int} {E I : Nat → Nat → Int} (hE : Md.Fine E) (hz : ∀ k, k < 32 → (0 ≤ E k 1 ∧ E k 1 ≤ 255) ∧ (E k 0 = 0 → E k 3 = 0 ∧ E k 4 = 0)) (hok : Gd.Ok c 40 I) : Md.Good c E I :=
  ⟨hE, fun k hk => (hz k hk).1, fun k hk => by
    by_cases k0 : E k 0 = 0
    · have := (hz k hk).2 k0
      omega
    · have := hE k hk k0
      omega, hok⟩

end Go.Proofs.Ytbploaihicakeaa

namespace Go.Proofs.Ytbploaihicakeaa
open Go.RowKit

theorem Md.fine_of {c : Nat → Int} {E I : Nat → Nat → Int} (hF : Ft.Fit c E I) (hS : Ft.Set c E) : Md.Fine E := fun k hk k0 => by
  obtain ⟨a, b, d, e, _⟩ := hS.stands.on k hk k0
  have ht := (hF.rows k hk).taken k0
  exact ⟨a, b, d, e, by omega, by omega⟩

theorem Md.good_fit {c : Nat → Int} {E I : Nat → Nat → Int} (hF : Ft.Fit c E I) (hS : Ft.Set c E) : Md.Good c E I :=
  Md.good_of (Md.fine_of hF hS) (fun k hk => ⟨⟨(hF.rows k hk).1, (hF.rows k hk).2.1⟩, fun k0 => by
    rcases (hF.rows k hk).2.2 with hz | ht
    · exact ⟨hz 3 (by omega) (by omega), hz 4 (by omega) (by omega)⟩
    · omega⟩) hF.ok

end Go.Proofs.Ytbploaihicakeaa
