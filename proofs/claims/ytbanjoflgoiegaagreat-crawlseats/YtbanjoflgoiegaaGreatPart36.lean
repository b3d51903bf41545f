/-
  GoodsArgs NavRefSpot
-/
import Derived.Test.YtbanjoflgoiegaaGreatPart33
import Derived.Deep.Fields
import Derived.OpenShut
import Derived.Test.YtbanjoflgoiegaaGreatPart25
namespace Go.Proofs.YtbanjoflgoiegaaGreat
open Go.RowKit Go.ChangeShapes Go.WideShapes

structure ItArg (w : World) (a : Option Addr) (len cap : Nat) (M : Nat → Nat → Int) : Prop where
  most : len ≤ maxLen
  cap : len ≤ cap
  rows : len = 0 ∨ ∃ b o, a = some ⟨b, o, none⟩ ∧ b < w.heap.size ∧ ∀ i j, i < len → j < 4 → w.cell? ⟨b, o + i * 4 + j, none⟩ = some (.int .i64 (M i j))

theorem ItArg.on {w w' : World} {a : Option Addr} {len cap : Nat} {M : Nat → Nat → Int} (h : ItArg w a len cap M) (hg : w.grownBy w' none) : ItArg w' a len cap M :=
  ⟨h.most, h.cap, h.rows.imp id fun ⟨b, o, ha, hb, hc⟩ => ⟨b, o, ha, Nat.lt_of_lt_of_le hb hg.size, fun i j hi hj => (grown_cell hg b _ hb (by simp)).trans (hc i j hi hj)⟩⟩

theorem ItArg.some {w : World} {a : Option Addr} {len cap : Nat} {M : Nat → Nat → Int} (h : ItArg w a len cap M) (n : Nat) (hn : n ≤ len) (h100 : n ≤ 100) : Gd.Some w a n M := by
  refine ⟨h100, ?_⟩
  rcases h.rows with h0 | ⟨b, o, ha, hb, hc⟩
  · exact .inl (by omega)
  · exact .inr ⟨b, o, ha, h100, hb, fun i j hi hj => hc i j (by omega) hj⟩

structure NumArg (w : World) (a : Option Addr) (len : Nat) (f : Nat → Int) : Prop where
  most : len ≤ maxLen
  rows : len = 0 ∨ ∃ b o, a = some ⟨b, o, none⟩ ∧ b < w.heap.size ∧ ∀ i, i < len → w.cell? ⟨b, o + i, none⟩ = some (.int .i64 (f i))

theorem NumArg.on {w w' : World} {a : Option Addr} {len : Nat} {f : Nat → Int} (h : NumArg w a len f) (hg : w.grownBy w' none) : NumArg w' a len f :=
  ⟨h.most, h.rows.imp id fun ⟨b, o, ha, hb, hc⟩ => ⟨b, o, ha, Nat.lt_of_lt_of_le hb hg.size, fun i hi => (grown_cell hg b _ hb (by simp)).trans (hc i hi)⟩⟩

theorem NumArg.at {w : World} {a : Option Addr} {len : Nat} {f : Nat → Int} (h : NumArg w a len f) {k : Nat} (hk : k < len) : ∃ b o, a = some ⟨b, o, none⟩ ∧ b < w.heap.size ∧ w.cell? ⟨b, o + k, none⟩ = some (.int .i64 (f k)) := by
  rcases h.rows with h0 | ⟨b, o, ha, hb, hc⟩
  · omega
  · exact ⟨b, o, ha, hb, hc k hk⟩

end Go.Proofs.YtbanjoflgoiegaaGreat

namespace Go.Proofs.YtbanjoflgoiegaaGreat
open Go.RowKit

end Go.Proofs.YtbanjoflgoiegaaGreat
