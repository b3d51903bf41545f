/-
  NavRef NavRefGo GoodsTwin NavBeside NavMake GoodsWorld GoodsLay
-/
import Derived.Test.YtbanjoflgoiegaaGreatPart17
import Derived.Test.YtbanjoflgoiegaaGreatPart18
import Derived.BigQuiet
import Derived.Test.YtbanjoflgoiegaaGreatPart22
import Derived.Test.YtbanjoflgoiegaaGreatPart14
import Derived.Test.YtbanjoflgoiegaaGreatPart24
namespace Go.Proofs.YtbanjoflgoiegaaGreat
open Go.RowKit

end Go.Proofs.YtbanjoflgoiegaaGreat

namespace Go.Proofs.YtbanjoflgoiegaaGreat
open Go.RowKit

end Go.Proofs.YtbanjoflgoiegaaGreat

namespace Go.Proofs.YtbanjoflgoiegaaGreat
open Go.RowKit

structure Gd.Part (w x : World) (B gC gE gI cC cE cI : Nat) (s g : Nat → Int) : Prop where
  box : Lie x B 30 11 (Gd.box s gC gE gI cC cE cI g)
  res : Lie x (B + 1) 30 11 (fun j => #[.int .i64 0, .int .i64 0, .int .i64 0, .int .i64 0, .slice none 0 0, .slice none 0 0, .slice none 0 0, .int .i64 0, .int .i64 0, .int .i64 0, Value.int .i64 0][j]?.getD undef)
  at_ : w.heap.size = B
  two : B + 2 ≤ x.heap.size
  grown : w.grownBy x none

theorem Gd.Part.on {w x y : World} {B gC gE gI cC cE cI : Nat} {s g : Nat → Int} (h : Gd.Part w x B gC gE gI cC cE cI s g) (hg : x.grownBy y none) : Gd.Part w y B gC gE gI cC cE cI s g :=
  ⟨h.box.on hg, h.res.on hg, h.at_, Nat.le_trans h.two hg.size, grown_trans h.grown hg⟩

theorem Gd.Part.set {w x : World} {B gC gE gI cC cE cI : Nat} {s g : Nat → Int} (h : Gd.Part w x B gC gE gI cC cE cI s g) (i : Nat) (v : Value) (gC' gE' gI' cC' cE' cI' : Nat) (he : ∀ j, j < 11 → (if j = i then v else Gd.box s gC gE gI cC cE cI g j) = Gd.box s gC' gE' gI' cC' cE' cI' g j) : Gd.Part w (x.setCell ⟨B, i, none⟩ v) B gC' gE' gI' cC' cE' cI' s g := by
  have hB := h.at_
  have r := grown_set0 x B i v
  exact ⟨(h.box.store i v).congr he, h.res.grown r (by simp), h.at_, by simpa using h.two, grown_store h.grown ⟨B, i, none⟩ (by show w.heap.size ≤ B; omega) v⟩

theorem Gd.box_4 (s g : Nat → Int) (gC gE gI cC cE cI g1 c1 : Nat) : ∀ j, j < 11 → (if j = 4 then Value.slice (some ⟨g1, 0, none⟩) 384 c1 else Gd.box s gC gE gI cC cE cI g j) = Gd.box s g1 gE gI c1 cE cI g j := by
  intro j hj
  rcases (show j = 0 ∨ j = 1 ∨ j = 2 ∨ j = 3 ∨ j = 4 ∨ j = 5 ∨ j = 6 ∨ j = 7 ∨ j = 8 ∨ j = 9 ∨ j = 10 by omega) with rfl | rfl | rfl | rfl | rfl | rfl | rfl | rfl | rfl | rfl | rfl <;> rfl

theorem Gd.box_5 (s g : Nat → Int) (gC gE gI cC cE cI g1 c1 : Nat) : ∀ j, j < 11 → (if j = 5 then Value.slice (some ⟨g1, 0, none⟩) 32 c1 else Gd.box s gC gE gI cC cE cI g j) = Gd.box s gC g1 gI cC c1 cI g j := by
  intro j hj
  rcases (show j = 0 ∨ j = 1 ∨ j = 2 ∨ j = 3 ∨ j = 4 ∨ j = 5 ∨ j = 6 ∨ j = 7 ∨ j = 8 ∨ j = 9 ∨ j = 10 by omega) with rfl | rfl | rfl | rfl | rfl | rfl | rfl | rfl | rfl | rfl | rfl <;> rfl

theorem Gd.box_6 (s g : Nat → Int) (gC gE gI cC cE cI g1 c1 : Nat) : ∀ j, j < 11 → (if j = 6 then Value.slice (some ⟨g1, 0, none⟩) 40 c1 else Gd.box s gC gE gI cC cE cI g j) = Gd.box s gC gE g1 cC cE c1 g j := by
  intro j hj
  rcases (show j = 0 ∨ j = 1 ∨ j = 2 ∨ j = 3 ∨ j = 4 ∨ j = 5 ∨ j = 6 ∨ j = 7 ∨ j = 8 ∨ j = 9 ∨ j = 10 by omega) with rfl | rfl | rfl | rfl | rfl | rfl | rfl | rfl | rfl | rfl | rfl <;> rfl

end Go.Proofs.YtbanjoflgoiegaaGreat

namespace Go.Proofs.YtbanjoflgoiegaaGreat
open Go.RowKit

end Go.Proofs.YtbanjoflgoiegaaGreat

namespace Go.Proofs.YtbanjoflgoiegaaGreat
open Go.RowKit

structure Nv.Floor (c : Nat → Int) : Prop where
  five : ∀ i, 0 ≤ c i ∧ c i ≤ 5
  some : ∃ i, i < 384 ∧ c i ≠ 0
  hang : ∀ P, Gn.Closed c P → ∀ k, k < 384 → c k ≠ 0 → P k → ∀ i, i < 384 → c i ≠ 0 → P i
  stairs : ∃ u v, u < 384 ∧ v < 384 ∧ (∀ i, c i = 3 ↔ i = u) ∧ (∀ i, c i = 4 ↔ i = v)

theorem Nv.to_up {d : Gn.Dice} (hd : Gn.Fair d) {c F : Nat → Int} {far : Nat} (h : Gn.Facts d c F far) {P : Nat → Prop} (hC : Gn.Closed c P) : ∀ (n k : Nat), k < 384 → c k ≠ 0 → P k → F k = (n : Int) → P (Gn.up d) := by
  intro n
  induction n with
  | zero =>
    intro k hk _ hP e
    rw [← (h.fld.zero k hk).1 e]
    exact hP
  | succ n ih =>
    intro k hk hck hP e
    obtain ⟨_, j, dd, hj, hdd, hn, rfl, he⟩ := h.fld.back k hk (by omega)
    obtain ⟨b1, b2⟩ := Gr.nb_back hj hdd hn
    have hcj : c j ≠ 0 := (h.reach hd j hj).1 (by omega)
    refine ih j hj hcj ?_ (by omega)
    have := hC (Gr.nbOf j dd) (Gr.opp dd) hk (Gr.opp_lt hdd) hP b1 (by rw [b2]; exact hcj)
    rwa [b2] at this

theorem Nv.floor_of {d : Gn.Dice} (hd : Gn.Fair d) {c F : Nat → Int} (h : Gn.IsLevel d c F) : Nv.Floor c := by
  obtain ⟨far, hf⟩ := h.facts hd
  refine ⟨hf.five, ⟨far, hf.farl, by have := (hf.is4 far).2 rfl; omega⟩, fun P hC k hk hck hP i hi hci => ?_, ⟨Gn.up d, far, hf.upl, hf.farl, hf.is3, hf.is4⟩⟩
  have h0 := (hf.reach hd k hk).2 hck
  have hup := Nv.to_up hd hf hC (F k).toNat k hk hck hP (by omega)
  exact Gn.hangs hd (fun j _ => hf.nz j) hC hup i hi hci

end Go.Proofs.YtbanjoflgoiegaaGreat

namespace Go.Proofs.YtbanjoflgoiegaaGreat
open Go.RowKit

theorem madeCells_item (n c : Nat) (hc : c < n * 4) : (madeCells (Value.agg #[.int .i64 0, .int .i64 0, .int .i64 0, .int .i64 0]).cells (n * 4))[c]? = some (.int .i64 0) := by
  have hm : c % 4 < 4 := by omega
  obtain ⟨m, hmm⟩ : ∃ m, m = c % 4 := ⟨_, rfl⟩
  unfold madeCells
  simp [hc, Value.cells]
  rw [← hmm] at hm ⊢
  rcases (show m = 0 ∨ m = 1 ∨ m = 2 ∨ m = 3 by omega) with rfl | rfl | rfl | rfl <;> rfl

theorem make40 : ∃ Z : Array Value, (∀ w : World, (Instr.makeSlice 27 (.int .i64 40) (.int .i64 40)).run Tryz.prog w = .ok (.slice (some ⟨w.heap.size, 0, none⟩) 40 40) (w.alloc (.cells Z 62))) ∧
    ∀ w : World, Lie (w.alloc (.cells Z 62)) w.heap.size 62 160 (Gd.flat (fun _ _ => 0)) := by
  obtain ⟨i0, hi, hz0, hz1, hz2⟩ := info_parts info_item
  refine ⟨madeCells (Value.agg #[.int .i64 0, .int .i64 0, .int .i64 0, .int .i64 0]).cells (40 * 4), fun w => ?_, fun w => ?_⟩
  · have hr := run_make (P := Tryz.prog) w 27 62 i0 _ Tryz.underlying27 hi hz0 .i64 .i64 (40 : Nat) (40 : Nat) (by omega) (by omega) (by rw [hz2]; decide) (by decide)
    rw [hz1] at hr
    exact hr
  · refine ⟨_, _, Arr.lit (heap_alloc_new w _), by rw [size_madeCells]; omega, fun c hc => ?_⟩
    show (madeCells _ _)[c]?.getD undef = _
    rw [madeCells_item 40 c hc]
    rfl

theorem Lie.type_ne {x : World} {B G : Nat} {T U : TypeId} {m n : Nat} {F K : Nat → Value} (h1 : Lie x B T m F) (h2 : Lie x G U n K) (h : T ≠ U) : B ≠ G := by
  rintro rfl
  obtain ⟨_, _, ⟨c1, e1, _⟩, _⟩ := h1
  obtain ⟨_, _, ⟨c2, e2, _⟩, _⟩ := h2
  rw [e1] at e2
  simp only [Option.some.injEq, Obj.cells.injEq] at e2
  exact h e2.2.1

end Go.Proofs.YtbanjoflgoiegaaGreat

namespace Go.Proofs.YtbanjoflgoiegaaGreat
open Go.RowKit

def Gd.goneQ (J : Nat → Nat → Int) : Nat → Bool := fun i => Gd.zeroB (J i 0) (J i 1) (J i 2) (J i 3)

def Gd.lay (I M : Nat → Nat → Int) : Nat → Nat → Nat → Int
  | 0 => I
  | m + 1 => if 0 ≤ En.first (Gd.goneQ (Gd.lay I M m)) 40 then En.put (Gd.lay I M m) (En.first (Gd.goneQ (Gd.lay I M m)) 40).toNat (Gd.row (M m 0) (M m 1) (M m 2) (M m 3)) else Gd.lay I M m

theorem Gd.lay_none {I M : Nat → Nat → Int} {m : Nat} (h : ∀ j, j < 40 → Gd.goneQ (Gd.lay I M m) j = false) : Gd.lay I M (m + 1) = Gd.lay I M m := by
  show (if _ then _ else _) = _
  rw [En.first_none h, if_neg (by omega)]

theorem Gd.lay_some {I M : Nat → Nat → Int} {m r : Nat} (hno : ∀ j, j < r → Gd.goneQ (Gd.lay I M m) j = false) (hr : Gd.goneQ (Gd.lay I M m) r = true) (h40 : r < 40) : Gd.lay I M (m + 1) = En.put (Gd.lay I M m) r (Gd.row (M m 0) (M m 1) (M m 2) (M m 3)) := by
  show (if _ then _ else _) = _
  rw [En.first_hit hno hr h40, if_pos (by omega), Int.toNat_natCast]

theorem Gd.lay_stuck {I M : Nat → Nat → Int} {m : Nat} (h : ∀ j, j < 40 → Gd.goneQ (Gd.lay I M m) j = false) : ∀ d, Gd.lay I M (m + d) = Gd.lay I M m
  | 0 => rfl
  | d + 1 => by
      have ih := Gd.lay_stuck h d
      have h' : ∀ j, j < 40 → Gd.goneQ (Gd.lay I M (m + d)) j = false := by rw [ih]; exact h
      rw [← Nat.add_assoc, Gd.lay_none h', ih]

def Gd.Some (w : World) (a : Option Addr) (n : Nat) (M : Nat → Nat → Int) : Prop := n ≤ 100 ∧ (n = 0 ∨ ∃ b o, a = some ⟨b, o, none⟩ ∧ Its w b o n M)

theorem Gd.Some.on {w w' : World} {a : Option Addr} {n : Nat} {M : Nat → Nat → Int} (h : Gd.Some w a n M) (hg : w.grownBy w' none) : Gd.Some w' a n M := by
  obtain ⟨h1, h0 | ⟨b, o, h2, h3⟩⟩ := h
  · exact ⟨h1, .inl h0⟩
  · exact ⟨h1, .inr ⟨b, o, h2, h3.on hg⟩⟩

theorem Gd.Some.row {w : World} {a : Option Addr} {n : Nat} {M : Nat → Nat → Int} (h : Gd.Some w a n M) {k : Nat} (hk : k < n) : ∃ b o, a = some ⟨b, o, none⟩ ∧ b < w.heap.size ∧ w.cell? ⟨b, o + k * 4, none⟩ = some (.int .i64 (M k 0)) ∧ w.cell? ⟨b, o + k * 4 + 1, none⟩ = some (.int .i64 (M k 1)) ∧ w.cell? ⟨b, o + k * 4 + 2, none⟩ = some (.int .i64 (M k 2)) ∧ w.cell? ⟨b, o + k * 4 + 3, none⟩ = some (.int .i64 (M k 3)) := by
  obtain ⟨_, h0 | ⟨b, o, h2, h3⟩⟩ := h
  · omega
  · exact ⟨b, o, h2, h3.2.1, h3.2.2 k 0 hk (by omega), h3.2.2 k 1 hk (by omega), h3.2.2 k 2 hk (by omega), h3.2.2 k 3 hk (by omega)⟩

def Gd.Gives40 (w : World) (J : Nat → Nat → Int) (e : Ending) (w' : World) : Prop :=
  ∃ g cap, e = .returned (.slice (some ⟨g, 0, none⟩) 40 cap) ∧ w.heap.size ≤ g ∧ Lie w' g 62 160 (Gd.flat J) ∧ w.grownBy w' none

end Go.Proofs.YtbanjoflgoiegaaGreat
