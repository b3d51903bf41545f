/-
  Entities, and lists of them, that come in as arguments: how they lie in memory.
-/
import Derived.Test.YtbooojkhcnfhbaaEntRows
import Derived.Deep.Fields
namespace Go.Proofs.Ytbooojkhcnfhbaa
open Go.RowKit Go.ChangeShapes Go.WideShapes

/-- Eleven fields, each a number of one cell, one behind the other (for the kernel). -/
def En.plain (P : Program) (fs : Array Field) : Bool := fs.size == 11 && (List.range 11).all fun i => match fs[i]? with
  | some f => f.offset == i && f.type == 3 && P.cellsOf f.type == 1
  | none => false

theorem En.plain_at {P : Program} {fs : Array Field} (h : En.plain P fs = true) : ∀ j, j < 11 → ∃ f, fs[j]? = some f ∧ f.offset = j ∧ f.type = 3 ∧ P.cellsOf f.type = 1 := by
  intro j hj
  unfold En.plain at h
  rw [Bool.and_eq_true] at h
  have := List.all_eq_true.1 h.2 j (List.mem_range.2 hj)
  cases hf : fs[j]? with
  | none => rw [hf] at this; cases this
  | some f =>
    rw [hf] at this
    simp only [Bool.and_eq_true, beq_iff_eq] at this
    exact ⟨f, rfl, this.1.1, this.1.2, this.2⟩

/-- The cells of one entity. -/
theorem open_plain {H : Type} {enc : TypeId × Value → H} {w : World} {base : Nat} {sp : Nat → Bool} {held : Bool} {P : Program} {t : TypeId} {fs : Array Field} {fuel : Nat} {cs : List Value} {x : DataW H × List MemPlace} (ht : P.underlying t = some (.struct fs)) (hp : En.plain P fs = true) (hi : P.underlying 3 = some (.int .i64)) (hl : cs.length = 11) (h : DataW.trod enc P w base sp held fuel t cs = some x) :
    ∃ e : Nat → Int, ∀ j, j < 11 → cs[j]? = some (.int .i64 (e j)) := by
  obtain ⟨xs, n, _, _, _, hxl, hf⟩ := DataW.trod_struct ht h
  have hsz : fs.size = 11 := by
    unfold En.plain at hp
    rw [Bool.and_eq_true] at hp
    exact beq_iff_eq.1 hp.1
  refine Go.Deep.choose_lt (α := Int) (p := fun j z => cs[j]? = some (.int .i64 z)) fun j hj => ?_
  obtain ⟨f, h1, h2, h3, h4⟩ := En.plain_at hp j hj
  have g := hf j f h1
  rw [h4, h2, Go.Deep.take1_drop cs j undef (by omega), List.getElem?_eq_getElem (by omega), h3] at g
  obtain ⟨z, hz, _, _⟩ := DataW.trod_int hi g
  refine ⟨z, ?_⟩
  rw [List.getElem?_eq_getElem (by omega)]
  simp only [List.getD_eq_getElem?_getD, List.getElem?_eq_getElem (show j < cs.length by omega), Option.getD_some, List.cons.injEq, and_true] at hz
  rw [hz]

/-- A list of entities that came in. -/
def Arg (w : World) (a : Option Addr) (len cap : Nat) (E : Nat → Nat → Int) : Prop := Came w a len E ∧ (a = none → len = 0 ∧ cap = 0)

theorem open_ents {H : Type} {enc : TypeId × Value → H} {w : World} {base : Nat} {sp : Nat → Bool} {held : Bool} {fuel : Nat} {a : Option Addr} {len cap : Nat} {x : DataW H × List MemPlace} (h : DataW.trod enc Try.prog w base sp held fuel 22 [.slice a len cap] = some x) : ∃ E, Arg w a len cap E := by
  rcases Go.Deep.open_slice Try.underlying22 h with ⟨hcs, _⟩ | ⟨a', len', cap', m, n, D, Pl, hcs, _, hl, hm, hmm, _, hx⟩
  · simp only [List.cons.injEq, Value.slice.injEq, and_true] at hcs
    obtain ⟨rfl, rfl, rfl⟩ := hcs
    exact ⟨fun _ _ => 0, ⟨Nat.zero_le _, .inl rfl⟩, fun _ => ⟨rfl, rfl⟩⟩
  · simp only [List.cons.injEq, Value.slice.injEq, and_true] at hcs
    obtain ⟨rfl, rfl, rfl⟩ := hcs
    have hc11 : Try.prog.cellsOf 24 = 11 := by kernel_rfl
    rw [hc11] at hx
    have hlm : len ≤ m := by rw [hmm]; split <;> omega
    obtain ⟨E, hE⟩ : ∃ E : Nat → Nat → Int, ∀ i, i < len → ∀ j, j < 11 → w.cell? ((a'.add (i * 11)).add j) = some (.int .i64 (E i j)) := by
      refine Go.Deep.choose_lt (α := Nat → Int) (p := fun i e => ∀ j, j < 11 → w.cell? ((a'.add (i * 11)).add j) = some (.int .i64 (e j))) fun i hi => ?_
      obtain ⟨cs', h1, h2⟩ := hx i (by omega)
      obtain ⟨_, hlen, hcell⟩ := World.cells?_some h1
      obtain ⟨e, he⟩ := open_plain Try.underlying24 (by kernel_rfl) Try.underlying3 hlen h2
      exact ⟨e, fun j hj => (hcell j hj).trans (he j hj)⟩
    refine ⟨E, ⟨Nat.le_trans hl hm, ?_⟩, fun e => by cases e⟩
    by_cases h0 : len = 0
    · exact .inl h0
    · right
      obtain ⟨b, off, spot⟩ := a'
      have hc0 := hE 0 (by omega) 0 (by omega)
      have hspot : spot = none := by simpa [Addr.add] using World.cell?_spot hc0
      subst hspot
      have hadd : ∀ i j, ((⟨b, off, none⟩ : Addr).add (i * 11)).add j = ⟨b, off + i * 11 + j, none⟩ := fun i j => by rw [add_plain, add_plain]
      refine ⟨b, off, rfl, ?_, fun i j hi hj => by rw [← hadd]; exact hE i hi j hj⟩
      have h := Go.block_lt_of_cell hc0
      rw [hadd] at h
      exact h

theorem open_ent {H : Type} {enc : TypeId × Value → H} {w : World} {base : Nat} {sp : Nat → Bool} {held : Bool} {r : Reach} {b0 : Nat} {v : Value} {d : DataW H} {ps : List MemPlace} (hv : Value.okWide Try.prog w r b0 24 v) (h : DataW.Trod enc Try.prog w base sp held 24 v d ps) : ∃ e, v = .agg (En.cells e) := by
  obtain ⟨cs, rfl, hsz⟩ := okWide_struct Try.underlying24 hv
  rw [show Try.prog.cellsOf 24 = 11 by kernel_rfl] at hsz
  obtain ⟨fuel, hf⟩ := h
  obtain ⟨e, he⟩ := open_plain Try.underlying24 (by kernel_rfl) Try.underlying3 (by simpa [Value.cells] using hsz) hf
  refine ⟨e, ?_⟩
  congr 1
  apply Array.ext
  · rw [hsz]; rfl
  · intro j hj1 hj2
    have h1 := he j (by omega)
    have h1' : cs[j]? = some (.int .i64 (e j)) := by simpa [Value.cells] using h1
    rw [Array.getElem?_eq_getElem hj1] at h1'
    have h2 : (En.cells e)[j]? = some (.int .i64 (e j)) := by
      rcases (show j = 0 ∨ j = 1 ∨ j = 2 ∨ j = 3 ∨ j = 4 ∨ j = 5 ∨ j = 6 ∨ j = 7 ∨ j = 8 ∨ j = 9 ∨ j = 10 by omega) with rfl | rfl | rfl | rfl | rfl | rfl | rfl | rfl | rfl | rfl | rfl <;> rfl
    rw [Array.getElem?_eq_getElem hj2] at h2
    exact (Option.some.inj h1').trans (Option.some.inj h2).symm

end Go.Proofs.Ytbooojkhcnfhbaa
