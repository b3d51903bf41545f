/-
  A list of records.
-/
import Derived.Test.YtiegccdgoemamaaWireRec
import Derived.Test.YtiegccdgoemamaaEntMem
namespace Go.Proofs.Ytiegccdgoemamaa
open Go.RowKit

/-- The side behind the first i, and what the i-th is told as. -/
def Wr.st {σ α : Type} (each : σ → α → σ × α) (s : σ) (xs : Nat → α) : Nat → σ
  | 0 => s
  | i + 1 => (each (Wr.st each s xs i) (xs i)).1
def Wr.ou {σ α : Type} (each : σ → α → σ × α) (s : σ) (xs : Nat → α) (i : Nat) : α := (each (Wr.st each s xs i) (xs i)).2

/-- A list of five numbers each, flat. -/
def Wr.flat (z : Nat → Nat → Int) (c : Nat) : Value := .int .i64 (z (c / 5) (c % 5))

/-- The n that there are, none behind. -/
def Wr.pad (n : Nat) (z : Nat → Nat → Int) (i : Nat) : Nat → Int := if i < n then z i else fun _ => 0

/-- The first i are gone past. -/
def Wr.mid (m : Nat → Nat → Int) (xs : Nat → Nat → Int) (i k : Nat) : Nat → Int := if k < i then m k else xs k

theorem wpList_copy_run {P : Program} {w y : World} {ops : Array Oper} {rest : List Oper} {o : Oper} {a : Act} {Q : Exit → Act → World → Prop} (hgd : o.guard = none) (s x : Operand) (t u : TypeId)
    (ho : o.op = .call { callee := .builtin .copy, args := #[s, x], argTypes := #[t, u] }) (v1 v2 v : Value) (hs : a.eval s = v1) (hx : a.eval x = v2) (hrun : (Builtin.copy_ #[t, u] o.type #[v1, v2]).run P w = .ok v y)
    (h : wpList P ops Q rest (a.put o.dst v) y) : wpList P ops Q (o :: rest) a w := by
  refine wpList_plain hgd fun K hK => ?_
  unfold Oper.wp
  simp [execOp, ho, resolve, invoke, builtin, hs, hx, hrun, Result.andThen]
  exact hK _ _ h

theorem info_rec : (Try.prog.info? 50).map (fun i => (i.zero, i.size, i.bytes)) = some (some (.agg #[.int .i64 0, .int .i64 0, .int .i64 0, .int .i64 0, .int .i64 0]), 5, 40) := by kernel_rfl

/-- Records copied over a row of none. -/
theorem Wr.copied (x : World) (O m n c : Nat) (a : Option Addr) (z : Nat → Nat → Int) (hO : Wr.Bx x O 50 (m * 5) (fun _ => .int .i64 0)) (hz : ∀ i, i < n → ∃ b o, a = some ⟨b, o, none⟩ ∧ ∀ j, j < 5 → x.cell? ⟨b, o + i * 5 + j, none⟩ = some (.int .i64 (z i j))) (hn0 : a = none → n = 0) (ty : TypeId) :
    ∃ u y, (Builtin.copy_ #[25, 25] ty #[.slice (some ⟨O, 0, none⟩) m m, .slice a n c]).run Try.prog x = .ok u y ∧ Wr.Bx y O 50 (m * 5) (Wr.flat (Wr.pad n z)) ∧ x.grownBy y (some O) := by
  obtain ⟨arr, hA, hs, hc⟩ := hO
  have hi : (Try.prog.info? 50).map (·.size) = some 5 := by kernel_rfl
  cases a with
  | none =>
    obtain rfl := hn0 rfl
    refine ⟨goInt (Nat.min 0 m), x, ?_, ⟨arr, hA, hs, fun i h => ?_⟩, World.grownBy.refl _ _⟩
    · cases hq : Try.prog.info? 50 with
      | none => simp [hq] at hi
      | some i => simp [Builtin.copy_, run_underlying Try.underlying25, Builtin.lenOf, Builtin.firstCells, sizeOf, typeInfo, hq, storeCells]
    · rw [hc i h]
      unfold Wr.flat Wr.pad
      rw [if_neg (by omega)]
  | some ad =>
    obtain ⟨k, hk⟩ : ∃ k, Nat.min n m = k := ⟨_, rfl⟩
    have hkn : k ≤ n := by rw [← hk]; exact Nat.min_le_left _ _
    have hkm : k ≤ m := by rw [← hk]; exact Nat.min_le_right _ _
    obtain ⟨cs, hcs⟩ : ∃ cs, cs = (List.range (k * 5)).map (Wr.flat z) := ⟨_, rfl⟩
    have hl : cs.length = k * 5 := by rw [hcs]; simp
    have hrun := run_copy_many (P := Try.prog) x 25 25 ty 50 5 O 0 m m ad n c arr 50 cs Try.underlying25 hi hA (by rw [hk, hl]) (fun j u hj => by
      have hjk : j < k * 5 := by
        rw [← hl]
        exact (List.getElem?_eq_some_iff.1 hj).1
      rw [hcs, List.getElem?_map, List.getElem?_range hjk] at hj
      simp only [Option.map_some, Option.some.injEq] at hj
      obtain ⟨b, o, e, hcell⟩ := hz (j / 5) (by omega)
      cases e
      rw [Go.WideShapes.add_plain, ← hj]
      have := hcell (j % 5) (by omega)
      rwa [show o + j / 5 * 5 + j % 5 = o + j by omega] at this) (by rw [hl, hs]; omega) (fun u hu => by
      rw [hcs] at hu
      obtain ⟨q, _, rfl⟩ := List.mem_map.1 hu
      rfl)
    refine ⟨_, _, hrun, ⟨_, setRow_heap x O arr _ _ _ hA, ?_, fun i h => ?_⟩, ⟨rfl, rfl, rfl, by simp [World.setRow], fun q _ hr => setRow_other x O q _ (fun e => hr (by rw [e]))⟩⟩
    · simp [hl, hs]
      omega
    · have ha : arr.toList[i]? = some (.int .i64 0) := by simpa using hc i h
      simp only [List.getElem?_toArray, List.take_zero, List.nil_append, Nat.zero_add]
      rw [List.getElem?_append]
      by_cases hi5 : i < k * 5
      · rw [if_pos (by omega), hcs, List.getElem?_map, List.getElem?_range hi5]
        show some (Value.int .i64 (z (i / 5) (i % 5))) = some (.int .i64 (Wr.pad n z (i / 5) (i % 5)))
        unfold Wr.pad
        rw [if_pos (by omega)]
      · rw [if_neg (by omega), List.getElem?_drop, show cs.length + (i - cs.length) = i by omega, ha]
        show some (Value.int .i64 0) = some (.int .i64 (Wr.pad n z (i / 5) (i % 5)))
        unfold Wr.pad
        have hmin : k = n ∨ k = m := by
          rcases Nat.le_total n m with q | q
          · exact .inl (by rw [← hk]; exact Nat.min_eq_left q)
          · exact .inr (by rw [← hk]; exact Nat.min_eq_right q)
        rw [if_neg (by omega)]

end Go.Proofs.Ytiegccdgoemamaa
