/-
  A side of a row: whoever its fields are gone through with.
-/
import Derived.Test.YtiegccdgoemamaaWireSmall
import Derived.Test.YtiegccdgoemamaaTurn
import Derived.Handy
import Derived.BigQuiet
namespace Go.Proofs.Ytiegccdgoemamaa
open Go.RowKit

/-- Blocks other than the side's stay; what is the side's then was so, or is new. -/
structure Wr.K (w : World) (B : Nat → Prop) (w' : World) (B' : Nat → Prop) : Prop where
  turn : Turn B w w'
  own : ∀ b, B' b → B b ∨ w.heap.size ≤ b

theorem Wr.K.refl (w : World) (B : Nat → Prop) : Wr.K w B w B := ⟨Turn.refl _ _, fun _ h => .inl h⟩

theorem Wr.K.trans {w x y : World} {B C D : Nat → Prop} (h : Wr.K w B x C) (k : Wr.K x C y D) : Wr.K w B y D :=
  ⟨h.turn.trans k.turn (fun i hi q => (h.own i q).resolve_right (by omega)), fun b q => by
    rcases k.own b q with q | q
    · exact h.own b q
    · exact .inr (Nat.le_trans h.turn.size q)⟩

/-- New blocks ahead. -/
theorem Wr.K.after {w x y : World} {B C : Nat → Prop} (h : w.grownBy x none) (k : Wr.K x B y C) : Wr.K w B y C :=
  ⟨(Turn.new (B := B) h).trans k.turn (fun _ _ q => q), fun b q => (k.own b q).imp id (Nat.le_trans h.size)⟩

/-- New blocks, or stores into such, behind. -/
theorem Wr.K.then {w x y : World} {B C D : Nat → Prop} (h : Wr.K w B x C) (k : Turn D x y) (hD : ∀ b, D b → w.heap.size ≤ b) : Wr.K w B y C :=
  ⟨h.turn.trans k (fun i hi q => absurd (hD i q) (by omega)), h.own⟩

/-- A side: its method, what it holds, and what it does with a field. Lv: it can be reached (a list that is not too long). -/
structure Wr.Side (T : TypeId) (v : Value) (f : FuncId) {σ : Type} (step : σ → Int → Int → Int → Int → σ × Int) (H : World → σ → (Nat → Prop) → Prop) (Lv : σ → Prop) : Prop where
  back : ∀ s n k lo hi, Lv (step s n k lo hi).1 → Lv s
  meth : ∀ k w, Sem.run Try.prog (method (k + 1) T v "adit/wire.field") w = .ok (f, v) w
  call : ∀ (a b c d e : Value) (w : World), Sem.run Try.prog (callFunc f #[a, b, c, d, e]) w = .ok (.enter f #[a, b, c, d, e]) w
  lt : ∀ {w s B}, H w s B → ∀ b, B b → b < w.heap.size
  turned : ∀ {x y s B} {C : Nat → Prop}, H x s B → Turn C x y → (∀ b, B b → ¬ C b) → H y s B
  ans : ∀ s n k lo hi, (step s n k lo hi).2 = 0 ∨ (lo ≤ (step s n k lo hi).2 ∧ (step s n k lo hi).2 ≤ hi) ∨ (step s n k lo hi).2 = n
  field : ∀ w s B n k lo hi, -9223372036854775808 ≤ n → n ≤ 9223372036854775807 → (k = 1 ∨ k = 2 ∨ k = 4) → H w s B → Lv (step s n k lo hi).1 → Calls Try.prog f #[v, .int .i64 n, .int .i64 k, .int .i64 lo, .int .i64 hi] w fun e w' => ∃ B', e = .returned (.int .i64 (step s n k lo hi).2) ∧ H w' (step s n k lo hi).1 B' ∧ Wr.K w B w' B'

section
variable {T : TypeId} {v : Value} {f : FuncId} {σ : Type} {step : σ → Int → Int → Int → Int → σ × Int} {H : World → σ → (Nat → Prop) → Prop} {Lv : σ → Prop} {w x y : World} {s : σ} {B : Nat → Prop}

theorem Wr.Side.on (h : Wr.Side T v f step H Lv) (hs : H x s B) (hg : x.grownBy y none) : H y s B := h.turned hs (Turn.new (B := fun _ => False) hg) (fun _ _ q => q)

theorem Wr.row_cell (w : World) (T : TypeId) (v : Value) : (w.alloc (.cells #[.iface T v] 73)).cell? ⟨w.heap.size, 0, none⟩ = some (.iface T v) := by
  rw [cell_of_row _ _ 0 _ _ (0, 0) (heap_alloc_new w _)]
  rfl

/-- What a call does. -/
def Wr.Does (H : World → σ → (Nat → Prop) → Prop) (w : World) (B : Nat → Prop) (r : σ × Value) (e : Ending) (w' : World) : Prop := ∃ B', e = .returned r.2 ∧ H w' r.1 B' ∧ Wr.K w B w' B'

def Wr.num (r : σ × Int) : σ × Value := (r.1, .int .i64 r.2)

set_option maxRecDepth 8000 in
theorem wNumber_any (h : Wr.Side T v f step H Lv) (n : Int) (n0 : -9223372036854775808 ≤ n) (n1 : n ≤ 9223372036854775807) (hs : H w s B) (hl : Lv (step s n 4 0 1073741823).1) :
    Calls Try.prog 56 #[.agg #[.iface T v], .int .i64 n] w (Wr.Does H w B (Wr.num (step s n 4 0 1073741823))) := by
  have hm := h.meth
  have hc := h.call
  obtain ⟨x, hx⟩ : ∃ x, x = w.alloc (.cells #[.iface T v] 73) := ⟨_, rfl⟩
  have hg : w.grownBy x none := by rw [hx]; exact World.grownBy_alloc _ _ _
  have u0 : x.cell? ⟨w.heap.size, 0, none⟩ = some (.iface T v) := by rw [hx]; exact Wr.row_cell w T v
  obtain ⟨R, hR⟩ : ∃ R, w.heap.size = R := ⟨_, rfl⟩

  have cf := hide (h.field x s B n 4 0 1073741823 n0 n1 (.inr (.inr rfl)) (h.on hs hg) hl)
  have HG := hide hg
  rw [hR] at u0
  clear hg hs hl
  go_enter Try.func56, Try.ntmps56
  go_upto_region 1 with fail
  rw [← hx]
  clear hx hR
  go_wp2_with fail
  refine (unhide cf).mono ?_
  rintro e y ⟨B', rfl, hs', hk⟩
  have hfin : Hid (∃ B', H y _ B' ∧ Wr.K w B y B') := ⟨B', hs', hk.after (unhide HG)⟩
  clear cf hs' hk u0 HG hm hc

  go_wp2
  go_ret
  obtain ⟨B', h1, h2⟩ := unhide hfin
  exact ⟨B', rfl, h1, h2⟩

set_option maxRecDepth 8000 in
theorem wInput_any (h : Wr.Side T v f step H Lv) (n : Int) (n0 : -9223372036854775808 ≤ n) (n1 : n ≤ 9223372036854775807) (hs : H w s B) (hl : Lv (step s n 1 0 10).1) :
    Calls Try.prog 71 #[.agg #[.iface T v], .int .i64 n] w (Wr.Does H w B (Wr.num (step s n 1 0 10))) := by
  have hm := h.meth
  have hc := h.call
  obtain ⟨x, hx⟩ : ∃ x, x = w.alloc (.cells #[.iface T v] 73) := ⟨_, rfl⟩
  have hg : w.grownBy x none := by rw [hx]; exact World.grownBy_alloc _ _ _
  have u0 : x.cell? ⟨w.heap.size, 0, none⟩ = some (.iface T v) := by rw [hx]; exact Wr.row_cell w T v
  obtain ⟨R, hR⟩ : ∃ R, w.heap.size = R := ⟨_, rfl⟩

  have cf := hide (h.field x s B n 1 0 10 n0 n1 (.inl rfl) (h.on hs hg) hl)
  have HG := hide hg
  rw [hR] at u0
  clear hg hs hl
  go_enter Try.func71, Try.ntmps71
  go_upto_region 1 with fail
  rw [← hx]
  clear hx hR
  go_wp2_with fail
  refine (unhide cf).mono ?_
  rintro e y ⟨B', rfl, hs', hk⟩
  have hfin : Hid (∃ B', H y _ B' ∧ Wr.K w B y B') := ⟨B', hs', hk.after (unhide HG)⟩
  clear cf hs' hk u0 HG hm hc

  go_wp2
  go_ret
  obtain ⟨B', h1, h2⟩ := unhide hfin
  exact ⟨B', rfl, h1, h2⟩

set_option maxRecDepth 8000 in
theorem wDatum_any (h : Wr.Side T v f step H Lv) (n : Int) (n0 : 0 ≤ n) (n1 : n ≤ 255) (hs : H w s B) (hl : Lv (step s n 1 0 255).1) :
    Calls Try.prog 69 #[.agg #[.iface T v], .int .u8 n] w (Wr.Does H w B ((step s n 1 0 255).1, .int .u8 ((step s n 1 0 255).2 % 256))) := by
  have hm := h.meth
  have hc := h.call
  obtain ⟨x, hx⟩ : ∃ x, x = w.alloc (.cells #[.iface T v] 73) := ⟨_, rfl⟩
  have hg : w.grownBy x none := by rw [hx]; exact World.grownBy_alloc _ _ _
  have u0 : x.cell? ⟨w.heap.size, 0, none⟩ = some (.iface T v) := by rw [hx]; exact Wr.row_cell w T v
  obtain ⟨R, hR⟩ : ∃ R, w.heap.size = R := ⟨_, rfl⟩
  have hwn : IntKind.i64.wrap n = n := by rw [IntKind.wrap_i64]; omega
  obtain ⟨q, hq⟩ : ∃ q, (step s n 1 0 255).2 = q := ⟨_, rfl⟩
  have hw8 : IntKind.u8.wrap q = q % 256 := IntKind.wrap_u8 q
  have cf := hide (h.field x s B n 1 0 255 (by omega) (by omega) (.inl rfl) (h.on hs hg) hl)
  rw [hq] at cf ⊢
  clear hq
  have HG := hide hg
  rw [hR] at u0
  clear hg hs hl
  go_enter Try.func69, Try.ntmps69
  go_upto_region 1 with fail
  rw [← hx]
  clear hx hR
  go_wp2_with fail
  refine (unhide cf).mono ?_
  rintro e y ⟨B', rfl, hs', hk⟩
  have hfin : Hid (∃ B', H y _ B' ∧ Wr.K w B y B') := ⟨B', hs', hk.after (unhide HG)⟩
  clear cf hs' hk u0 HG hm hc

  go_wp2
  go_ret
  obtain ⟨B', h1, h2⟩ := unhide hfin
  exact ⟨B', rfl, h1, h2⟩

/-- A flag as a number. -/
def Wr.bit (b : Bool) : Int := if b = true then 1 else 0

set_option maxRecDepth 8000 in
theorem wFlag_true (h : Wr.Side T v f step H Lv)   (hs : H w s B) (hl : Lv (step s 1 1 0 1).1) :
    Calls Try.prog 57 #[.agg #[.iface T v], .bool true] w (Wr.Does H w B ((step s 1 1 0 1).1, .bool ((step s 1 1 0 1).2 == 1))) := by
  have hm := h.meth
  have hc := h.call
  obtain ⟨x, hx⟩ : ∃ x, x = w.alloc (.cells #[.iface T v] 73) := ⟨_, rfl⟩
  have hg : w.grownBy x none := by rw [hx]; exact World.grownBy_alloc _ _ _
  have u0 : x.cell? ⟨w.heap.size, 0, none⟩ = some (.iface T v) := by rw [hx]; exact Wr.row_cell w T v
  obtain ⟨R, hR⟩ : ∃ R, w.heap.size = R := ⟨_, rfl⟩
  obtain ⟨q, hq⟩ : ∃ q, (step s 1 1 0 1).2 = q := ⟨_, rfl⟩
  have cf := hide (h.field x s B 1 1 0 1 (by decide) (by decide) (.inl rfl) (h.on hs hg) hl)
  rw [hq] at cf ⊢
  clear hq
  have HG := hide hg
  rw [hR] at u0
  clear hg hs hl
  go_enter Try.func57, Try.ntmps57
  go_upto_region 1 with fail
  rw [← hx]
  clear hx hR
  go_wp2_with fail
  refine (unhide cf).mono ?_
  rintro e y ⟨B', rfl, hs', hk⟩
  have hfin : Hid (∃ B', H y _ B' ∧ Wr.K w B y B') := ⟨B', hs', hk.after (unhide HG)⟩
  clear cf hs' hk u0 HG hm hc

  go_wp2
  go_ret
  obtain ⟨B', h1, h2⟩ := unhide hfin
  exact ⟨B', rfl, h1, h2⟩

set_option maxRecDepth 8000 in
theorem wFlag_false (h : Wr.Side T v f step H Lv)   (hs : H w s B) (hl : Lv (step s 0 1 0 1).1) :
    Calls Try.prog 57 #[.agg #[.iface T v], .bool false] w (Wr.Does H w B ((step s 0 1 0 1).1, .bool ((step s 0 1 0 1).2 == 1))) := by
  have hm := h.meth
  have hc := h.call
  obtain ⟨x, hx⟩ : ∃ x, x = w.alloc (.cells #[.iface T v] 73) := ⟨_, rfl⟩
  have hg : w.grownBy x none := by rw [hx]; exact World.grownBy_alloc _ _ _
  have u0 : x.cell? ⟨w.heap.size, 0, none⟩ = some (.iface T v) := by rw [hx]; exact Wr.row_cell w T v
  obtain ⟨R, hR⟩ : ∃ R, w.heap.size = R := ⟨_, rfl⟩
  obtain ⟨q, hq⟩ : ∃ q, (step s 0 1 0 1).2 = q := ⟨_, rfl⟩
  have cf := hide (h.field x s B 0 1 0 1 (by decide) (by decide) (.inl rfl) (h.on hs hg) hl)
  rw [hq] at cf ⊢
  clear hq
  have HG := hide hg
  rw [hR] at u0
  clear hg hs hl
  go_enter Try.func57, Try.ntmps57
  go_upto_region 1 with fail
  rw [← hx]
  clear hx hR
  go_wp2_with fail
  refine (unhide cf).mono ?_
  rintro e y ⟨B', rfl, hs', hk⟩
  have hfin : Hid (∃ B', H y _ B' ∧ Wr.K w B y B') := ⟨B', hs', hk.after (unhide HG)⟩
  clear cf hs' hk u0 HG hm hc

  go_wp2
  go_ret
  obtain ⟨B', h1, h2⟩ := unhide hfin
  exact ⟨B', rfl, h1, h2⟩

theorem wFlag_any (h : Wr.Side T v f step H Lv) (b : Bool) (hs : H w s B) (hl : Lv (step s (Wr.bit b) 1 0 1).1) :
    Calls Try.prog 57 #[.agg #[.iface T v], .bool b] w (Wr.Does H w B ((step s (Wr.bit b) 1 0 1).1, .bool ((step s (Wr.bit b) 1 0 1).2 == 1))) := by
  cases b with
  | true => exact wFlag_true h hs hl
  | false => exact wFlag_false h hs hl

end

end Go.Proofs.Ytiegccdgoemamaa
