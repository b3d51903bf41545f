/-
  A row of inputs; a record.
-/
import Derived.Test.YtiegccdgoemamaaWireBox
namespace Go.Proofs.Ytiegccdgoemamaa
open Go.RowKit

/-- A record's cells. -/
def Wr.rcd (r : Nat → Int) : Array Value := #[.int .i64 (r 0), .int .i64 (r 1), .int .i64 (r 2), .int .i64 (r 3), .int .i64 (r 4)]
def Wr.rcells (r : Nat → Int) (j : Nat) : Value := .int .i64 (r j)

theorem Wr.rcd_at (r : Nat → Int) (j : Nat) (hj : j < 5) : (Wr.rcd r)[j]? = some (Wr.rcells r j) := by
  rcases (show j = 0 ∨ j = 1 ∨ j = 2 ∨ j = 3 ∨ j = 4 by omega) with rfl | rfl | rfl | rfl | rfl <;> rfl

/-- One number is another. -/
def Wr.upd (r : Nat → Int) (k : Nat) (a : Int) (j : Nat) : Int := if j = k then a else r j

theorem Wr.upd_cells (r : Nat → Int) (k : Nat) (a : Int) : (fun j => if j = k then Value.int .i64 a else Wr.rcells r j) = Wr.rcells (Wr.upd r k a) := by
  funext j
  unfold Wr.rcells Wr.upd
  by_cases e : j = k
  · rw [if_pos e, if_pos e]
  · rw [if_neg e, if_neg e]

theorem Wr.five {x : World} {g : Nat} {ty : TypeId} {r : Nat → Int} (h : Wr.Bx x g ty 5 (Wr.rcells r)) : x.cell? ⟨g, 0, none⟩ = some (.int .i64 (r 0)) ∧ x.cell? ⟨g, 1, none⟩ = some (.int .i64 (r 1)) ∧ x.cell? ⟨g, 2, none⟩ = some (.int .i64 (r 2)) ∧ x.cell? ⟨g, 3, none⟩ = some (.int .i64 (r 3)) ∧ x.cell? ⟨g, 4, none⟩ = some (.int .i64 (r 4)) :=
  ⟨h.cell (i := 0) (by omega), h.cell (i := 1) (by omega), h.cell (i := 2) (by omega), h.cell (i := 3) (by omega), h.cell (i := 4) (by omega)⟩

section
variable {T : TypeId} {v : Value} {f : FuncId} {σ : Type} {step : σ → Int → Int → Int → Int → σ × Int} {H : World → σ → (Nat → Prop) → Prop} {Lv : σ → Prop} {w x y : World} {s : σ} {B : Nat → Prop}

/-- What a record's kind names. -/
def Wr.recS (step : σ → Int → Int → Int → Int → σ × Int) (s : σ) (r : Nat → Int) : σ × (Nat → Int) :=
  let a := step s (r 0) 1 1 3
  if a.2 = 1 then
    let b := Wr.input step a.1 (r 1)
    (b.1, Wr.upd (Wr.upd r 0 a.2) 1 b.2)
  else if a.2 = 2 ∨ a.2 = 3 then
    let b := step a.1 (r 2) 1 0 3
    let c := step b.1 (r 3) 4 0 1073741823
    if a.2 = 3 then
      let d := step c.1 (r 4) 4 0 1073741823
      (d.1, Wr.upd (Wr.upd (Wr.upd (Wr.upd r 0 a.2) 2 b.2) 3 c.2) 4 d.2)
    else (c.1, Wr.upd (Wr.upd (Wr.upd r 0 a.2) 2 b.2) 3 c.2)
  else (a.1, Wr.upd r 0 a.2)

theorem Wr.recS_first (h : Wr.Side T v f step H Lv) {r : Nat → Int} (q : Lv (Wr.recS step s r).1) : Lv (step s (r 0) 1 1 3).1 := by
  unfold Wr.recS Wr.input at q
  dsimp only at q
  split at q
  · exact h.back _ _ _ _ _ q
  · split at q
    · split at q
      · exact h.back _ _ _ _ _ (h.back _ _ _ _ _ (h.back _ _ _ _ _ q))
      · exact h.back _ _ _ _ _ (h.back _ _ _ _ _ q)
    · exact q

theorem Wr.recS_back (h : Wr.Side T v f step H Lv) (s : σ) (r : Nat → Int) (q : Lv (Wr.recS step s r).1) : Lv s := h.back _ _ _ _ _ (Wr.recS_first h q)

set_option maxRecDepth 8000 in
theorem wInputs_any (h : Wr.Side T v f step H Lv) (a : Option Addr) (n c : Nat) (z : Nat → Int) (hn : n ≤ 1048576)
    (hz : ∀ i, i < n → ∃ b o, a = some ⟨b, o, none⟩ ∧ b < w.heap.size ∧ ¬ B b ∧ w.cell? ⟨b, o + i, none⟩ = some (.int .i64 (z i)) ∧ -9223372036854775808 ≤ z i ∧ z i ≤ 9223372036854775807) (hs : H w s B) (hl : Lv (Wr.listS step (Wr.input step) s n 1 255 z).1) :
    Calls Try.prog 64 #[.agg #[.iface T v], .slice a n c] w (Wr.Lists H w B (fun l => l.map (Value.int .i64)) 3 (Wr.listS step (Wr.input step) s n 1 255 z)) := by
  obtain ⟨x, hx⟩ : ∃ x, x = w.alloc (.cells #[.iface T v] 73) := ⟨_, rfl⟩
  have hg : w.grownBy x none := by rw [hx]; exact World.grownBy_alloc _ _ _
  have u0 : x.cell? ⟨w.heap.size, 0, none⟩ = some (.iface T v) := by rw [hx]; exact Wr.row_cell w T v
  obtain ⟨R, hR⟩ : ∃ R, w.heap.size = R := ⟨_, rfl⟩
  have cf := hide (wListInt_any h a n c 1 255 (.inl rfl) z hn (by omega) (fun i hi => by
    obtain ⟨b, o, h1, h2, h3, h4, h5⟩ := hz i hi
    exact ⟨b, o, h1, Nat.lt_of_lt_of_le h2 hg.size, h3, (grown_cell hg b (o + i) h2 (by simp)).trans h4, h5⟩) (h.on hs hg) hl)
  have HG := hide hg
  have HR := hide hR
  rw [hR] at u0
  clear hg hs hz hl
  go_enter Try.func64, Try.ntmps64
  go_upto_region 1 with fail
  rw [← hx]
  clear hx
  go_wp2_with fail
  refine (unhide cf).mono ?_
  rintro e y ⟨B', O, rfl, h1, h2, h3, h4, h5⟩
  have hfin : Hid (∃ B', w.heap.size ≤ O ∧ ¬ B' O ∧ y.heap[O]? = _ ∧ H y _ B' ∧ Wr.K w B y B') := ⟨B', Nat.le_trans (unhide HG).size h1, h2, h3, h4, h5.after (unhide HG)⟩
  clear cf h1 h2 h3 h4 h5 u0 HG HR
  go_wp2
  go_ret
  obtain ⟨B', h1, h2, h3, h4, h5⟩ := unhide hfin
  exact ⟨B', O, rfl, h1, h2, h3, h4, h5⟩

set_option maxRecDepth 16000 in
set_option maxHeartbeats 6400000 in
theorem wRecord_any (h : Wr.Side T v f step H Lv) (r : Nat → Int) (hr : ∀ j, -9223372036854775808 ≤ r j ∧ r j ≤ 9223372036854775807) (hs : H w s B) (hl : Lv (Wr.recS step s r).1) :
    Calls Try.prog 67 #[.agg #[.iface T v], .agg (Wr.rcd r)] w (Wr.Does H w B ((Wr.recS step s r).1, .agg (Wr.rcd (Wr.recS step s r).2))) := by
  have hm := h.meth
  have hc := h.call
  obtain ⟨x, hx⟩ : ∃ x, x = ((w.alloc (.cells #[.iface T v] 73)).alloc (.cells (Wr.rcd r) 50)).alloc (.cells (Wr.rcd fun _ => 0) 50) := ⟨_, rfl⟩
  have I0 : Hid (Wr.In H w x B s B T v w.heap.size (w.heap.size + 1) (w.heap.size + 1 + 1) 50 5 (Wr.rcells r)) := by
    show Wr.In H w x B s B T v _ _ _ _ _ _
    rw [hx]
    exact Wr.In.first h hs _ _ rfl (fun i hi => Wr.rcd_at r i hi) rfl
  have HR := hide hr
  have HLV := hide hl
  obtain ⟨R, hR⟩ : ∃ R, w.heap.size = R := ⟨_, rfl⟩
  rw [hR] at I0
  clear hs hr hl
  unfold Wr.rcd at hx
  go_enter Try.func67, Try.ntmps67
  unfold Wr.rcd
  go_upto_region 1 with fail
  rw [← hx]
  clear hx hR
  obtain ⟨M, hM⟩ : ∃ M, R + 1 = M := ⟨_, rfl⟩
  rw [hM] at I0 ⊢
  obtain ⟨Z, hZ⟩ : ∃ Z, M + 1 = Z := ⟨_, rfl⟩
  rw [hZ] at I0 ⊢
  clear hM hZ
  have c0 : x.cell? ⟨M, 0, none⟩ = some (.int .i64 (r 0)) := (unhide I0).box.cell (i := 0) (by omega)
  have c1 : x.cell? ⟨M, 1, none⟩ = some (.int .i64 (r 1)) := (unhide I0).box.cell (i := 1) (by omega)
  have c2 : x.cell? ⟨M, 2, none⟩ = some (.int .i64 (r 2)) := (unhide I0).box.cell (i := 2) (by omega)
  have c3 : x.cell? ⟨M, 3, none⟩ = some (.int .i64 (r 3)) := (unhide I0).box.cell (i := 3) (by omega)
  have c4 : x.cell? ⟨M, 4, none⟩ = some (.int .i64 (r 4)) := (unhide I0).box.cell (i := 4) (by omega)
  have u0 := (unhide I0).row
  have fM := (unhide I0).box.free
  obtain ⟨p1, hp1⟩ : ∃ p, step s (r 0) 1 1 3 = p := ⟨_, rfl⟩
  obtain ⟨s1, a1⟩ := p1
  have cf := hide (h.field _ _ _ (r 0) 1 1 3 (unhide HR 0).1 (unhide HR 0).2 (.inl rfl) (unhide I0).held (Wr.recS_first h (unhide HLV)))
  rw [hp1] at cf
  try dsimp only [Wr.num] at cf
  have HP1 := hide hp1
  clear hp1
  go_wp2_with fail
  refine (unhide cf).mono ?_
  rintro e y ⟨B1, rfl, hs2, hk2⟩
  have I0n := hide ((unhide I0).next hs2 hk2)
  have c0' : y.cell? ⟨M, 0, none⟩ = some (.int .i64 (r 0)) := (unhide I0n).box.cell (i := 0) (by omega)
  have f0' := (unhide I0n).box.free
  have I1 := hide ((unhide I0n).put h 0 (.int .i64 a1))
  rw [Wr.upd_cells] at I1
  clear cf hs2 hk2 I0 I0n c0 c1 c2 c3 c4 u0 fM
  go_upto_region 2 with fail
  obtain ⟨ys, hys⟩ : ∃ z, y.setCell ⟨M, 0, none⟩ (.int .i64 a1) = z := ⟨_, rfl⟩
  rw [hys] at I1 ⊢
  clear hys c0' f0' y

  by_cases e1 : a1 = 1
  · subst e1
    have c0 : ys.cell? ⟨M, 0, none⟩ = some (.int .i64 (1)) := (unhide I1).box.cell (i := 0) (by omega)
    have c1 : ys.cell? ⟨M, 1, none⟩ = some (.int .i64 (r 1)) := (unhide I1).box.cell (i := 1) (by omega)
    have c2 : ys.cell? ⟨M, 2, none⟩ = some (.int .i64 (r 2)) := (unhide I1).box.cell (i := 2) (by omega)
    have c3 : ys.cell? ⟨M, 3, none⟩ = some (.int .i64 (r 3)) := (unhide I1).box.cell (i := 3) (by omega)
    have c4 : ys.cell? ⟨M, 4, none⟩ = some (.int .i64 (r 4)) := (unhide I1).box.cell (i := 4) (by omega)
    have u0 := (unhide I1).row
    have fM := (unhide I1).box.free
    obtain ⟨p2, hp2⟩ : ∃ p, step s1 (r 1) 1 0 10 = p := ⟨_, rfl⟩
    obtain ⟨s2, a2⟩ := p2
    have cf := hide (wInput_any h (r 1) (unhide HR 1).1 (unhide HR 1).2 (unhide I1).held (by have q := unhide HLV; unfold Wr.recS Wr.input at q; simp [unhide HP1] at q; first | exact q | exact h.back _ _ _ _ _ q | exact h.back _ _ _ _ _ (h.back _ _ _ _ _ q)))
    rw [hp2] at cf
    try dsimp only [Wr.num] at cf
    have HP2 := hide hp2
    clear hp2
    go_wp2_with fail
    refine (unhide cf).mono ?_
    rintro e y2 ⟨B2, rfl, hs2, hk2⟩
    have I1n := hide ((unhide I1).next hs2 hk2)
    have c1' : y2.cell? ⟨M, 1, none⟩ = some (.int .i64 (r 1)) := (unhide I1n).box.cell (i := 1) (by omega)
    have f1' := (unhide I1n).box.free
    have I2 := hide ((unhide I1n).put h 1 (.int .i64 a2))
    rw [Wr.upd_cells] at I2
    clear cf hs2 hk2 I1 I1n c0 c1 c2 c3 c4 u0 fM
    go_upto_region 9 with fail
    obtain ⟨y2s, hy2s⟩ : ∃ z, y2.setCell ⟨M, 1, none⟩ (.int .i64 a2) = z := ⟨_, rfl⟩
    rw [hy2s] at I2 ⊢
    clear hy2s c1' f1' y2

    have c0 : y2s.cell? ⟨M, 0, none⟩ = some (.int .i64 (1)) := (unhide I2).box.cell (i := 0) (by omega)
    have c1 : y2s.cell? ⟨M, 1, none⟩ = some (.int .i64 (a2)) := (unhide I2).box.cell (i := 1) (by omega)
    have c2 : y2s.cell? ⟨M, 2, none⟩ = some (.int .i64 (r 2)) := (unhide I2).box.cell (i := 2) (by omega)
    have c3 : y2s.cell? ⟨M, 3, none⟩ = some (.int .i64 (r 3)) := (unhide I2).box.cell (i := 3) (by omega)
    have c4 : y2s.cell? ⟨M, 4, none⟩ = some (.int .i64 (r 4)) := (unhide I2).box.cell (i := 4) (by omega)
    have u0 := (unhide I2).row
    have fM := (unhide I2).box.free
    obtain ⟨q, hq⟩ := (unhide I2).res
    have fz := hq.free
    have z0 : y2s.cell? ⟨Z, 0, none⟩ = some (q 0) := hq.cell (i := 0) (by omega)
    have z1 : y2s.cell? ⟨Z, 1, none⟩ = some (q 1) := hq.cell (i := 1) (by omega)
    have z2 : y2s.cell? ⟨Z, 2, none⟩ = some (q 2) := hq.cell (i := 2) (by omega)
    have z3 : y2s.cell? ⟨Z, 3, none⟩ = some (q 3) := hq.cell (i := 3) (by omega)
    have z4 : y2s.cell? ⟨Z, 4, none⟩ = some (q 4) := hq.cell (i := 4) (by omega)
    have he : Hid (Wr.recS step s r = (s2, (Wr.upd (Wr.upd r 0 1) 1 a2))) := (show _ = _ by unfold Wr.recS Wr.input; simp [unhide HP1, unhide HP2])
    have hfo := hide (fun vs => (unhide I2).last h vs)
    clear I2 hq
    go_wp2
    refine bodyPost_ret (v := .agg (Wr.rcd (Wr.upd (Wr.upd r 0 1) 1 a2))) (by simp [results, Try.results67, go_sem, Wr.rcd, Wr.upd, z0, z1, z2, z3, z4]) rfl ?_
    obtain ⟨B9, h1, h2⟩ := unhide hfo [_, _, _, _, _]
    exact ⟨B9, by rw [unhide he]; rfl, by rw [unhide he]; exact h1, h2⟩

  have n1 : (a1 == 1) = false := by simp [e1]
  by_cases e2 : a1 = 2
  · subst e2
    have c0 : ys.cell? ⟨M, 0, none⟩ = some (.int .i64 (2)) := (unhide I1).box.cell (i := 0) (by omega)
    have c1 : ys.cell? ⟨M, 1, none⟩ = some (.int .i64 (r 1)) := (unhide I1).box.cell (i := 1) (by omega)
    have c2 : ys.cell? ⟨M, 2, none⟩ = some (.int .i64 (r 2)) := (unhide I1).box.cell (i := 2) (by omega)
    have c3 : ys.cell? ⟨M, 3, none⟩ = some (.int .i64 (r 3)) := (unhide I1).box.cell (i := 3) (by omega)
    have c4 : ys.cell? ⟨M, 4, none⟩ = some (.int .i64 (r 4)) := (unhide I1).box.cell (i := 4) (by omega)
    have u0 := (unhide I1).row
    have fM := (unhide I1).box.free
    obtain ⟨p2, hp2⟩ : ∃ p, step s1 (r 2) 1 0 3 = p := ⟨_, rfl⟩
    obtain ⟨s2, a2⟩ := p2
    have cf := hide (h.field _ _ _ (r 2) 1 0 3 (unhide HR 2).1 (unhide HR 2).2 (.inl rfl) (unhide I1).held (by have q := unhide HLV; unfold Wr.recS Wr.input at q; simp [unhide HP1] at q; first | exact q | exact h.back _ _ _ _ _ q | exact h.back _ _ _ _ _ (h.back _ _ _ _ _ q)))
    rw [hp2] at cf
    try dsimp only [Wr.num] at cf
    have HP2 := hide hp2
    clear hp2
    go_wp2_with fail
    refine (unhide cf).mono ?_
    rintro e y2 ⟨B2, rfl, hs2, hk2⟩
    have I1n := hide ((unhide I1).next hs2 hk2)
    have c2' : y2.cell? ⟨M, 2, none⟩ = some (.int .i64 (r 2)) := (unhide I1n).box.cell (i := 2) (by omega)
    have f2' := (unhide I1n).box.free
    have I2 := hide ((unhide I1n).put h 2 (.int .i64 a2))
    rw [Wr.upd_cells] at I2
    clear cf hs2 hk2 I1 I1n c0 c1 c2 c3 c4 u0 fM
    go_upto_region 8 with fail
    obtain ⟨y2s, hy2s⟩ : ∃ z, y2.setCell ⟨M, 2, none⟩ (.int .i64 a2) = z := ⟨_, rfl⟩
    rw [hy2s] at I2 ⊢
    clear hy2s c2' f2' y2

    have c0 : y2s.cell? ⟨M, 0, none⟩ = some (.int .i64 (2)) := (unhide I2).box.cell (i := 0) (by omega)
    have c1 : y2s.cell? ⟨M, 1, none⟩ = some (.int .i64 (r 1)) := (unhide I2).box.cell (i := 1) (by omega)
    have c2 : y2s.cell? ⟨M, 2, none⟩ = some (.int .i64 (a2)) := (unhide I2).box.cell (i := 2) (by omega)
    have c3 : y2s.cell? ⟨M, 3, none⟩ = some (.int .i64 (r 3)) := (unhide I2).box.cell (i := 3) (by omega)
    have c4 : y2s.cell? ⟨M, 4, none⟩ = some (.int .i64 (r 4)) := (unhide I2).box.cell (i := 4) (by omega)
    have u0 := (unhide I2).row
    have fM := (unhide I2).box.free
    obtain ⟨p3, hp3⟩ : ∃ p, step s2 (r 3) 4 0 1073741823 = p := ⟨_, rfl⟩
    obtain ⟨s3, a3⟩ := p3
    have cf := hide (wNumber_any h (r 3) (unhide HR 3).1 (unhide HR 3).2 (unhide I2).held (by have q := unhide HLV; unfold Wr.recS Wr.input at q; simp [unhide HP1, unhide HP2] at q; first | exact q | exact h.back _ _ _ _ _ q | exact h.back _ _ _ _ _ (h.back _ _ _ _ _ q)))
    rw [hp3] at cf
    try dsimp only [Wr.num] at cf
    have HP3 := hide hp3
    clear hp3
    go_wp2_with fail
    refine (unhide cf).mono ?_
    rintro e y3 ⟨B3, rfl, hs2, hk2⟩
    have I2n := hide ((unhide I2).next hs2 hk2)
    have c3' : y3.cell? ⟨M, 3, none⟩ = some (.int .i64 (r 3)) := (unhide I2n).box.cell (i := 3) (by omega)
    have f3' := (unhide I2n).box.free
    have I3 := hide ((unhide I2n).put h 3 (.int .i64 a3))
    rw [Wr.upd_cells] at I3
    clear cf hs2 hk2 I2 I2n c0 c1 c2 c3 c4 u0 fM
    go_upto_region 9 with fail
    obtain ⟨y3s, hy3s⟩ : ∃ z, y3.setCell ⟨M, 3, none⟩ (.int .i64 a3) = z := ⟨_, rfl⟩
    rw [hy3s] at I3 ⊢
    clear hy3s c3' f3' y3

    have c0 : y3s.cell? ⟨M, 0, none⟩ = some (.int .i64 (2)) := (unhide I3).box.cell (i := 0) (by omega)
    have c1 : y3s.cell? ⟨M, 1, none⟩ = some (.int .i64 (r 1)) := (unhide I3).box.cell (i := 1) (by omega)
    have c2 : y3s.cell? ⟨M, 2, none⟩ = some (.int .i64 (a2)) := (unhide I3).box.cell (i := 2) (by omega)
    have c3 : y3s.cell? ⟨M, 3, none⟩ = some (.int .i64 (a3)) := (unhide I3).box.cell (i := 3) (by omega)
    have c4 : y3s.cell? ⟨M, 4, none⟩ = some (.int .i64 (r 4)) := (unhide I3).box.cell (i := 4) (by omega)
    have u0 := (unhide I3).row
    have fM := (unhide I3).box.free
    obtain ⟨q, hq⟩ := (unhide I3).res
    have fz := hq.free
    have z0 : y3s.cell? ⟨Z, 0, none⟩ = some (q 0) := hq.cell (i := 0) (by omega)
    have z1 : y3s.cell? ⟨Z, 1, none⟩ = some (q 1) := hq.cell (i := 1) (by omega)
    have z2 : y3s.cell? ⟨Z, 2, none⟩ = some (q 2) := hq.cell (i := 2) (by omega)
    have z3 : y3s.cell? ⟨Z, 3, none⟩ = some (q 3) := hq.cell (i := 3) (by omega)
    have z4 : y3s.cell? ⟨Z, 4, none⟩ = some (q 4) := hq.cell (i := 4) (by omega)
    have he : Hid (Wr.recS step s r = (s3, (Wr.upd (Wr.upd (Wr.upd r 0 2) 2 a2) 3 a3))) := (show _ = _ by unfold Wr.recS Wr.input; simp [unhide HP1, unhide HP2, unhide HP3])
    have hfo := hide (fun vs => (unhide I3).last h vs)
    clear I3 hq
    go_wp2
    refine bodyPost_ret (v := .agg (Wr.rcd (Wr.upd (Wr.upd (Wr.upd r 0 2) 2 a2) 3 a3))) (by simp [results, Try.results67, go_sem, Wr.rcd, Wr.upd, z0, z1, z2, z3, z4]) rfl ?_
    obtain ⟨B9, h1, h2⟩ := unhide hfo [_, _, _, _, _]
    exact ⟨B9, by rw [unhide he]; rfl, by rw [unhide he]; exact h1, h2⟩

  have n2 : (a1 == 2) = false := by simp [e2]
  by_cases e3 : a1 = 3
  · subst e3
    have c0 : ys.cell? ⟨M, 0, none⟩ = some (.int .i64 (3)) := (unhide I1).box.cell (i := 0) (by omega)
    have c1 : ys.cell? ⟨M, 1, none⟩ = some (.int .i64 (r 1)) := (unhide I1).box.cell (i := 1) (by omega)
    have c2 : ys.cell? ⟨M, 2, none⟩ = some (.int .i64 (r 2)) := (unhide I1).box.cell (i := 2) (by omega)
    have c3 : ys.cell? ⟨M, 3, none⟩ = some (.int .i64 (r 3)) := (unhide I1).box.cell (i := 3) (by omega)
    have c4 : ys.cell? ⟨M, 4, none⟩ = some (.int .i64 (r 4)) := (unhide I1).box.cell (i := 4) (by omega)
    have u0 := (unhide I1).row
    have fM := (unhide I1).box.free
    obtain ⟨p2, hp2⟩ : ∃ p, step s1 (r 2) 1 0 3 = p := ⟨_, rfl⟩
    obtain ⟨s2, a2⟩ := p2
    have cf := hide (h.field _ _ _ (r 2) 1 0 3 (unhide HR 2).1 (unhide HR 2).2 (.inl rfl) (unhide I1).held (by have q := unhide HLV; unfold Wr.recS Wr.input at q; simp [unhide HP1] at q; first | exact q | exact h.back _ _ _ _ _ q | exact h.back _ _ _ _ _ (h.back _ _ _ _ _ q)))
    rw [hp2] at cf
    try dsimp only [Wr.num] at cf
    have HP2 := hide hp2
    clear hp2
    go_wp2_with fail
    refine (unhide cf).mono ?_
    rintro e y2 ⟨B2, rfl, hs2, hk2⟩
    have I1n := hide ((unhide I1).next hs2 hk2)
    have c2' : y2.cell? ⟨M, 2, none⟩ = some (.int .i64 (r 2)) := (unhide I1n).box.cell (i := 2) (by omega)
    have f2' := (unhide I1n).box.free
    have I2 := hide ((unhide I1n).put h 2 (.int .i64 a2))
    rw [Wr.upd_cells] at I2
    clear cf hs2 hk2 I1 I1n c0 c1 c2 c3 c4 u0 fM
    go_upto_region 8 with fail
    obtain ⟨y2s, hy2s⟩ : ∃ z, y2.setCell ⟨M, 2, none⟩ (.int .i64 a2) = z := ⟨_, rfl⟩
    rw [hy2s] at I2 ⊢
    clear hy2s c2' f2' y2

    have c0 : y2s.cell? ⟨M, 0, none⟩ = some (.int .i64 (3)) := (unhide I2).box.cell (i := 0) (by omega)
    have c1 : y2s.cell? ⟨M, 1, none⟩ = some (.int .i64 (r 1)) := (unhide I2).box.cell (i := 1) (by omega)
    have c2 : y2s.cell? ⟨M, 2, none⟩ = some (.int .i64 (a2)) := (unhide I2).box.cell (i := 2) (by omega)
    have c3 : y2s.cell? ⟨M, 3, none⟩ = some (.int .i64 (r 3)) := (unhide I2).box.cell (i := 3) (by omega)
    have c4 : y2s.cell? ⟨M, 4, none⟩ = some (.int .i64 (r 4)) := (unhide I2).box.cell (i := 4) (by omega)
    have u0 := (unhide I2).row
    have fM := (unhide I2).box.free
    obtain ⟨p3, hp3⟩ : ∃ p, step s2 (r 3) 4 0 1073741823 = p := ⟨_, rfl⟩
    obtain ⟨s3, a3⟩ := p3
    have cf := hide (wNumber_any h (r 3) (unhide HR 3).1 (unhide HR 3).2 (unhide I2).held (by have q := unhide HLV; unfold Wr.recS Wr.input at q; simp [unhide HP1, unhide HP2] at q; first | exact q | exact h.back _ _ _ _ _ q | exact h.back _ _ _ _ _ (h.back _ _ _ _ _ q)))
    rw [hp3] at cf
    try dsimp only [Wr.num] at cf
    have HP3 := hide hp3
    clear hp3
    go_wp2_with fail
    refine (unhide cf).mono ?_
    rintro e y3 ⟨B3, rfl, hs2, hk2⟩
    have I2n := hide ((unhide I2).next hs2 hk2)
    have c3' : y3.cell? ⟨M, 3, none⟩ = some (.int .i64 (r 3)) := (unhide I2n).box.cell (i := 3) (by omega)
    have f3' := (unhide I2n).box.free
    have I3 := hide ((unhide I2n).put h 3 (.int .i64 a3))
    rw [Wr.upd_cells] at I3
    clear cf hs2 hk2 I2 I2n c0 c1 c2 c3 c4 u0 fM
    go_upto_region 9 with fail
    obtain ⟨y3s, hy3s⟩ : ∃ z, y3.setCell ⟨M, 3, none⟩ (.int .i64 a3) = z := ⟨_, rfl⟩
    rw [hy3s] at I3 ⊢
    clear hy3s c3' f3' y3

    have c0 : y3s.cell? ⟨M, 0, none⟩ = some (.int .i64 (3)) := (unhide I3).box.cell (i := 0) (by omega)
    have c1 : y3s.cell? ⟨M, 1, none⟩ = some (.int .i64 (r 1)) := (unhide I3).box.cell (i := 1) (by omega)
    have c2 : y3s.cell? ⟨M, 2, none⟩ = some (.int .i64 (a2)) := (unhide I3).box.cell (i := 2) (by omega)
    have c3 : y3s.cell? ⟨M, 3, none⟩ = some (.int .i64 (a3)) := (unhide I3).box.cell (i := 3) (by omega)
    have c4 : y3s.cell? ⟨M, 4, none⟩ = some (.int .i64 (r 4)) := (unhide I3).box.cell (i := 4) (by omega)
    have u0 := (unhide I3).row
    have fM := (unhide I3).box.free
    obtain ⟨p4, hp4⟩ : ∃ p, step s3 (r 4) 4 0 1073741823 = p := ⟨_, rfl⟩
    obtain ⟨s4, a4⟩ := p4
    have cf := hide (wNumber_any h (r 4) (unhide HR 4).1 (unhide HR 4).2 (unhide I3).held (by have q := unhide HLV; unfold Wr.recS Wr.input at q; simp [unhide HP1, unhide HP2, unhide HP3] at q; first | exact q | exact h.back _ _ _ _ _ q | exact h.back _ _ _ _ _ (h.back _ _ _ _ _ q)))
    rw [hp4] at cf
    try dsimp only [Wr.num] at cf
    have HP4 := hide hp4
    clear hp4
    go_wp2_with fail
    refine (unhide cf).mono ?_
    rintro e y4 ⟨B4, rfl, hs2, hk2⟩
    have I3n := hide ((unhide I3).next hs2 hk2)
    have c4' : y4.cell? ⟨M, 4, none⟩ = some (.int .i64 (r 4)) := (unhide I3n).box.cell (i := 4) (by omega)
    have f4' := (unhide I3n).box.free
    have I4 := hide ((unhide I3n).put h 4 (.int .i64 a4))
    rw [Wr.upd_cells] at I4
    clear cf hs2 hk2 I3 I3n c0 c1 c2 c3 c4 u0 fM
    go_upto_region 11 with fail
    obtain ⟨y4s, hy4s⟩ : ∃ z, y4.setCell ⟨M, 4, none⟩ (.int .i64 a4) = z := ⟨_, rfl⟩
    rw [hy4s] at I4 ⊢
    clear hy4s c4' f4' y4

    have c0 : y4s.cell? ⟨M, 0, none⟩ = some (.int .i64 (3)) := (unhide I4).box.cell (i := 0) (by omega)
    have c1 : y4s.cell? ⟨M, 1, none⟩ = some (.int .i64 (r 1)) := (unhide I4).box.cell (i := 1) (by omega)
    have c2 : y4s.cell? ⟨M, 2, none⟩ = some (.int .i64 (a2)) := (unhide I4).box.cell (i := 2) (by omega)
    have c3 : y4s.cell? ⟨M, 3, none⟩ = some (.int .i64 (a3)) := (unhide I4).box.cell (i := 3) (by omega)
    have c4 : y4s.cell? ⟨M, 4, none⟩ = some (.int .i64 (a4)) := (unhide I4).box.cell (i := 4) (by omega)
    have u0 := (unhide I4).row
    have fM := (unhide I4).box.free
    obtain ⟨q, hq⟩ := (unhide I4).res
    have fz := hq.free
    have z0 : y4s.cell? ⟨Z, 0, none⟩ = some (q 0) := hq.cell (i := 0) (by omega)
    have z1 : y4s.cell? ⟨Z, 1, none⟩ = some (q 1) := hq.cell (i := 1) (by omega)
    have z2 : y4s.cell? ⟨Z, 2, none⟩ = some (q 2) := hq.cell (i := 2) (by omega)
    have z3 : y4s.cell? ⟨Z, 3, none⟩ = some (q 3) := hq.cell (i := 3) (by omega)
    have z4 : y4s.cell? ⟨Z, 4, none⟩ = some (q 4) := hq.cell (i := 4) (by omega)
    have he : Hid (Wr.recS step s r = (s4, (Wr.upd (Wr.upd (Wr.upd (Wr.upd r 0 3) 2 a2) 3 a3) 4 a4))) := (show _ = _ by unfold Wr.recS Wr.input; simp [unhide HP1, unhide HP2, unhide HP3, unhide HP4])
    have hfo := hide (fun vs => (unhide I4).last h vs)
    clear I4 hq
    go_wp2
    refine bodyPost_ret (v := .agg (Wr.rcd (Wr.upd (Wr.upd (Wr.upd (Wr.upd r 0 3) 2 a2) 3 a3) 4 a4))) (by simp [results, Try.results67, go_sem, Wr.rcd, Wr.upd, z0, z1, z2, z3, z4]) rfl ?_
    obtain ⟨B9, h1, h2⟩ := unhide hfo [_, _, _, _, _]
    exact ⟨B9, by rw [unhide he]; rfl, by rw [unhide he]; exact h1, h2⟩

  have n3 : (a1 == 3) = false := by simp [e3]
  have E := hide (And.intro e1 (And.intro e2 e3))
  clear e1 e2 e3
  have c0 : ys.cell? ⟨M, 0, none⟩ = some (.int .i64 (a1)) := (unhide I1).box.cell (i := 0) (by omega)
  have c1 : ys.cell? ⟨M, 1, none⟩ = some (.int .i64 (r 1)) := (unhide I1).box.cell (i := 1) (by omega)
  have c2 : ys.cell? ⟨M, 2, none⟩ = some (.int .i64 (r 2)) := (unhide I1).box.cell (i := 2) (by omega)
  have c3 : ys.cell? ⟨M, 3, none⟩ = some (.int .i64 (r 3)) := (unhide I1).box.cell (i := 3) (by omega)
  have c4 : ys.cell? ⟨M, 4, none⟩ = some (.int .i64 (r 4)) := (unhide I1).box.cell (i := 4) (by omega)
  have u0 := (unhide I1).row
  have fM := (unhide I1).box.free
  obtain ⟨q, hq⟩ := (unhide I1).res
  have fz := hq.free
  have z0 : ys.cell? ⟨Z, 0, none⟩ = some (q 0) := hq.cell (i := 0) (by omega)
  have z1 : ys.cell? ⟨Z, 1, none⟩ = some (q 1) := hq.cell (i := 1) (by omega)
  have z2 : ys.cell? ⟨Z, 2, none⟩ = some (q 2) := hq.cell (i := 2) (by omega)
  have z3 : ys.cell? ⟨Z, 3, none⟩ = some (q 3) := hq.cell (i := 3) (by omega)
  have z4 : ys.cell? ⟨Z, 4, none⟩ = some (q 4) := hq.cell (i := 4) (by omega)
  have he : Hid (Wr.recS step s r = (s1, (Wr.upd r 0 a1))) := (show _ = _ by unfold Wr.recS Wr.input; simp [unhide HP1, (unhide E).1, (unhide E).2.1, (unhide E).2.2])
  have hfo := hide (fun vs => (unhide I1).last h vs)
  clear I1 hq
  go_wp2
  refine bodyPost_ret (v := .agg (Wr.rcd (Wr.upd r 0 a1))) (by simp [results, Try.results67, go_sem, Wr.rcd, Wr.upd, z0, z1, z2, z3, z4]) rfl ?_
  obtain ⟨B9, h1, h2⟩ := unhide hfo [_, _, _, _, _]
  exact ⟨B9, by rw [unhide he]; rfl, by rw [unhide he]; exact h1, h2⟩


end

end Go.Proofs.Ytiegccdgoemamaa
