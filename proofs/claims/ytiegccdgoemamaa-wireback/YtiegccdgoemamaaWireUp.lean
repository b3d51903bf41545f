/-
  A kind's fields gone through with a side.
-/
import Derived.Test.YtiegccdgoemamaaWireChunk
import Derived.Deep.MidRow
import Derived.Test.YtiegccdgoemamaaTill
import Derived.Test.YtiegccdgoemamaaWireListRec
namespace Go.Proofs.Ytiegccdgoemamaa
open Go.RowKit

section
variable {T : TypeId} {v : Value} {f : FuncId} {σ : Type} {step : σ → Int → Int → Int → Int → σ × Int} {H : World → σ → (Nat → Prop) → Prop} {Lv : σ → Prop} {w x y : World} {s : σ} {B : Nat → Prop}

/-- The first i of four numbers are others. -/
def Wr.G.four (g : Wr.G) (k : Nat) (f : Nat → Int) (i : Nat) : Wr.G := { g with n := fun j => if k ≤ j ∧ j < k + i then f (j - k) else g.n j }

theorem Wr.G.four_zero (g : Wr.G) (k : Nat) (f : Nat → Int) : g.four k f 0 = g := by
  have e : (fun j => if k ≤ j ∧ j < k + 0 then f (j - k) else g.n j) = g.n := by
    funext j
    rw [if_neg (by omega)]
  unfold Wr.G.four
  rw [e]

theorem Wr.G.four_next (g : Wr.G) (k : Nat) (f : Nat → Int) (i : Nat) : (g.four k f i).num (k + i) (f i) = g.four k f (i + 1) := by
  have e : Wr.upd (fun j => if k ≤ j ∧ j < k + i then f (j - k) else g.n j) (k + i) (f i) = fun j => if k ≤ j ∧ j < k + (i + 1) then f (j - k) else g.n j := by
    funext j
    unfold Wr.upd
    show (if j = k + i then f i else (if k ≤ j ∧ j < k + i then f (j - k) else g.n j)) = _
    by_cases q : j = k + i
    · rw [if_pos q, if_pos (by omega), show j - k = i by omega]
    · by_cases q2 : k ≤ j ∧ j < k + i
      · rw [if_neg q, if_pos q2, if_pos (by omega)]
      · rw [if_neg q, if_neg q2, if_neg (by omega)]
  unfold Wr.G.four Wr.G.num
  rw [e]

theorem Wr.In.on (hS : Wr.Side T v f step H Lv) {B' : Nat → Prop} {R M Z m : Nat} {ty : TypeId} {F : Nat → Value} (h : Wr.In H w x B s B' T v R M Z ty m F) (hg : x.grownBy y none) : Wr.In H w y B s B' T v R M Z ty m F := by
  obtain ⟨q, hq⟩ := h.res
  exact ⟨hS.on h.held hg, h.kept.then (Turn.new (B := fun _ => False) hg) (fun _ q => q.elim), h.away, (grown_cell hg R 0 h.low.2.2.2.2.2.2 (by simp)).trans h.row, h.box.on hg, ⟨q, hq.on hg⟩, h.low.1, h.low.2.1, h.low.2.2.1, h.low.2.2.2.1, h.low.2.2.2.2.1, h.low.2.2.2.2.2.1, Nat.lt_of_lt_of_le h.low.2.2.2.2.2.2 hg.size⟩

theorem Wr.four_back (h : Wr.Side T v f step H Lv) {xs : Nat → Int} {i j : Nat} (hj : j ≤ i) (q : Lv (Wr.st (fun t n => step t n 4 0 1073741823) s xs i)) : Lv (Wr.st (fun t n => step t n 4 0 1073741823) s xs j) :=
  Wr.st_back (fun t n q => h.back t n _ _ _ q) xs j i hj q

/-- The fields of what goes up: the side behind them, and what they are told as. -/
def Wr.upS (step : σ → Int → Int → Int → Int → σ × Int) (s : σ) (g : Wr.G) (z : Nat → Int) : σ × Int × Int × (Nat → Int) × Int × Int × List Int :=
  let p1 := step s g.bits 4 0 4294967295
  let p2 := step p1.1 (g.n 5) 4 0 1073741823
  let fS := Wr.st (fun t n => step t n 4 0 1073741823) p2.1 (fun i => g.n (6 + i))
  let p3 := step (fS 4) (g.n 10) 4 0 1073741823
  let p4 := step p3.1 (g.n 11) 4 0 1073741823
  let q := Wr.listS step (Wr.input step) p4.1 (g.row 0).2.1 1 255 z
  (q.1, p1.2 % 4294967296, p2.2, Wr.ou (fun t n => step t n 4 0 1073741823) p2.1 (fun i => g.n (6 + i)), p3.2, p4.2, q.2)

/-- A datagram is handed back: what goes up is this. -/
def Wr.Ups (H : World → σ → (Nat → Prop) → Prop) (w : World) (B : Nat → Prop) (g : Wr.G) (r : σ × Int × Int × (Nat → Int) × Int × Int × List Int) (e : Ending) (w' : World) : Prop :=
  ∃ B' O, e = .returned (.agg (((((((g.set4 r.2.1).num 5 r.2.2.1).four 6 r.2.2.2.1 4).num 10 r.2.2.2.2.1).num 11 r.2.2.2.2.2.1).set12 (some ⟨O, 0, none⟩, r.2.2.2.2.2.2.length, r.2.2.2.2.2.2.length)).cells)) ∧ w.heap.size ≤ O ∧ ¬ B' O ∧ w'.heap[O]? = some (.cells (r.2.2.2.2.2.2.map (Value.int .i64)).toArray 3 (0, 0)) ∧ H w' r.1 B' ∧ Wr.K w B w' B'

set_option maxRecDepth 16000 in
set_option maxHeartbeats 12800000 in
theorem wUp_any (h : Wr.Side T v f step H Lv) (g : Wr.G) (z : Nat → Int) (hr : ∀ k, -9223372036854775808 ≤ g.n k ∧ g.n k ≤ 9223372036854775807) (hb : 0 ≤ g.bits ∧ g.bits ≤ 4294967295) (hn : (g.row 0).2.1 ≤ 1048576)
    (hz : ∀ i, i < (g.row 0).2.1 → ∃ b o, (g.row 0).1 = some ⟨b, o, none⟩ ∧ b < w.heap.size ∧ ¬ B b ∧ w.cell? ⟨b, o + i, none⟩ = some (.int .i64 (z i)) ∧ -9223372036854775808 ≤ z i ∧ z i ≤ 9223372036854775807) (hs : H w s B) (hl : Lv (Wr.upS step s g z).1) :
    Calls Try.prog 58 #[.agg #[.iface T v], .agg g.cells] w (Wr.Ups H w B g (Wr.upS step s g z)) := by
  have hm := h.meth
  have hc := h.call
  obtain ⟨x, hx⟩ : ∃ x, x = ((w.alloc (.cells #[.iface T v] 73)).alloc (.cells g.cells 29)).alloc (.cells Wr.G.zero.cells 29) := ⟨_, rfl⟩
  have I0 : Hid (Wr.In H w x B s B T v w.heap.size (w.heap.size + 1) (w.heap.size + 1 + 1) 29 30 g.box) := by
    show Wr.In H w x B s B T v _ _ _ _ _ _
    rw [hx]
    exact Wr.In.first h hs _ _ rfl (fun i hi => Wr.G.at g i hi) rfl
  have hg0 : Hid (w.grownBy x none) := by
    show w.grownBy x none
    rw [hx]
    exact grown_alloc (grown_alloc (World.grownBy_alloc _ _ _) _) _
  obtain ⟨R, hR⟩ : ∃ R, w.heap.size = R := ⟨_, rfl⟩
  rw [hR] at I0
  have HR := hide hR
  have HLV := hide hl
  clear hs hl
  unfold Wr.G.cells at hx
  unfold Wr.G.zero at hx
  go_enter Try.func58, Try.ntmps58
  unfold Wr.G.cells
  go_upto_region 1 with fail
  rw [← hx]
  clear hx hR
  obtain ⟨M, hM⟩ : ∃ M, R + 1 = M := ⟨_, rfl⟩
  rw [hM] at I0 ⊢
  obtain ⟨Z, hZ⟩ : ∃ Z, M + 1 = Z := ⟨_, rfl⟩
  rw [hZ] at I0 ⊢
  clear hM hZ
  have hb0 : 0 ≤ g.bits ∧ g.bits ≤ 4294967295 := hb

  have c4 : x.cell? ⟨M, 4, none⟩ = some (.int .u32 g.bits) := (unhide I0).box.cell (i := 4) (by omega)
  have u0 := (unhide I0).row
  have fM := (unhide I0).box.free
  obtain ⟨p1, hp1⟩ : ∃ p, step s g.bits 4 0 4294967295 = p := ⟨_, rfl⟩
  obtain ⟨s1, a1⟩ := p1
  have cf := hide (h.field _ _ _ g.bits 4 0 4294967295 (by omega) (by omega) (.inr (.inr rfl)) (unhide I0).held (by have q := unhide HLV; unfold Wr.upS at q; dsimp only at q; have q := Wr.four_back h (i := 4) (j := 0) (by omega) (h.back _ _ _ _ _ (h.back _ _ _ _ _ (Wr.listS_back h (Wr.input_back h) _ _ _ _ q))); first | exact q | exact h.back _ _ _ _ _ (q) | exact h.back _ _ _ _ _ (h.back _ _ _ _ _ (q)) | exact h.back _ _ _ _ _ (h.back _ _ _ _ _ (h.back _ _ _ _ _ (q))) | exact h.back _ _ _ _ _ (h.back _ _ _ _ _ (h.back _ _ _ _ _ (h.back _ _ _ _ _ (q)))) | exact h.back _ _ _ _ _ (h.back _ _ _ _ _ (h.back _ _ _ _ _ (h.back _ _ _ _ _ (h.back _ _ _ _ _ (q)))))))
  rw [hp1] at cf
  try dsimp only [Wr.num] at cf
  have HP1 := hide hp1
  clear hp1
  have hwb : IntKind.i64.wrap g.bits = g.bits := by rw [IntKind.wrap_i64]; omega
  have hw32 : IntKind.u32.wrap a1 = a1 % 4294967296 := IntKind.wrap_u32 a1
  go_wp2_with fail
  refine (unhide cf).mono ?_
  rintro e y1 ⟨B1, rfl, hs2, hk2⟩
  have I0n := hide ((unhide I0).next hs2 hk2)
  have c4' : y1.cell? ⟨M, 4, none⟩ = some (.int .u32 g.bits) := (unhide I0n).box.cell (i := 4) (by omega)
  have f4' := (unhide I0n).box.free
  have I1 := hide ((unhide I0n).put h 4 (.int .u32 (a1 % 4294967296)))
  rw [Wr.G.set4_box g (a1 % 4294967296)] at I1
  clear cf hs2 hk2 I0 I0n c4 u0 fM
  go_upto_region 2 with fail
  obtain ⟨y1s, hy1s⟩ : ∃ z, y1.setCell ⟨M, 4, none⟩ (.int .u32 (a1 % 4294967296)) = z := ⟨_, rfl⟩
  rw [hy1s] at I1 ⊢
  clear hy1s c4' f4' y1 hwb hw32

  have c5 : y1s.cell? ⟨M, 5, none⟩ = some (.int .i64 (g.n 5)) := (unhide I1).box.cell (i := 5) (by omega)
  have u0 := (unhide I1).row
  have fM := (unhide I1).box.free
  obtain ⟨p2, hp2⟩ : ∃ p, step s1 (g.n 5) 4 0 1073741823 = p := ⟨_, rfl⟩
  obtain ⟨s2, a2⟩ := p2
  have cf := hide (wNumber_any h (g.n 5) (hr 5).1 (hr 5).2 (unhide I1).held (by have q := unhide HLV; unfold Wr.upS at q; simp only [unhide HP1] at q; have q := Wr.four_back h (i := 4) (j := 0) (by omega) (h.back _ _ _ _ _ (h.back _ _ _ _ _ (Wr.listS_back h (Wr.input_back h) _ _ _ _ q))); first | exact q | exact h.back _ _ _ _ _ (q) | exact h.back _ _ _ _ _ (h.back _ _ _ _ _ (q)) | exact h.back _ _ _ _ _ (h.back _ _ _ _ _ (h.back _ _ _ _ _ (q))) | exact h.back _ _ _ _ _ (h.back _ _ _ _ _ (h.back _ _ _ _ _ (h.back _ _ _ _ _ (q)))) | exact h.back _ _ _ _ _ (h.back _ _ _ _ _ (h.back _ _ _ _ _ (h.back _ _ _ _ _ (h.back _ _ _ _ _ (q)))))))
  rw [hp2] at cf
  try dsimp only [Wr.num] at cf
  have HP2 := hide hp2
  clear hp2
  go_wp2_with fail
  refine (unhide cf).mono ?_
  rintro e y2 ⟨B2, rfl, hs2, hk2⟩
  have I1n := hide ((unhide I1).next hs2 hk2)
  have c5' : y2.cell? ⟨M, 5, none⟩ = some (.int .i64 (g.n 5)) := (unhide I1n).box.cell (i := 5) (by omega)
  have f5' := (unhide I1n).box.free
  have I2 := hide ((unhide I1n).put h 5 (.int .i64 a2))
  rw [Wr.G.num_box (g.set4 (a1 % 4294967296)) 5 a2 ⟨by decide, by decide, by decide, by decide, by decide, by decide, by decide, by decide, by decide⟩] at I2
  clear cf hs2 hk2 I1 I1n c5 u0 fM
  go_upto_region 3 with fail
  obtain ⟨y2s, hy2s⟩ : ∃ z, y2.setCell ⟨M, 5, none⟩ (.int .i64 a2) = z := ⟨_, rfl⟩
  rw [hy2s] at I2 ⊢
  clear hy2s c5' f5' y2

  obtain ⟨fS, hfS⟩ : ∃ q, Wr.st (fun t n => step t n 4 0 1073741823) s2 (fun i => g.n (6 + i)) = q := ⟨_, rfl⟩
  obtain ⟨fO, hfO⟩ : ∃ q, Wr.ou (fun t n => step t n 4 0 1073741823) s2 (fun i => g.n (6 + i)) = q := ⟨_, rfl⟩
  have HFS := hide hfS
  have HFO := hide hfO
  have HL4 : Hid (Lv (fS 4)) := (show Lv (fS 4) from (by have q := unhide HLV; unfold Wr.upS at q; simp only [unhide HP1, unhide HP2, unhide HFS] at q; have q := h.back _ _ _ _ _ (h.back _ _ _ _ _ (Wr.listS_back h (Wr.input_back h) _ _ _ _ q)); first | exact q | exact h.back _ _ _ _ _ (q) | exact h.back _ _ _ _ _ (h.back _ _ _ _ _ (q)) | exact h.back _ _ _ _ _ (h.back _ _ _ _ _ (h.back _ _ _ _ _ (q))) | exact h.back _ _ _ _ _ (h.back _ _ _ _ _ (h.back _ _ _ _ _ (h.back _ _ _ _ _ (q)))) | exact h.back _ _ _ _ _ (h.back _ _ _ _ _ (h.back _ _ _ _ _ (h.back _ _ _ _ _ (h.back _ _ _ _ _ (q)))))))
  have IL : Hid (∃ Bi, Wr.In H w y2s B (fS 0) Bi T v R M Z 29 30 ((((g.set4 (a1 % 4294967296)).num 5 a2)).four 6 fO 0).box) := by
    refine ⟨B2, ?_⟩
    rw [Wr.G.four_zero, ← hfS]
    exact unhide I2
  clear I2 hfS hfO
  go_wp2_with fail
  go_loopw [19] (fun v19 wr => ∃ i : Nat, i ≤ 4 ∧ v19 = .int .i64 (i : Int) ∧ Hid (∃ Bi, Wr.In H w wr B (fS i) Bi T v R M Z 29 30 ((((g.set4 (a1 % 4294967296)).num 5 a2)).four 6 fO i).box)) (fun v19 _ => 10 - (intOf v19).toNat)
  case atStart => exact ⟨0, by omega, rfl, IL⟩
  case round =>
    clear IL
    obtain ⟨i, hi, rfl, hX⟩ := hrel
    by_cases hlt : i < 4
    · obtain ⟨Bi, hIn⟩ := unhide hX
      have HL := hide hlt
      have hlt' : (i : Int) < 4 := by omega
      have hl0 : (0 : Int) ≤ (i : Int) := by omega
      have hIn1 : Wr.In H w wr.drew B (fS i) Bi T v R M Z 29 30 ((((g.set4 (a1 % 4294967296)).num 5 a2)).four 6 fO i).box := hIn.on h ⟨rfl, rfl, rfl, Nat.le_refl _, fun _ _ _ => rfl⟩
      have I := hide hIn1
      have cellq : Hid (∀ z : World, Wr.Bx z M 29 30 ((((g.set4 (a1 % 4294967296)).num 5 a2)).four 6 fO i).box → z.cell? ⟨M, 6 + i, none⟩ = some (.int .i64 (g.n (6 + i)))) := fun z hz => by
        rw [hz.cell (i := 6 + i) (by omega)]
        rcases (show i = 0 ∨ i = 1 ∨ i = 2 ∨ i = 3 by omega) with rfl | rfl | rfl | rfl <;> rfl
      have hS0 : Hid (wr.drew.cell? ⟨R, 0, none⟩ = some (.iface T v) ∧ wr.drew.cell? ⟨M, 6 + i, none⟩ = some (.int .i64 (g.n (6 + i))) ∧ ∀ k, wr.drew.frozen? ⟨M, k, none⟩ = false) := ⟨hIn1.row, unhide cellq _ hIn1.box, hIn1.box.free⟩
      have cf := hide (wNumber_any h (g.n (6 + i)) (hr (6 + i)).1 (hr (6 + i)).2 hIn1.held (by have q := unhide HL4; rw [← unhide HFS] at q ⊢; exact Wr.four_back h (i := 4) (j := i + 1) (by omega) q))
      obtain ⟨ai, hai⟩ : ∃ q, step (fS i) (g.n (6 + i)) 4 0 1073741823 = q := ⟨_, rfl⟩
      rw [hai] at cf
      try dsimp only [Wr.num] at cf
      have HAI := hide hai
      clear hi hX hIn hIn1 hlt hai
      go_upto_region 6 with fail
      refine wp_region_till (h := 9) (S := fun x => Hid (x.cell? ⟨R, 0, none⟩ = some (.iface T v) ∧ x.cell? ⟨M, 6 + i, none⟩ = some (.int .i64 (g.n (6 + i))) ∧ ∀ k, x.frozen? ⟨M, k, none⟩ = false)) (by kernel_rfl) ?_
      refine wpTill_take (i := 0) (v := ?_) [9] rfl (by kernel_rfl) (by kernel_rfl) (by kernel_rfl) (by kernel_rfl) (fun _ _ _ h => h) hS0 (Or.inl ⟨by rfl, ?_⟩) ?_
      rotate_left
      · intro x hSx
        clear hSx
        go_simp
        try with_reducible rfl
      simp only [Act.put, List.getElem_toArray, List.getElem_cons_zero, List.setIfInBounds_toArray, List.set_cons_succ, List.set_cons_zero]
      refine wpTill_take (i := 1) (v := ?_) [9] rfl (by kernel_rfl) (by kernel_rfl) (by kernel_rfl) (by kernel_rfl) (fun _ _ _ h => h) hS0 (Or.inl ⟨by rfl, ?_⟩) ?_
      rotate_left
      · intro x hSx
        have u0 := (unhide hSx).1
        clear hSx
        go_simp
        try with_reducible rfl
      simp only [Act.put, List.getElem_toArray, List.getElem_cons_zero, List.getElem_cons_succ, List.setIfInBounds_toArray, List.set_cons_succ, List.set_cons_zero]
      refine wpTill_take (i := 2) (v := ?_) [9] rfl (by kernel_rfl) (by kernel_rfl) (by kernel_rfl) (by kernel_rfl) (fun _ _ _ h => h) hS0 (Or.inl ⟨by rfl, ?_⟩) ?_
      rotate_left
      · intro x hSx
        clear hSx
        go_simp
        try with_reducible rfl
      simp only [Act.put, List.getElem_toArray, List.getElem_cons_zero, List.getElem_cons_succ, List.setIfInBounds_toArray, List.set_cons_succ, List.set_cons_zero]
      refine wpTill_take (i := 3) (v := ?_) [9] rfl (by kernel_rfl) (by kernel_rfl) (by kernel_rfl) (by kernel_rfl) (fun _ _ _ h => h) hS0 (Or.inl ⟨by rfl, ?_⟩) ?_
      rotate_left
      · intro x hSx
        clear hSx
        go_simp
        try with_reducible rfl
      simp only [Act.put, List.getElem_toArray, List.getElem_cons_zero, List.getElem_cons_succ, List.setIfInBounds_toArray, List.set_cons_succ, List.set_cons_zero]
      refine wpTill_take (i := 4) (v := ?_) [9] rfl (by kernel_rfl) (by kernel_rfl) (by kernel_rfl) (by kernel_rfl) (fun _ _ _ h => h) hS0 (Or.inl ⟨by rfl, ?_⟩) ?_
      rotate_left
      · intro x hSx
        clear hSx
        go_simp
        try with_reducible rfl
      simp only [Act.put, List.getElem_toArray, List.getElem_cons_zero, List.getElem_cons_succ, List.setIfInBounds_toArray, List.set_cons_succ, List.set_cons_zero]
      refine wpTill_take (i := 5) (v := ?_) [9] rfl (by kernel_rfl) (by kernel_rfl) (by kernel_rfl) (by kernel_rfl) (fun _ _ _ h => h) hS0 (Or.inl ⟨by rfl, ?_⟩) ?_
      rotate_left
      · intro x hSx
        have u0 := (unhide hSx).2.1
        clear hSx
        go_simp
        try with_reducible rfl
      simp only [Act.put, List.getElem_toArray, List.getElem_cons_zero, List.getElem_cons_succ, List.setIfInBounds_toArray, List.set_cons_succ, List.set_cons_zero]
      refine wpTill_take (i := 7) (v := ?_) [8, 9] rfl (by kernel_rfl) (by kernel_rfl) (by kernel_rfl) (by kernel_rfl) (fun _ _ _ h => h) hS0 (Or.inl ⟨by rfl, ?_⟩) ?_
      rotate_left
      · intro x hSx
        clear hSx
        go_simp
        try with_reducible rfl
      simp only [Act.put, List.getElem_toArray, List.getElem_cons_zero, List.getElem_cons_succ, List.setIfInBounds_toArray, List.set_cons_succ, List.set_cons_zero]
      refine wpTill_only (j := 6) (by kernel_rfl) rfl (fun K hK => ?_)
      go_simp
      refine (unhide cf).mono ?_
      rintro e y ⟨B9, rfl, hs9, hk9⟩
      have In := hide ((unhide I).next hs9 hk9)
      have hS1 : Hid (y.cell? ⟨R, 0, none⟩ = some (.iface T v) ∧ y.cell? ⟨M, 6 + i, none⟩ = some (.int .i64 (g.n (6 + i))) ∧ ∀ k, y.frozen? ⟨M, k, none⟩ = false) := ⟨(unhide In).row, unhide cellq _ (unhide In).box, (unhide In).box.free⟩
      clear hs9 hk9
      try go_simp
      refine hK.out _ _ (fun _ => hS1) ?_
      clear hK K
      refine wpTill_take (i := 8) (v := ?_) [9] rfl (by kernel_rfl) (by kernel_rfl) (by kernel_rfl) (by kernel_rfl) (fun _ _ _ h => h) hS1 (Or.inl ⟨by rfl, ?_⟩) ?_
      rotate_left
      · intro x hSx
        clear hSx
        go_simp
        try with_reducible rfl
      simp only [Act.put, List.getElem_toArray, List.getElem_cons_zero, List.getElem_cons_succ, List.setIfInBounds_toArray, List.set_cons_succ, List.set_cons_zero]
      have u9 := (unhide hS1).2.1
      have f9 := (unhide hS1).2.2
      refine wpTill_only (j := 9) (by kernel_rfl) rfl (fun K hK => ?_)
      go_simp
      refine hK.out _ _ (fun hx => absurd (hx.symm.trans (by kernel_rfl)) Bool.false_ne_true) ?_
      clear hK K
      refine wpTill_done (by kernel_rfl) ?_ _

      have hn : Hid (∃ Bi, Wr.In H w (y.setCell ⟨M, 6 + i, none⟩ (.int .i64 ai.2)) B (fS (i + 1)) Bi T v R M Z 29 30 ((((g.set4 (a1 % 4294967296)).num 5 a2)).four 6 fO (i + 1)).box) := by
        have hh := (unhide In).put h (6 + i) (.int .i64 ai.2)
        have hl := unhide HL
        rw [Wr.G.num_box _ (6 + i) ai.2 ⟨by omega, by omega, by omega, by omega, by omega, by omega, by omega, by omega, by omega⟩] at hh
        have e1 : fS (i + 1) = ai.1 := by
          rw [← unhide HFS]
          have := unhide HAI
          rw [← unhide HFS] at this
          exact congrArg Prod.fst this
        have e2 : fO i = ai.2 := by
          rw [← unhide HFO]
          have := unhide HAI
          rw [← unhide HFS] at this
          exact congrArg Prod.snd this
        rw [← e2, Wr.G.four_next] at hh
        rw [← e2]
        exact ⟨B9, by rw [e1]; exact hh⟩
      clear I In cf cellq hS0 hS1 u9 f9 HAI
      go_wp2
      go_roundw
      case rel => exact ⟨i + 1, by have := unhide HL; omega, by go_num, hn⟩
      case measure => simp [intOf]; have := unhide HL; omega
    · obtain rfl : i = 4 := by omega
      have hge : ¬ ((4 : Nat) : Int) < 4 := by omega
      obtain ⟨B4, hIn⟩ := unhide hX
      have I4 := hide hIn
      clear hi hlt hX hIn
      have c10 : wr.cell? ⟨M, 10, none⟩ = some (.int .i64 (g.n 10)) := (unhide I4).box.cell (i := 10) (by omega)
      have u0 := (unhide I4).row
      have fM := (unhide I4).box.free
      obtain ⟨p3, hp3⟩ : ∃ p, step (fS 4) (g.n 10) 4 0 1073741823 = p := ⟨_, rfl⟩
      obtain ⟨s3, a3⟩ := p3
      have cf := hide (wNumber_any h (g.n 10) (hr 10).1 (hr 10).2 (unhide I4).held (by have q := unhide HLV; unfold Wr.upS at q; simp only [unhide HP1, unhide HP2, unhide HFS] at q; have q := h.back _ _ _ _ _ (Wr.listS_back h (Wr.input_back h) _ _ _ _ q); first | exact q | exact h.back _ _ _ _ _ (q) | exact h.back _ _ _ _ _ (h.back _ _ _ _ _ (q)) | exact h.back _ _ _ _ _ (h.back _ _ _ _ _ (h.back _ _ _ _ _ (q))) | exact h.back _ _ _ _ _ (h.back _ _ _ _ _ (h.back _ _ _ _ _ (h.back _ _ _ _ _ (q)))) | exact h.back _ _ _ _ _ (h.back _ _ _ _ _ (h.back _ _ _ _ _ (h.back _ _ _ _ _ (h.back _ _ _ _ _ (q)))))))
      rw [hp3] at cf
      try dsimp only [Wr.num] at cf
      have HP3 := hide hp3
      clear hp3
      go_wp2_with fail
      refine (unhide cf).mono ?_
      rintro e y3 ⟨B3, rfl, hs2, hk2⟩
      have I4n := hide ((unhide I4).next hs2 hk2)
      have c10' : y3.cell? ⟨M, 10, none⟩ = some (.int .i64 (g.n 10)) := (unhide I4n).box.cell (i := 10) (by omega)
      have f10' := (unhide I4n).box.free
      have I5 := hide ((unhide I4n).put h 10 (.int .i64 a3))
      rw [Wr.G.num_box ((((g.set4 (a1 % 4294967296)).num 5 a2)).four 6 fO 4) 10 a3 ⟨by decide, by decide, by decide, by decide, by decide, by decide, by decide, by decide, by decide⟩] at I5
      clear cf hs2 hk2 I4 I4n c10 u0 fM
      go_upto_region 9 with fail
      obtain ⟨y3s, hy3s⟩ : ∃ z, y3.setCell ⟨M, 10, none⟩ (.int .i64 a3) = z := ⟨_, rfl⟩
      rw [hy3s] at I5 ⊢
      clear hy3s c10' f10' y3

      have c11 : y3s.cell? ⟨M, 11, none⟩ = some (.int .i64 (g.n 11)) := (unhide I5).box.cell (i := 11) (by omega)
      have u0 := (unhide I5).row
      have fM := (unhide I5).box.free
      obtain ⟨p4, hp4⟩ : ∃ p, step s3 (g.n 11) 4 0 1073741823 = p := ⟨_, rfl⟩
      obtain ⟨s4, a4⟩ := p4
      have cf := hide (wNumber_any h (g.n 11) (hr 11).1 (hr 11).2 (unhide I5).held (by have q := unhide HLV; unfold Wr.upS at q; simp only [unhide HP1, unhide HP2, unhide HFS, unhide HP3] at q; have q := Wr.listS_back h (Wr.input_back h) _ _ _ _ q; first | exact q | exact h.back _ _ _ _ _ (q) | exact h.back _ _ _ _ _ (h.back _ _ _ _ _ (q)) | exact h.back _ _ _ _ _ (h.back _ _ _ _ _ (h.back _ _ _ _ _ (q))) | exact h.back _ _ _ _ _ (h.back _ _ _ _ _ (h.back _ _ _ _ _ (h.back _ _ _ _ _ (q)))) | exact h.back _ _ _ _ _ (h.back _ _ _ _ _ (h.back _ _ _ _ _ (h.back _ _ _ _ _ (h.back _ _ _ _ _ (q)))))))
      rw [hp4] at cf
      try dsimp only [Wr.num] at cf
      have HP4 := hide hp4
      clear hp4
      go_wp2_with fail
      refine (unhide cf).mono ?_
      rintro e y4 ⟨B4, rfl, hs2, hk2⟩
      have I5n := hide ((unhide I5).next hs2 hk2)
      have c11' : y4.cell? ⟨M, 11, none⟩ = some (.int .i64 (g.n 11)) := (unhide I5n).box.cell (i := 11) (by omega)
      have f11' := (unhide I5n).box.free
      have I6 := hide ((unhide I5n).put h 11 (.int .i64 a4))
      rw [Wr.G.num_box (((((g.set4 (a1 % 4294967296)).num 5 a2)).four 6 fO 4).num 10 a3) 11 a4 ⟨by decide, by decide, by decide, by decide, by decide, by decide, by decide, by decide, by decide⟩] at I6
      clear cf hs2 hk2 I5 I5n c11 u0 fM
      go_upto_region 10 with fail
      obtain ⟨y4s, hy4s⟩ : ∃ z, y4.setCell ⟨M, 11, none⟩ (.int .i64 a4) = z := ⟨_, rfl⟩
      rw [hy4s] at I6 ⊢
      clear hy4s c11' f11' y4

      have c12 : y4s.cell? ⟨M, 12, none⟩ = some (.slice (g.row 0).1 (g.row 0).2.1 (g.row 0).2.2) := (unhide I6).box.cell (i := 12) (by omega)
      have u0 := (unhide I6).row
      have fM := (unhide I6).box.free
      obtain ⟨p5, hp5⟩ : ∃ p, Wr.listS step (Wr.input step) s4 (g.row 0).2.1 1 255 z = p := ⟨_, rfl⟩
      obtain ⟨s5, L⟩ := p5
      have cf := hide (wInputs_any h (g.row 0).1 (g.row 0).2.1 (g.row 0).2.2 z hn (fun i hi => by
        obtain ⟨b, o, q1, q2, q3, q4, q5⟩ := hz i hi
        obtain ⟨r1, r2, r3⟩ := (unhide I6).src q2 q3
        exact ⟨b, o, q1, r1, r2, (r3 _).trans q4, q5⟩) (unhide I6).held (by have q := unhide HLV; unfold Wr.upS at q; simp only [unhide HP1, unhide HP2, unhide HFS, unhide HP3, unhide HP4] at q; have q := q; first | exact q | exact h.back _ _ _ _ _ (q) | exact h.back _ _ _ _ _ (h.back _ _ _ _ _ (q)) | exact h.back _ _ _ _ _ (h.back _ _ _ _ _ (h.back _ _ _ _ _ (q))) | exact h.back _ _ _ _ _ (h.back _ _ _ _ _ (h.back _ _ _ _ _ (h.back _ _ _ _ _ (q)))) | exact h.back _ _ _ _ _ (h.back _ _ _ _ _ (h.back _ _ _ _ _ (h.back _ _ _ _ _ (h.back _ _ _ _ _ (q)))))))
      rw [hp5] at cf
      have HP5 := hide hp5
      clear hp5
      go_wp2_with fail
      refine (unhide cf).mono ?_
      rintro e y5 ⟨B5, O, rfl, hO, hBO, hrow, hs2, hk2⟩
      have I6n := hide ((unhide I6).next hs2 hk2)
      have c12' : y5.cell? ⟨M, 12, none⟩ = some (.slice (g.row 0).1 (g.row 0).2.1 (g.row 0).2.2) := (unhide I6n).box.cell (i := 12) (by omega)
      have f12' := (unhide I6n).box.free
      have I7 := hide ((unhide I6n).put h 12 (.slice (some ⟨O, 0, none⟩) L.length L.length))
      rw [Wr.G.set12_box ((((((g.set4 (a1 % 4294967296)).num 5 a2)).four 6 fO 4).num 10 a3).num 11 a4) (some ⟨O, 0, none⟩, L.length, L.length)] at I7
      have hOM : O ≠ M ∧ O ≠ Z ∧ w.heap.size ≤ O := by
        have q1 := (unhide I6).box.lt
        obtain ⟨q, hq⟩ := (unhide I6).res
        have q2 := hq.lt
        have q3 := (unhide I6).low.2.1
        exact ⟨by omega, by omega, by omega⟩
      have HOM := hide hOM
      have ROW : Hid ((y5.setCell ⟨M, 12, none⟩ (.slice (some ⟨O, 0, none⟩) L.length L.length)).heap[O]? = some (.cells (L.map (Value.int .i64)).toArray 3 (0, 0)) ∧ O < (y5.setCell ⟨M, 12, none⟩ (.slice (some ⟨O, 0, none⟩) L.length L.length)).heap.size) := by
        have ht : Turn (fun b => b = M) y5 (y5.setCell ⟨M, 12, none⟩ (.slice (some ⟨O, 0, none⟩) L.length L.length)) := (Turn.refl _ y5).store M 12 _ rfl
        have hl := (Array.getElem?_eq_some_iff.1 hrow).1
        exact ⟨(ht.block O hl hOM.1).trans hrow, Nat.lt_of_lt_of_le hl ht.size⟩
      have HBO := hide hBO
      clear cf hs2 hk2 I6 I6n c12 u0 fM hO hBO hrow hOM
      go_upto_region 11 with fail
      obtain ⟨y5s, hy5s⟩ : ∃ z, y5.setCell ⟨M, 12, none⟩ (.slice (some ⟨O, 0, none⟩) L.length L.length) = z := ⟨_, rfl⟩
      rw [hy5s] at I7 ROW ⊢
      clear hy5s c12' f12' y5
      have he : Hid (Wr.upS step s g z = (s5, a1 % 4294967296, a2, fO, a3, a4, L)) := (show _ = _ by unfold Wr.upS; rw [unhide HP1]; dsimp only; rw [unhide HP2]; dsimp only; rw [unhide HFS, unhide HFO, unhide HP3]; dsimp only; rw [unhide HP4]; dsimp only; rw [unhide HP5])
      have FAR : Hid (∀ vs, (y5s.setCells Z 0 vs).heap[O]? = some (.cells (L.map (Value.int .i64)).toArray 3 (0, 0))) := fun vs => ((Wr.turn_cells Z vs 0 y5s).block O (unhide ROW).2 (unhide HOM).2.1).trans (unhide ROW).1

      obtain ⟨C, hC⟩ : ∃ C, Wr.G.cells ((((((((g.set4 (a1 % 4294967296)).num 5 a2)).four 6 fO 4).num 10 a3).num 11 a4).set12 (some ⟨O, 0, none⟩, L.length, L.length))) = C := ⟨_, rfl⟩
      have hsz : C.size = 30 := by rw [← hC]; rfl
      have hrg : y5s.rangeAt M 0 C.toList := fun j u hj => by
        have hj30 : j < 30 := by
          have := (List.getElem?_eq_some_iff.1 hj).1
          simpa [hsz] using this
        have h1 := Wr.G.at ((((((((g.set4 (a1 % 4294967296)).num 5 a2)).four 6 fO 4).num 10 a3).num 11 a4).set12 (some ⟨O, 0, none⟩, L.length, L.length))) j hj30
        rw [hC] at h1
        rw [Array.getElem?_toList, h1] at hj
        rw [Nat.zero_add, (unhide I7).box.cell hj30]
        exact hj
      have hth : y5s.there Z 0 C.size := fun j hj => by
        obtain ⟨q, hq⟩ := (unhide I7).res
        rw [hsz] at hj
        rw [Nat.zero_add]
        exact ⟨by rw [hq.cell hj]; rfl, hq.free j⟩
      have hone : C.all (·.oneCell') = true := by rw [← hC]; exact Wr.G.one _
      have hi1 : (Try.prog.info? 29).map (·.size) = some C.toList.length := by
        rw [Array.length_toList, hsz]
        kernel_rfl
      have hld : (loadVar 29 ⟨Z, 0, none⟩).run Try.prog (y5s.setCells Z 0 C.toList) = .ok (.agg C) (y5s.setCells Z 0 C.toList) :=
        run_loadVar_mid (P := Try.prog) (y5s.setCells Z 0 C.toList) Z 0 29 C.toList _ (World.rangeAt_setCells_same y5s Z 0 C.toList (by rw [Array.length_toList]; exact hth)) Try.underlying29 rfl hi1
      have hi2 : (Try.prog.info? 29).map (·.size) = some C.size := by rw [hsz]; kernel_rfl
      have HC := hide hC
      have hfo := (unhide I7).fixed h C.toList
      have HFX := hide hfo
      clear hC hsz I7 hfo
      go_wp2_with (first | refine wpList_load_mid rfl 29 (.tmp 3) rfl M 0 rfl C.toList _ hrg Try.underlying29 rfl hi1 ?_ | refine wpList_store_mid rfl 29 (.tmp 4) (.tmp 47) rfl Z 0 C rfl rfl hth hi2 hone ?_)
      obtain ⟨W, hW⟩ : ∃ W, y5s.setCells Z 0 C.toList = W := ⟨_, rfl⟩
      have HW := hide hW
      rw [hW] at hld ⊢
      clear hrg hth hone hi1 hi2 hW
      go_wp2
      refine bodyPost_ret (v := .agg C) (by simp [results, Try.results58, Act.put, asAddr, hld]) rfl ?_
      have hW := unhide HW
      have hC := unhide HC

      obtain ⟨h1, h2⟩ := unhide HFX
      subst hW
      subst hC
      exact ⟨B5, O, by rw [unhide he], (unhide HOM).2.2, unhide HBO, by rw [unhide he]; exact unhide FAR _, by rw [unhide he]; exact h1, h2⟩

end

end Go.Proofs.Ytiegccdgoemamaa
