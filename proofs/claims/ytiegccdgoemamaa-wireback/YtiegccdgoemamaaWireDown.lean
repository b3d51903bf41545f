/-
  A kind's fields gone through with a side.
-/
import Derived.Test.YtiegccdgoemamaaWireFar
import Derived.Deep.MidRow
import Derived.Test.YtiegccdgoemamaaTill
namespace Go.Proofs.Ytiegccdgoemamaa
open Go.RowKit

section
variable {T : TypeId} {v : Value} {f : FuncId} {σ : Type} {step : σ → Int → Int → Int → Int → σ × Int} {H : World → σ → (Nat → Prop) → Prop} {Lv : σ → Prop} {w x y : World} {s : σ} {B : Nat → Prop}

/-- The fields of what comes down: the side behind them, and what they are told as. -/
def Wr.downS (step : σ → Int → Int → Int → Int → σ × Int) (s : σ) (g : Wr.G) (zr : Nat → Nat → Int) (z : Nat → Nat → Int) : σ × Int × Int × Int × Int × (Nat × (Nat → Nat → Int)) × (Nat → Int × List Int) × Int :=
  let p1 := step s (g.n 13) 1 1 7
  let p2 := step p1.1 (Wr.trade (g.n 14)) 1 0 4
  let p3 := step p2.1 (g.n 15) 4 0 1073741823
  let p4 := step p3.1 (g.n 16) 4 0 1073741823
  let q := Wr.listR step p4.1 g.recs.2.1 zr
  let p7 := step (Wr.seatsT step q.1 (fun i => g.n (18 + i)) (fun i => (g.row (1 + i)).2.1) z 4) (g.n 26) 4 0 1073741823
  (p7.1, p1.2, Wr.trade p2.2, p3.2, p4.2, q.2, Wr.seatsO step q.1 (fun i => g.n (18 + i)) (fun i => (g.row (1 + i)).2.1) z, p7.2)

/-- The datagram that is handed back. -/
def Wr.downG (g : Wr.G) (r : σ × Int × Int × Int × Int × (Nat × (Nat → Nat → Int)) × (Nat → Int × List Int) × Int) (O : Nat) (Os : Nat → Nat) : Wr.G :=
  ((((((g.num 13 r.2.1).num 14 r.2.2.1).num 15 r.2.2.2.1).num 16 r.2.2.2.2.1).set17 (some ⟨O, 0, none⟩, r.2.2.2.2.2.1.1, r.2.2.2.2.2.1.1)).seats (fun i => (r.2.2.2.2.2.2.1 i).1) (Wr.seatU Os fun i => (r.2.2.2.2.2.2.1 i).2) 4 4).num 26 r.2.2.2.2.2.2.2

def Wr.Downs (H : World → σ → (Nat → Prop) → Prop) (w : World) (B : Nat → Prop) (g : Wr.G) (r : σ × Int × Int × Int × Int × (Nat × (Nat → Nat → Int)) × (Nat → Int × List Int) × Int) (e : Ending) (w' : World) : Prop :=
  ∃ B' O Os, e = .returned (.agg (Wr.downG g r O Os).cells) ∧ w.heap.size ≤ O ∧ ¬ B' O ∧ Wr.Bx w' O 50 (r.2.2.2.2.2.1.1 * 5) (Wr.flat r.2.2.2.2.2.1.2) ∧ (∀ j, j < 4 → w.heap.size ≤ Os j ∧ ¬ B' (Os j) ∧ w'.heap[Os j]? = some (Wr.rowObj (r.2.2.2.2.2.2.1 j).2)) ∧ H w' r.1 B' ∧ Wr.K w B w' B'

set_option maxRecDepth 16000 in
set_option maxHeartbeats 12800000 in
theorem wDown_any (h : Wr.Side T v f step H Lv) (g : Wr.G) (zr : Nat → Nat → Int) (z : Nat → Nat → Int) (hr : ∀ k, -9223372036854775808 ≤ g.n k ∧ g.n k ≤ 9223372036854775807) (hn : g.recs.2.1 ≤ 1048576) (ha : g.recs.1 = none → g.recs.2.1 = 0)
    (hzr : ∀ i, i < g.recs.2.1 → ∃ b o, g.recs.1 = some ⟨b, o, none⟩ ∧ b < w.heap.size ∧ ¬ B b ∧ ∀ j, j < 5 → w.cell? ⟨b, o + i * 5 + j, none⟩ = some (.int .i64 (zr i j))) (hrr : ∀ i j, i < g.recs.2.1 → -9223372036854775808 ≤ zr i j ∧ zr i j ≤ 9223372036854775807)
    (hni : ∀ i, i < 4 → (g.row (1 + i)).2.1 ≤ 1048576)
    (hz : ∀ i, i < 4 → ∀ j, j < (g.row (1 + i)).2.1 → ∃ b o, (g.row (1 + i)).1 = some ⟨b, o, none⟩ ∧ b < w.heap.size ∧ ¬ B b ∧ w.cell? ⟨b, o + j, none⟩ = some (.int .i64 (z i j)) ∧ -9223372036854775808 ≤ z i j ∧ z i j ≤ 9223372036854775807) (hs : H w s B) (hl : Lv (Wr.downS step s g zr z).1) :
    Calls Try.prog 59 #[.agg #[.iface T v], .agg g.cells] w (Wr.Downs H w B g (Wr.downS step s g zr z)) := by
  have hm := h.meth
  have hc := h.call
  obtain ⟨x, hx⟩ : ∃ x, x = ((w.alloc (.cells #[.iface T v] 73)).alloc (.cells g.cells 29)).alloc (.cells Wr.G.zero.cells 29) := ⟨_, rfl⟩
  have I0 : Hid (Wr.In H w x B s B T v w.heap.size (w.heap.size + 1) (w.heap.size + 1 + 1) 29 30 g.box) := by
    show Wr.In H w x B s B T v _ _ _ _ _ _
    rw [hx]
    exact Wr.In.first h hs _ _ rfl (fun i hi => Wr.G.at g i hi) rfl
  have hg0 : Hid (w.grownBy x none) := by
    show w.grownBy x none
    rw [hx]
    exact grown_alloc (grown_alloc (World.grownBy_alloc _ _ _) _) _
  obtain ⟨R, hR⟩ : ∃ R, w.heap.size = R := ⟨_, rfl⟩
  rw [hR] at I0
  have HR := hide hR
  have HLV := hide hl
  clear hs hl
  unfold Wr.G.cells at hx
  unfold Wr.G.zero at hx
  go_enter Try.func59, Try.ntmps59
  unfold Wr.G.cells
  go_upto_region 1 with fail
  rw [← hx]
  clear hx hR
  obtain ⟨M, hM⟩ : ∃ M, R + 1 = M := ⟨_, rfl⟩
  rw [hM] at I0 ⊢
  obtain ⟨Z, hZ⟩ : ∃ Z, M + 1 = Z := ⟨_, rfl⟩
  rw [hZ] at I0 ⊢
  clear hM hZ

  have c13 : x.cell? ⟨M, 13, none⟩ = some (.int .i64 (g.n 13)) := (unhide I0).box.cell (i := 13) (by omega)
  have u0 := (unhide I0).row
  have fM := (unhide I0).box.free
  obtain ⟨p1, hp1⟩ : ∃ p, step s (g.n 13) 1 1 7 = p := ⟨_, rfl⟩
  obtain ⟨s1, a1⟩ := p1
  have cf := hide (h.field _ _ _ (g.n 13) 1 1 7 (hr 13).1 (hr 13).2 (.inl rfl) (unhide I0).held (by have q := unhide HLV; unfold Wr.downS at q; dsimp only at q; have q := Wr.listR_back h (Wr.seatsT_back h 0 4 (by omega) (h.back _ _ _ _ _ q)); first | exact q | exact h.back _ _ _ _ _ (q) | exact h.back _ _ _ _ _ (h.back _ _ _ _ _ (q)) | exact h.back _ _ _ _ _ (h.back _ _ _ _ _ (h.back _ _ _ _ _ (q))) | exact h.back _ _ _ _ _ (h.back _ _ _ _ _ (h.back _ _ _ _ _ (h.back _ _ _ _ _ (q)))) | exact h.back _ _ _ _ _ (h.back _ _ _ _ _ (h.back _ _ _ _ _ (h.back _ _ _ _ _ (h.back _ _ _ _ _ (q)))))))
  rw [hp1] at cf
  try dsimp only [Wr.num] at cf
  have HP1 := hide hp1
  clear hp1
  go_wp2_with fail
  refine (unhide cf).mono ?_
  rintro e y1 ⟨B1, rfl, hs2, hk2⟩
  have I0n := hide ((unhide I0).next hs2 hk2)
  have c13' : y1.cell? ⟨M, 13, none⟩ = some (.int .i64 (g.n 13)) := (unhide I0n).box.cell (i := 13) (by omega)
  have f13' := (unhide I0n).box.free
  have I1 := hide ((unhide I0n).put h 13 (.int .i64 a1))
  rw [Wr.G.num_box g 13 a1 ⟨by decide, by decide, by decide, by decide, by decide, by decide, by decide, by decide, by decide⟩] at I1
  clear cf hs2 hk2 I0 I0n c13 u0 fM
  go_upto_region 2 with fail
  obtain ⟨y1s, hy1s⟩ : ∃ z, y1.setCell ⟨M, 13, none⟩ (.int .i64 a1) = z := ⟨_, rfl⟩
  rw [hy1s] at I1 ⊢
  clear hy1s c13' f13' y1

  have I := hide ((unhide I1).on h (show y1s.grownBy y1s.drew none from ⟨rfl, rfl, rfl, Nat.le_refl _, fun _ _ _ => rfl⟩))
  have hS0 : Hid (y1s.drew.cell? ⟨R, 0, none⟩ = some (.iface T v) ∧ y1s.drew.cell? ⟨M, 14, none⟩ = some (.int .i64 (g.n 14)) ∧ ∀ k, y1s.drew.frozen? ⟨M, k, none⟩ = false) := ⟨(unhide I).row, (unhide I).box.cell (i := 14) (by omega), (unhide I).box.free⟩
  obtain ⟨t2, ht2⟩ : ∃ q, Wr.trade (g.n 14) = q := ⟨_, rfl⟩
  have HT2 := hide ht2
  have htb : -9223372036854775808 ≤ t2 ∧ t2 ≤ 9223372036854775807 := by
    rw [← ht2]
    have := hr 14
    unfold Wr.trade
    split
    · omega
    · split <;> omega
  obtain ⟨p2, hp2⟩ : ∃ p, step s1 t2 1 0 4 = p := ⟨_, rfl⟩
  obtain ⟨s2, a2⟩ := p2
  have hab : -9223372036854775808 ≤ a2 ∧ a2 ≤ 9223372036854775807 := by
    have q := h.ans s1 t2 1 0 4
    rw [hp2] at q
    dsimp only at q
    omega
  have ct := hide (fun x => wTraded_any (g.n 14) x (hr 14).1 (hr 14).2)
  rw [ht2] at ct
  have hl2 : Lv (step s1 t2 1 0 4).1 := (by have q := unhide HLV; unfold Wr.downS at q; simp only [unhide HP1, unhide HT2] at q; have q := Wr.listR_back h (Wr.seatsT_back h 0 4 (by omega) (h.back _ _ _ _ _ q)); first | exact q | exact h.back _ _ _ _ _ (q) | exact h.back _ _ _ _ _ (h.back _ _ _ _ _ (q)) | exact h.back _ _ _ _ _ (h.back _ _ _ _ _ (h.back _ _ _ _ _ (q))) | exact h.back _ _ _ _ _ (h.back _ _ _ _ _ (h.back _ _ _ _ _ (h.back _ _ _ _ _ (q)))) | exact h.back _ _ _ _ _ (h.back _ _ _ _ _ (h.back _ _ _ _ _ (h.back _ _ _ _ _ (h.back _ _ _ _ _ (q))))))
  have cf := hide (fun x hx => h.field x s1 B1 t2 1 0 4 htb.1 htb.2 (.inl rfl) hx hl2)
  rw [hp2] at cf
  dsimp only at cf
  have cu := hide (fun x => wTraded_any a2 x hab.1 hab.2)
  obtain ⟨u2, hu2⟩ : ∃ q, Wr.trade a2 = q := ⟨_, rfl⟩
  rw [hu2] at cu
  have HP2 := hide hp2
  have HU2 := hide hu2
  clear I1 ht2 hp2 hu2 htb hab hl2
  refine wp_region_till (h := 10) (S := fun x => Hid (x.cell? ⟨R, 0, none⟩ = some (.iface T v) ∧ x.cell? ⟨M, 14, none⟩ = some (.int .i64 (g.n 14)) ∧ ∀ k, x.frozen? ⟨M, k, none⟩ = false)) (by kernel_rfl) ?_
  refine wpTill_take (i := 0) (v := ?_) [10] rfl (by kernel_rfl) (by kernel_rfl) (by kernel_rfl) (by kernel_rfl) (fun _ _ _ h => h) hS0 (Or.inl ⟨by rfl, ?_⟩) ?_
  rotate_left
  · intro x hSx
    clear hSx
    go_simp
    try with_reducible rfl
  simp only [Act.put, List.getElem_toArray, List.getElem_cons_zero, List.setIfInBounds_toArray, List.set_cons_succ, List.set_cons_zero]
  refine wpTill_take (i := 1) (v := ?_) [10] rfl (by kernel_rfl) (by kernel_rfl) (by kernel_rfl) (by kernel_rfl) (fun _ _ _ h => h) hS0 (Or.inl ⟨by rfl, ?_⟩) ?_
  rotate_left
  · intro x hSx
    have q0 := (unhide hSx).1
    clear hSx
    go_simp
    try with_reducible rfl
  simp only [Act.put, List.getElem_toArray, List.getElem_cons_zero, List.getElem_cons_succ, List.setIfInBounds_toArray, List.set_cons_succ, List.set_cons_zero]
  refine wpTill_take (i := 2) (v := ?_) [10] rfl (by kernel_rfl) (by kernel_rfl) (by kernel_rfl) (by kernel_rfl) (fun _ _ _ h => h) hS0 (Or.inl ⟨by rfl, ?_⟩) ?_
  rotate_left
  · intro x hSx
    clear hSx
    go_simp
    try with_reducible rfl
  simp only [Act.put, List.getElem_toArray, List.getElem_cons_zero, List.getElem_cons_succ, List.setIfInBounds_toArray, List.set_cons_succ, List.set_cons_zero]
  refine wpTill_take (i := 3) (v := ?_) [10] rfl (by kernel_rfl) (by kernel_rfl) (by kernel_rfl) (by kernel_rfl) (fun _ _ _ h => h) hS0 (Or.inl ⟨by rfl, ?_⟩) ?_
  rotate_left
  · intro x hSx
    have q0 := (unhide hSx).2.1
    clear hSx
    go_simp
    try with_reducible rfl
  simp only [Act.put, List.getElem_toArray, List.getElem_cons_zero, List.getElem_cons_succ, List.setIfInBounds_toArray, List.set_cons_succ, List.set_cons_zero]
  refine wpTill_take (i := 5) (v := ?_) [10] rfl (by kernel_rfl) (by kernel_rfl) (by kernel_rfl) (by kernel_rfl) (fun _ _ _ h => h) hS0 (Or.inl ⟨by rfl, ?_⟩) ?_
  rotate_left
  · intro x hSx
    clear hSx
    go_simp
    try with_reducible rfl
  simp only [Act.put, List.getElem_toArray, List.getElem_cons_zero, List.getElem_cons_succ, List.setIfInBounds_toArray, List.set_cons_succ, List.set_cons_zero]
  refine wpTill_take (i := 6) (v := ?_) [10] rfl (by kernel_rfl) (by kernel_rfl) (by kernel_rfl) (by kernel_rfl) (fun _ _ _ h => h) hS0 (Or.inl ⟨by rfl, ?_⟩) ?_
  rotate_left
  · intro x hSx
    clear hSx
    go_simp
    try with_reducible rfl
  simp only [Act.put, List.getElem_toArray, List.getElem_cons_zero, List.getElem_cons_succ, List.setIfInBounds_toArray, List.set_cons_succ, List.set_cons_zero]
  refine wpTill_only (j := 4) (by kernel_rfl) rfl (fun K hK => ?_)
  go_simp
  refine (unhide ct _).mono ?_
  rintro e y ⟨rfl, rfl⟩
  try go_simp
  refine hK.out _ _ (fun _ => hS0) ?_
  clear hK K ct
  refine wpTill_only (j := 7) (by kernel_rfl) rfl (fun K hK => ?_)
  go_simp
  refine (unhide cf _ (unhide I).held).mono ?_
  rintro e y2 ⟨B2, rfl, hs2, hk2⟩
  have In := hide ((unhide I).next hs2 hk2)
  have hS1 : Hid (y2.cell? ⟨R, 0, none⟩ = some (.iface T v) ∧ y2.cell? ⟨M, 14, none⟩ = some (.int .i64 (g.n 14)) ∧ ∀ k, y2.frozen? ⟨M, k, none⟩ = false) := ⟨(unhide In).row, (unhide In).box.cell (i := 14) (by omega), (unhide In).box.free⟩
  clear hs2 hk2 cf I hS0
  try go_simp
  refine hK.out _ _ (fun _ => hS1) ?_
  clear hK K
  refine wpTill_only (j := 8) (by kernel_rfl) rfl (fun K hK => ?_)
  go_simp
  refine (unhide cu _).mono ?_
  rintro e q ⟨rfl, hq⟩
  rw [hq]
  clear hq q
  try go_simp
  refine hK.out _ _ (fun _ => hS1) ?_
  clear hK K cu
  refine wpTill_take (i := 9) (v := ?_) [10] rfl (by kernel_rfl) (by kernel_rfl) (by kernel_rfl) (by kernel_rfl) (fun _ _ _ h => h) hS1 (Or.inl ⟨by rfl, ?_⟩) ?_
  rotate_left
  · intro x hSx
    clear hSx
    go_simp
    try with_reducible rfl
  simp only [Act.put, List.getElem_toArray, List.getElem_cons_zero, List.getElem_cons_succ, List.setIfInBounds_toArray, List.set_cons_succ, List.set_cons_zero]
  have u9 := (unhide hS1).2.1
  have f9 := (unhide hS1).2.2
  refine wpTill_only (j := 10) (by kernel_rfl) rfl (fun K hK => ?_)
  go_simp
  refine hK.out _ _ (fun hx => absurd (hx.symm.trans (by kernel_rfl)) Bool.false_ne_true) ?_
  clear hK K
  refine wpTill_done (by kernel_rfl) ?_ _
  have I2 := hide ((unhide In).put h 14 (.int .i64 u2))
  rw [Wr.G.num_box (g.num 13 a1) 14 u2 ⟨by decide, by decide, by decide, by decide, by decide, by decide, by decide, by decide, by decide⟩] at I2
  clear In hS1 u9 f9
  go_upto_region 3 with fail
  obtain ⟨y2s, hy2s⟩ : ∃ z, y2.setCell ⟨M, 14, none⟩ (.int .i64 u2) = z := ⟨_, rfl⟩
  rw [hy2s] at I2 ⊢
  clear hy2s y2

  have c15 : y2s.cell? ⟨M, 15, none⟩ = some (.int .i64 (g.n 15)) := (unhide I2).box.cell (i := 15) (by omega)
  have u0 := (unhide I2).row
  have fM := (unhide I2).box.free
  obtain ⟨p3, hp3⟩ : ∃ p, step s2 (g.n 15) 4 0 1073741823 = p := ⟨_, rfl⟩
  obtain ⟨s3, a3⟩ := p3
  have cf := hide (wNumber_any h (g.n 15) (hr 15).1 (hr 15).2 (unhide I2).held (by have q := unhide HLV; unfold Wr.downS at q; simp only [unhide HP1, unhide HT2, unhide HP2] at q; have q := Wr.listR_back h (Wr.seatsT_back h 0 4 (by omega) (h.back _ _ _ _ _ q)); first | exact q | exact h.back _ _ _ _ _ (q) | exact h.back _ _ _ _ _ (h.back _ _ _ _ _ (q)) | exact h.back _ _ _ _ _ (h.back _ _ _ _ _ (h.back _ _ _ _ _ (q))) | exact h.back _ _ _ _ _ (h.back _ _ _ _ _ (h.back _ _ _ _ _ (h.back _ _ _ _ _ (q)))) | exact h.back _ _ _ _ _ (h.back _ _ _ _ _ (h.back _ _ _ _ _ (h.back _ _ _ _ _ (h.back _ _ _ _ _ (q)))))))
  rw [hp3] at cf
  try dsimp only [Wr.num] at cf
  have HP3 := hide hp3
  clear hp3
  go_wp2_with fail
  refine (unhide cf).mono ?_
  rintro e y3 ⟨B3, rfl, hs2, hk2⟩
  have I2n := hide ((unhide I2).next hs2 hk2)
  have c15' : y3.cell? ⟨M, 15, none⟩ = some (.int .i64 (g.n 15)) := (unhide I2n).box.cell (i := 15) (by omega)
  have f15' := (unhide I2n).box.free
  have I3 := hide ((unhide I2n).put h 15 (.int .i64 a3))
  rw [Wr.G.num_box ((g.num 13 a1).num 14 u2) 15 a3 ⟨by decide, by decide, by decide, by decide, by decide, by decide, by decide, by decide, by decide⟩] at I3
  clear cf hs2 hk2 I2 I2n c15 u0 fM
  go_upto_region 4 with fail
  obtain ⟨y3s, hy3s⟩ : ∃ z, y3.setCell ⟨M, 15, none⟩ (.int .i64 a3) = z := ⟨_, rfl⟩
  rw [hy3s] at I3 ⊢
  clear hy3s c15' f15' y3

  have c16 : y3s.cell? ⟨M, 16, none⟩ = some (.int .i64 (g.n 16)) := (unhide I3).box.cell (i := 16) (by omega)
  have u0 := (unhide I3).row
  have fM := (unhide I3).box.free
  obtain ⟨p4, hp4⟩ : ∃ p, step s3 (g.n 16) 4 0 1073741823 = p := ⟨_, rfl⟩
  obtain ⟨s4, a4⟩ := p4
  have cf := hide (wNumber_any h (g.n 16) (hr 16).1 (hr 16).2 (unhide I3).held (by have q := unhide HLV; unfold Wr.downS at q; simp only [unhide HP1, unhide HT2, unhide HP2, unhide HP3] at q; have q := Wr.listR_back h (Wr.seatsT_back h 0 4 (by omega) (h.back _ _ _ _ _ q)); first | exact q | exact h.back _ _ _ _ _ (q) | exact h.back _ _ _ _ _ (h.back _ _ _ _ _ (q)) | exact h.back _ _ _ _ _ (h.back _ _ _ _ _ (h.back _ _ _ _ _ (q))) | exact h.back _ _ _ _ _ (h.back _ _ _ _ _ (h.back _ _ _ _ _ (h.back _ _ _ _ _ (q)))) | exact h.back _ _ _ _ _ (h.back _ _ _ _ _ (h.back _ _ _ _ _ (h.back _ _ _ _ _ (h.back _ _ _ _ _ (q)))))))
  rw [hp4] at cf
  try dsimp only [Wr.num] at cf
  have HP4 := hide hp4
  clear hp4
  go_wp2_with fail
  refine (unhide cf).mono ?_
  rintro e y4 ⟨B4, rfl, hs2, hk2⟩
  have I3n := hide ((unhide I3).next hs2 hk2)
  have c16' : y4.cell? ⟨M, 16, none⟩ = some (.int .i64 (g.n 16)) := (unhide I3n).box.cell (i := 16) (by omega)
  have f16' := (unhide I3n).box.free
  have I4 := hide ((unhide I3n).put h 16 (.int .i64 a4))
  rw [Wr.G.num_box (((g.num 13 a1).num 14 u2).num 15 a3) 16 a4 ⟨by decide, by decide, by decide, by decide, by decide, by decide, by decide, by decide, by decide⟩] at I4
  clear cf hs2 hk2 I3 I3n c16 u0 fM
  go_upto_region 5 with fail
  obtain ⟨y4s, hy4s⟩ : ∃ z, y4.setCell ⟨M, 16, none⟩ (.int .i64 a4) = z := ⟨_, rfl⟩
  rw [hy4s] at I4 ⊢
  clear hy4s c16' f16' y4

  have c17 : y4s.cell? ⟨M, 17, none⟩ = some (.slice (g.recs).1 (g.recs).2.1 (g.recs).2.2) := (unhide I4).box.cell (i := 17) (by omega)
  have u0 := (unhide I4).row
  have fM := (unhide I4).box.free
  obtain ⟨p5, hp5⟩ : ∃ p, Wr.listR step s4 g.recs.2.1 zr = p := ⟨_, rfl⟩
  obtain ⟨s5, m, ro⟩ := p5
  have cf := hide (wListRec_any h g.recs.1 g.recs.2.1 g.recs.2.2 zr hn ha (fun i hi => by
    obtain ⟨b, o, q1, q2, q3, q4⟩ := hzr i hi
    obtain ⟨r1, r2, r3⟩ := (unhide I4).src q2 q3
    exact ⟨b, o, q1, r1, r2, fun j hj => (r3 _).trans (q4 j hj)⟩) hrr (unhide I4).held (by have q := unhide HLV; unfold Wr.downS at q; simp only [unhide HP1, unhide HT2, unhide HP2, unhide HP3, unhide HP4] at q; have q := Wr.seatsT_back h 0 4 (by omega) (h.back _ _ _ _ _ q); first | exact q | exact h.back _ _ _ _ _ (q) | exact h.back _ _ _ _ _ (h.back _ _ _ _ _ (q)) | exact h.back _ _ _ _ _ (h.back _ _ _ _ _ (h.back _ _ _ _ _ (q))) | exact h.back _ _ _ _ _ (h.back _ _ _ _ _ (h.back _ _ _ _ _ (h.back _ _ _ _ _ (q)))) | exact h.back _ _ _ _ _ (h.back _ _ _ _ _ (h.back _ _ _ _ _ (h.back _ _ _ _ _ (h.back _ _ _ _ _ (q)))))))
  rw [hp5] at cf
  have HP5 := hide hp5
  clear hp5
  go_wp2_with fail
  refine (unhide cf).mono ?_
  rintro e y5 ⟨B5, O, rfl, hO, hBO, ⟨ra, hrow, hra1, hra2⟩, hs2, hk2⟩
  have I4n := hide ((unhide I4).next hs2 hk2)
  have c17' : y5.cell? ⟨M, 17, none⟩ = some (.slice (g.recs).1 (g.recs).2.1 (g.recs).2.2) := (unhide I4n).box.cell (i := 17) (by omega)
  have f17' := (unhide I4n).box.free
  have I5 := hide ((unhide I4n).put h 17 (.slice (some ⟨O, 0, none⟩) m m))
  rw [Wr.G.set17_box ((((g.num 13 a1).num 14 u2).num 15 a3).num 16 a4) (some ⟨O, 0, none⟩, m, m)] at I5
  have RA : Hid (ra.size = m * 5 ∧ ∀ i, i < m * 5 → ra[i]? = some (Wr.flat ro i)) := ⟨hra1, hra2⟩
  have FR := hide (((unhide I4).far (M := M) (Z := Z) hO hBO hrow).put 17 (.slice (some ⟨O, 0, none⟩) m m))
  clear cf hs2 hk2 I4 I4n c17 u0 fM hO hBO hrow hra1 hra2
  go_upto_region 6 with fail
  obtain ⟨y5s, hy5s⟩ : ∃ z, y5.setCell ⟨M, 17, none⟩ (.slice (some ⟨O, 0, none⟩) m m) = z := ⟨_, rfl⟩
  rw [hy5s] at I5 FR ⊢
  clear hy5s c17' f17' y5

  obtain ⟨fS, hfS⟩ : ∃ q, Wr.seatsT step s5 (fun i => g.n (18 + i)) (fun i => (g.row (1 + i)).2.1) z = q := ⟨_, rfl⟩
  obtain ⟨fN, hfN⟩ : ∃ q, (fun i => (Wr.seatsO step s5 (fun i => g.n (18 + i)) (fun i => (g.row (1 + i)).2.1) z i).1) = q := ⟨_, rfl⟩
  obtain ⟨fL, hfL⟩ : ∃ q, (fun i => (Wr.seatsO step s5 (fun i => g.n (18 + i)) (fun i => (g.row (1 + i)).2.1) z i).2) = q := ⟨_, rfl⟩
  have HFS := hide hfS
  have HL4 : Hid (Lv (fS 4)) := (show Lv (fS 4) from (by have q := unhide HLV; unfold Wr.downS at q; simp only [unhide HP1, unhide HT2, unhide HP2, unhide HP3, unhide HP4, unhide HP5, unhide HFS] at q; have q := h.back _ _ _ _ _ q; first | exact q | exact h.back _ _ _ _ _ (q) | exact h.back _ _ _ _ _ (h.back _ _ _ _ _ (q)) | exact h.back _ _ _ _ _ (h.back _ _ _ _ _ (h.back _ _ _ _ _ (q))) | exact h.back _ _ _ _ _ (h.back _ _ _ _ _ (h.back _ _ _ _ _ (h.back _ _ _ _ _ (q)))) | exact h.back _ _ _ _ _ (h.back _ _ _ _ _ (h.back _ _ _ _ _ (h.back _ _ _ _ _ (h.back _ _ _ _ _ (q)))))))
  have HFN := hide hfN
  have HFL := hide hfL
  have IL : Hid (∃ Bi Os, Wr.In H w y5s B (fS 0) Bi T v R M Z 29 30 (((((((g.num 13 a1).num 14 u2).num 15 a3).num 16 a4).set17 (some ⟨O, 0, none⟩, m, m))).seats fN (Wr.seatU Os fL) 0 0).box ∧ Wr.Far w y5s Bi M Z O (.cells ra 50 (0, 0)) ∧ ∀ j, j < 0 → Wr.Far w y5s Bi M Z (Os j) (Wr.rowObj (fL j))) := by
    refine ⟨B5, fun _ => 0, ?_, unhide FR, fun j hj => absurd hj (by omega)⟩
    rw [Wr.G.seats_zero, ← hfS]
    exact unhide I5
  clear I5 FR hfS hfN hfL
  go_wp2_with fail
  go_loopw [39] (fun v39 wr => ∃ i : Nat, i ≤ 4 ∧ v39 = .int .i64 (i : Int) ∧ Hid (∃ Bi Os, Wr.In H w wr B (fS i) Bi T v R M Z 29 30 (((((((g.num 13 a1).num 14 u2).num 15 a3).num 16 a4).set17 (some ⟨O, 0, none⟩, m, m))).seats fN (Wr.seatU Os fL) i i).box ∧ Wr.Far w wr Bi M Z O (.cells ra 50 (0, 0)) ∧ ∀ j, j < i → Wr.Far w wr Bi M Z (Os j) (Wr.rowObj (fL j)))) (fun v39 _ => 10 - (intOf v39).toNat)
  case atStart => exact ⟨0, by omega, rfl, IL⟩
  case round =>
    clear IL
    obtain ⟨i, hi, rfl, hX⟩ := hrel
    by_cases hlt : i < 4
    · obtain ⟨Bi, Os, hIn, hF1, hF2⟩ := unhide hX
      have HL := hide hlt
      have hlt' : (i : Int) < 4 := by omega
      have hl0 : (0 : Int) ≤ (i : Int) := by omega
      have hgd : wr.grownBy wr.drew none := ⟨rfl, rfl, rfl, Nat.le_refl _, fun _ _ _ => rfl⟩
      have hIn1 := hIn.on h hgd
      have I := hide hIn1
      have FR0 := hide (hF1.on hgd)
      have FS0 := hide (fun j hj => (hF2 j hj).on hgd)
      have cellq : Hid (∀ z : World, Wr.Bx z M 29 30 (((((((g.num 13 a1).num 14 u2).num 15 a3).num 16 a4).set17 (some ⟨O, 0, none⟩, m, m))).seats fN (Wr.seatU Os fL) i i).box → z.cell? ⟨M, 18 + i, none⟩ = some (.int .i64 (g.n (18 + i)))) := fun z hz => by
        rw [hz.cell (i := 18 + i) (by omega)]
        rcases (show i = 0 ∨ i = 1 ∨ i = 2 ∨ i = 3 by omega) with rfl | rfl | rfl | rfl <;> rfl
      have hS0 : Hid (wr.drew.cell? ⟨R, 0, none⟩ = some (.iface T v) ∧ wr.drew.cell? ⟨M, 18 + i, none⟩ = some (.int .i64 (g.n (18 + i))) ∧ ∀ k, wr.drew.frozen? ⟨M, k, none⟩ = false) := ⟨hIn1.row, unhide cellq _ hIn1.box, hIn1.box.free⟩
      have cf := hide (wNumber_any h (g.n (18 + i)) (hr (18 + i)).1 (hr (18 + i)).2 hIn1.held (by have q := unhide HL4; rw [← unhide HFS] at q ⊢; exact Wr.seatS_first h (Wr.seatsT_back h (i + 1) 4 (by omega) q)))
      obtain ⟨ai, hai⟩ : ∃ q, step (fS i) (g.n (18 + i)) 4 0 1073741823 = q := ⟨_, rfl⟩
      obtain ⟨si, ni⟩ := ai
      rw [hai] at cf
      try dsimp only [Wr.num] at cf
      have HAI := hide hai
      clear hi hX hIn hIn1 hF1 hF2 hgd hlt hai
      go_upto_region 9 with fail
      refine wp_region_till (h := 9) (S := fun x => Hid (x.cell? ⟨R, 0, none⟩ = some (.iface T v) ∧ x.cell? ⟨M, 18 + i, none⟩ = some (.int .i64 (g.n (18 + i))) ∧ ∀ k, x.frozen? ⟨M, k, none⟩ = false)) (by kernel_rfl) ?_
      refine wpTill_take (i := 0) (v := ?_) [9] rfl (by kernel_rfl) (by kernel_rfl) (by kernel_rfl) (by kernel_rfl) (fun _ _ _ h => h) hS0 (Or.inl ⟨by rfl, ?_⟩) ?_
      rotate_left
      · intro x hSx
        clear hSx
        go_simp
        try with_reducible rfl
      simp only [Act.put, List.getElem_toArray, List.getElem_cons_zero, List.setIfInBounds_toArray, List.set_cons_succ, List.set_cons_zero]
      refine wpTill_take (i := 1) (v := ?_) [9] rfl (by kernel_rfl) (by kernel_rfl) (by kernel_rfl) (by kernel_rfl) (fun _ _ _ h => h) hS0 (Or.inl ⟨by rfl, ?_⟩) ?_
      rotate_left
      · intro x hSx
        have u0 := (unhide hSx).1
        clear hSx
        go_simp
        try with_reducible rfl
      simp only [Act.put, List.getElem_toArray, List.getElem_cons_zero, List.getElem_cons_succ, List.setIfInBounds_toArray, List.set_cons_succ, List.set_cons_zero]
      refine wpTill_take (i := 2) (v := ?_) [9] rfl (by kernel_rfl) (by kernel_rfl) (by kernel_rfl) (by kernel_rfl) (fun _ _ _ h => h) hS0 (Or.inl ⟨by rfl, ?_⟩) ?_
      rotate_left
      · intro x hSx
        clear hSx
        go_simp
        try with_reducible rfl
      simp only [Act.put, List.getElem_toArray, List.getElem_cons_zero, List.getElem_cons_succ, List.setIfInBounds_toArray, List.set_cons_succ, List.set_cons_zero]
      refine wpTill_take (i := 3) (v := ?_) [9] rfl (by kernel_rfl) (by kernel_rfl) (by kernel_rfl) (by kernel_rfl) (fun _ _ _ h => h) hS0 (Or.inl ⟨by rfl, ?_⟩) ?_
      rotate_left
      · intro x hSx
        clear hSx
        go_simp
        try with_reducible rfl
      simp only [Act.put, List.getElem_toArray, List.getElem_cons_zero, List.getElem_cons_succ, List.setIfInBounds_toArray, List.set_cons_succ, List.set_cons_zero]
      refine wpTill_take (i := 4) (v := ?_) [9] rfl (by kernel_rfl) (by kernel_rfl) (by kernel_rfl) (by kernel_rfl) (fun _ _ _ h => h) hS0 (Or.inl ⟨by rfl, ?_⟩) ?_
      rotate_left
      · intro x hSx
        clear hSx
        go_simp
        try with_reducible rfl
      simp only [Act.put, List.getElem_toArray, List.getElem_cons_zero, List.getElem_cons_succ, List.setIfInBounds_toArray, List.set_cons_succ, List.set_cons_zero]
      refine wpTill_take (i := 5) (v := ?_) [9] rfl (by kernel_rfl) (by kernel_rfl) (by kernel_rfl) (by kernel_rfl) (fun _ _ _ h => h) hS0 (Or.inl ⟨by rfl, ?_⟩) ?_
      rotate_left
      · intro x hSx
        have u0 := (unhide hSx).2.1
        clear hSx
        go_simp
        try with_reducible rfl
      simp only [Act.put, List.getElem_toArray, List.getElem_cons_zero, List.getElem_cons_succ, List.setIfInBounds_toArray, List.set_cons_succ, List.set_cons_zero]
      refine wpTill_take (i := 7) (v := ?_) [8, 9] rfl (by kernel_rfl) (by kernel_rfl) (by kernel_rfl) (by kernel_rfl) (fun _ _ _ h => h) hS0 (Or.inl ⟨by rfl, ?_⟩) ?_
      rotate_left
      · intro x hSx
        clear hSx
        go_simp
        try with_reducible rfl
      simp only [Act.put, List.getElem_toArray, List.getElem_cons_zero, List.getElem_cons_succ, List.setIfInBounds_toArray, List.set_cons_succ, List.set_cons_zero]
      refine wpTill_only (j := 6) (by kernel_rfl) rfl (fun K hK => ?_)
      go_simp
      refine (unhide cf).mono ?_
      rintro e ya ⟨Ba, rfl, hsa, hka⟩
      have In := hide ((unhide I).next hsa hka)
      have FR1 := hide ((unhide FR0).next hka)
      have FS1 := hide (fun j hj => (unhide FS0 j hj).next hka)
      clear hsa hka cf I FR0 FS0
      have hS1 : Hid (ya.cell? ⟨R, 0, none⟩ = some (.iface T v) ∧ ya.cell? ⟨M, 18 + i, none⟩ = some (.int .i64 (g.n (18 + i))) ∧ ∀ k, ya.frozen? ⟨M, k, none⟩ = false) := ⟨(unhide In).row, unhide cellq _ (unhide In).box, (unhide In).box.free⟩
      try go_simp
      refine hK.out _ _ (fun _ => hS1) ?_
      clear hK K
      refine wpTill_take (i := 8) (v := ?_) [9] rfl (by kernel_rfl) (by kernel_rfl) (by kernel_rfl) (by kernel_rfl) (fun _ _ _ h => h) hS1 (Or.inl ⟨by rfl, ?_⟩) ?_
      rotate_left
      · intro x hSx
        clear hSx
        go_simp
        try with_reducible rfl
      simp only [Act.put, List.getElem_toArray, List.getElem_cons_zero, List.getElem_cons_succ, List.setIfInBounds_toArray, List.set_cons_succ, List.set_cons_zero]
      have u9 := (unhide hS1).2.1
      have f9 := (unhide hS1).2.2
      refine wpTill_only (j := 9) (by kernel_rfl) rfl (fun K hK => ?_)
      go_simp
      refine hK.out _ _ (fun hx => absurd (hx.symm.trans (by kernel_rfl)) Bool.false_ne_true) ?_
      clear hK K
      refine wpTill_done (by kernel_rfl) ?_ _

      have eN : Hid (fN i = ni) := (show fN i = ni by
        rw [← unhide HFN]
        show (step (Wr.seatsT step s5 (fun i => g.n (18 + i)) (fun i => (g.row (1 + i)).2.1) z i) (g.n (18 + i)) 4 0 1073741823).2 = ni
        rw [unhide HFS, unhide HAI])
      have Ip := hide ((unhide In).put h (18 + i) (.int .i64 ni))
      have FR2a := hide ((unhide FR1).put (18 + i) (.int .i64 ni))
      have FS2a := hide (fun j hj => (unhide FS1 j hj).put (18 + i) (.int .i64 ni))
      rw [Wr.G.num_box _ (18 + i) ni (by have := unhide HL; exact ⟨by omega, by omega, by omega, by omega, by omega, by omega, by omega, by omega, by omega⟩), ← unhide eN, Wr.G.seats_num, unhide eN] at Ip
      clear In FR1 FS1 cellq hS0 hS1 u9 f9
      go_upto_region 10 with fail
      obtain ⟨yas, hyas⟩ : ∃ z, ya.setCell ⟨M, 18 + i, none⟩ (.int .i64 ni) = z := ⟨_, rfl⟩
      rw [hyas] at Ip FR2a FS2a ⊢
      clear hyas ya
      have hgd : yas.grownBy yas.drew none := ⟨rfl, rfl, rfl, Nat.le_refl _, fun _ _ _ => rfl⟩
      have hJ1 := (unhide Ip).on h hgd
      have J := hide hJ1
      have FR2 := hide ((unhide FR2a).on hgd)
      have FS2 := hide (fun j hj => (unhide FS2a j hj).on hgd)
      have cellr : Hid (∀ z : World, Wr.Bx z M 29 30 (((((((g.num 13 a1).num 14 u2).num 15 a3).num 16 a4).set17 (some ⟨O, 0, none⟩, m, m))).seats fN (Wr.seatU Os fL) (i + 1) i).box → z.cell? ⟨M, 22 + i, none⟩ = some (.slice (g.row (1 + i)).1 (g.row (1 + i)).2.1 (g.row (1 + i)).2.2)) := fun z hz => by
        have := unhide HL
        rw [hz.cell (i := 22 + i) (by omega)]
        rcases (show i = 0 ∨ i = 1 ∨ i = 2 ∨ i = 3 by omega) with rfl | rfl | rfl | rfl <;> rfl
      have hT0 : Hid (yas.drew.cell? ⟨R, 0, none⟩ = some (.iface T v) ∧ yas.drew.cell? ⟨M, 22 + i, none⟩ = some (.slice (g.row (1 + i)).1 (g.row (1 + i)).2.1 (g.row (1 + i)).2.2) ∧ ∀ k, yas.drew.frozen? ⟨M, k, none⟩ = false) := ⟨hJ1.row, unhide cellr _ hJ1.box, hJ1.box.free⟩
      obtain ⟨bi, hbi⟩ : ∃ q, Wr.listS step (Wr.input step) si (g.row (1 + i)).2.1 1 255 (z i) = q := ⟨_, rfl⟩
      obtain ⟨ti, Li⟩ := bi
      have cg := hide (wInputs_any h (g.row (1 + i)).1 (g.row (1 + i)).2.1 (g.row (1 + i)).2.2 (z i) (hni i (unhide HL)) (fun j hj => by
        obtain ⟨b, o, q1, q2, q3, q4, q5⟩ := hz i (unhide HL) j hj
        obtain ⟨r1, r2, r3⟩ := hJ1.src q2 q3
        exact ⟨b, o, q1, r1, r2, (r3 _).trans q4, q5⟩) hJ1.held (by
        have q := unhide HL4
        rw [← unhide HFS] at q
        have q2 := Wr.seatsT_back h (i + 1) 4 (by have := unhide HL; omega) q
        have e0 : (Wr.seatS step (Wr.seatsT step s5 (fun i => g.n (18 + i)) (fun i => (g.row (1 + i)).2.1) z i) (g.n (18 + i)) (g.row (1 + i)).2.1 (z i)).1 = (Wr.listS step (Wr.input step) si (g.row (1 + i)).2.1 1 255 (z i)).1 := by
          unfold Wr.seatS
          rw [unhide HFS, unhide HAI]
        exact e0 ▸ q2))
      rw [hbi] at cg
      have HBI := hide hbi
      clear hbi hJ1 hgd Ip FR2a FS2a
      refine wp_region_till (h := 9) (S := fun x => Hid (x.cell? ⟨R, 0, none⟩ = some (.iface T v) ∧ x.cell? ⟨M, 22 + i, none⟩ = some (.slice (g.row (1 + i)).1 (g.row (1 + i)).2.1 (g.row (1 + i)).2.2) ∧ ∀ k, x.frozen? ⟨M, k, none⟩ = false)) (by kernel_rfl) ?_
      refine wpTill_take (i := 0) (v := ?_) [9] rfl (by kernel_rfl) (by kernel_rfl) (by kernel_rfl) (by kernel_rfl) (fun _ _ _ h => h) hT0 (Or.inl ⟨by rfl, ?_⟩) ?_
      rotate_left
      · intro x hSx
        clear hSx
        go_simp
        try with_reducible rfl
      simp only [Act.put, List.getElem_toArray, List.getElem_cons_zero, List.setIfInBounds_toArray, List.set_cons_succ, List.set_cons_zero]
      refine wpTill_take (i := 1) (v := ?_) [9] rfl (by kernel_rfl) (by kernel_rfl) (by kernel_rfl) (by kernel_rfl) (fun _ _ _ h => h) hT0 (Or.inl ⟨by rfl, ?_⟩) ?_
      rotate_left
      · intro x hSx
        have u0 := (unhide hSx).1
        clear hSx
        go_simp
        try with_reducible rfl
      simp only [Act.put, List.getElem_toArray, List.getElem_cons_zero, List.getElem_cons_succ, List.setIfInBounds_toArray, List.set_cons_succ, List.set_cons_zero]
      refine wpTill_take (i := 2) (v := ?_) [9] rfl (by kernel_rfl) (by kernel_rfl) (by kernel_rfl) (by kernel_rfl) (fun _ _ _ h => h) hT0 (Or.inl ⟨by rfl, ?_⟩) ?_
      rotate_left
      · intro x hSx
        clear hSx
        go_simp
        try with_reducible rfl
      simp only [Act.put, List.getElem_toArray, List.getElem_cons_zero, List.getElem_cons_succ, List.setIfInBounds_toArray, List.set_cons_succ, List.set_cons_zero]
      refine wpTill_take (i := 3) (v := ?_) [9] rfl (by kernel_rfl) (by kernel_rfl) (by kernel_rfl) (by kernel_rfl) (fun _ _ _ h => h) hT0 (Or.inl ⟨by rfl, ?_⟩) ?_
      rotate_left
      · intro x hSx
        clear hSx
        go_simp
        try with_reducible rfl
      simp only [Act.put, List.getElem_toArray, List.getElem_cons_zero, List.getElem_cons_succ, List.setIfInBounds_toArray, List.set_cons_succ, List.set_cons_zero]
      refine wpTill_take (i := 4) (v := ?_) [9] rfl (by kernel_rfl) (by kernel_rfl) (by kernel_rfl) (by kernel_rfl) (fun _ _ _ h => h) hT0 (Or.inl ⟨by rfl, ?_⟩) ?_
      rotate_left
      · intro x hSx
        clear hSx
        go_simp
        try with_reducible rfl
      simp only [Act.put, List.getElem_toArray, List.getElem_cons_zero, List.getElem_cons_succ, List.setIfInBounds_toArray, List.set_cons_succ, List.set_cons_zero]
      refine wpTill_take (i := 5) (v := ?_) [9] rfl (by kernel_rfl) (by kernel_rfl) (by kernel_rfl) (by kernel_rfl) (fun _ _ _ h => h) hT0 (Or.inl ⟨by rfl, ?_⟩) ?_
      rotate_left
      · intro x hSx
        have u0 := (unhide hSx).2.1
        clear hSx
        go_simp
        try with_reducible rfl
      simp only [Act.put, List.getElem_toArray, List.getElem_cons_zero, List.getElem_cons_succ, List.setIfInBounds_toArray, List.set_cons_succ, List.set_cons_zero]
      refine wpTill_take (i := 7) (v := ?_) [8, 9] rfl (by kernel_rfl) (by kernel_rfl) (by kernel_rfl) (by kernel_rfl) (fun _ _ _ h => h) hT0 (Or.inl ⟨by rfl, ?_⟩) ?_
      rotate_left
      · intro x hSx
        clear hSx
        go_simp
        try with_reducible rfl
      simp only [Act.put, List.getElem_toArray, List.getElem_cons_zero, List.getElem_cons_succ, List.setIfInBounds_toArray, List.set_cons_succ, List.set_cons_zero]
      refine wpTill_only (j := 6) (by kernel_rfl) rfl (fun K hK => ?_)
      go_simp
      refine (unhide cg).mono ?_
      rintro e yb ⟨Bb, P, rfl, hP, hBP, hprow, hsb, hkb⟩
      have In := hide ((unhide J).next hsb hkb)
      have FP := hide ((unhide J).far (M := M) (Z := Z) hP hBP hprow)
      have FR3 := hide ((unhide FR2).next hkb)
      have FS3 := hide (fun j hj => (unhide FS2 j hj).next hkb)
      clear hsb hkb hP hBP hprow cg J FR2 FS2
      have hS1 : Hid (yb.cell? ⟨R, 0, none⟩ = some (.iface T v) ∧ yb.cell? ⟨M, 22 + i, none⟩ = some (.slice (g.row (1 + i)).1 (g.row (1 + i)).2.1 (g.row (1 + i)).2.2) ∧ ∀ k, yb.frozen? ⟨M, k, none⟩ = false) := ⟨(unhide In).row, unhide cellr _ (unhide In).box, (unhide In).box.free⟩
      try go_simp
      refine hK.out _ _ (fun _ => hS1) ?_
      clear hK K
      refine wpTill_take (i := 8) (v := ?_) [9] rfl (by kernel_rfl) (by kernel_rfl) (by kernel_rfl) (by kernel_rfl) (fun _ _ _ h => h) hS1 (Or.inl ⟨by rfl, ?_⟩) ?_
      rotate_left
      · intro x hSx
        clear hSx
        go_simp
        try with_reducible rfl
      simp only [Act.put, List.getElem_toArray, List.getElem_cons_zero, List.getElem_cons_succ, List.setIfInBounds_toArray, List.set_cons_succ, List.set_cons_zero]
      have u9 := (unhide hS1).2.1
      have f9 := (unhide hS1).2.2
      refine wpTill_only (j := 9) (by kernel_rfl) rfl (fun K hK => ?_)
      go_simp
      refine hK.out _ _ (fun hx => absurd (hx.symm.trans (by kernel_rfl)) Bool.false_ne_true) ?_
      clear hK K
      refine wpTill_done (by kernel_rfl) ?_ _

      have eL : Hid (fL i = Li ∧ fS (i + 1) = ti) := (show fL i = Li ∧ fS (i + 1) = ti by
        have e0 : Wr.seatS step (Wr.seatsT step s5 (fun i => g.n (18 + i)) (fun i => (g.row (1 + i)).2.1) z i) (g.n (18 + i)) (g.row (1 + i)).2.1 (z i) = (ti, ni, Li) := by
          unfold Wr.seatS
          rw [unhide HFS, unhide HAI]
          dsimp only
          rw [unhide HBI]
        constructor
        · rw [← unhide HFL]
          show (Wr.seatS step (Wr.seatsT step s5 (fun i => g.n (18 + i)) (fun i => (g.row (1 + i)).2.1) z i) (g.n (18 + i)) (g.row (1 + i)).2.1 (z i)).2.2 = Li
          rw [e0]
        · rw [← unhide HFS]
          show (Wr.seatS step (Wr.seatsT step s5 (fun i => g.n (18 + i)) (fun i => (g.row (1 + i)).2.1) z i) (g.n (18 + i)) (g.row (1 + i)).2.1 (z i)).1 = ti
          rw [e0])
      have hn : Hid (∃ Bi Os, Wr.In H w (yb.setCell ⟨M, 22 + i, none⟩ (.slice (some ⟨P, 0, none⟩) Li.length Li.length)) B (fS (i + 1)) Bi T v R M Z 29 30 (((((((g.num 13 a1).num 14 u2).num 15 a3).num 16 a4).set17 (some ⟨O, 0, none⟩, m, m))).seats fN (Wr.seatU Os fL) (i + 1) (i + 1)).box ∧ Wr.Far w (yb.setCell ⟨M, 22 + i, none⟩ (.slice (some ⟨P, 0, none⟩) Li.length Li.length)) Bi M Z O (.cells ra 50 (0, 0)) ∧ ∀ j, j < i + 1 → Wr.Far w (yb.setCell ⟨M, 22 + i, none⟩ (.slice (some ⟨P, 0, none⟩) Li.length Li.length)) Bi M Z (Os j) (Wr.rowObj (fL j))) := by
        obtain ⟨e1, e2⟩ := unhide eL
        have hO : ∀ q, q < i → Wr.seatU Os fL q = Wr.seatU (fun k => if k = i then P else Os k) fL q := fun q hq => by
          unfold Wr.seatU
          dsimp only
          rw [if_neg (by omega)]
        have hU : Wr.seatU (fun k => if k = i then P else Os k) fL i = (some ⟨P, 0, none⟩, Li.length, Li.length) := by
          unfold Wr.seatU
          dsimp only
          rw [if_pos rfl, e1]
        have hh := unhide In
        rw [Wr.G.seats_congr _ _ _ _ _ _ hO] at hh
        have hp := hh.put h (22 + i) (.slice (some ⟨P, 0, none⟩) Li.length Li.length)
        have hb := Wr.G.seats_box ((((((g.num 13 a1).num 14 u2).num 15 a3).num 16 a4).set17 (some ⟨O, 0, none⟩, m, m))) fN (Wr.seatU (fun k => if k = i then P else Os k) fL) (i + 1) i (unhide HL)
        rw [hU] at hb
        dsimp only at hb
        rw [hb] at hp
        refine ⟨Bb, fun k => if k = i then P else Os k, ?_, (unhide FR3).put _ _, fun j hj => ?_⟩
        · rw [e2]; exact hp
        · dsimp only
          by_cases q : j = i
          · subst q
            rw [if_pos rfl, e1]
            exact (unhide FP).put _ _
          · rw [if_neg q]
            exact (unhide FS3 j (by omega)).put _ _
      clear In FR3 FS3 FP cellr hT0 hS1 u9 f9 HAI HBI eN eL
      go_wp2
      go_roundw
      case rel => exact ⟨i + 1, by have := unhide HL; omega, by go_num, hn⟩
      case measure => simp [intOf]; have := unhide HL; omega
    · obtain rfl : i = 4 := by omega
      have hge : ¬ ((4 : Nat) : Int) < 4 := by omega
      obtain ⟨B6, Os, hIn, hF1, hF2⟩ := unhide hX
      have I6 := hide hIn
      have FR6 := hide hF1
      have FS6 := hide hF2
      clear hi hlt hX hIn hF1 hF2
      have c26 : wr.cell? ⟨M, 26, none⟩ = some (.int .i64 (g.n 26)) := (unhide I6).box.cell (i := 26) (by omega)
      have u0 := (unhide I6).row
      have fM := (unhide I6).box.free
      obtain ⟨p7, hp7⟩ : ∃ p, step (fS 4) (g.n 26) 4 0 1073741823 = p := ⟨_, rfl⟩
      obtain ⟨s7, a7⟩ := p7
      have cf := hide (wNumber_any h (g.n 26) (hr 26).1 (hr 26).2 (unhide I6).held (by have q := unhide HLV; unfold Wr.downS at q; simp only [unhide HP1, unhide HT2, unhide HP2, unhide HP3, unhide HP4, unhide HP5, unhide HFS] at q; have q := q; first | exact q | exact h.back _ _ _ _ _ (q) | exact h.back _ _ _ _ _ (h.back _ _ _ _ _ (q)) | exact h.back _ _ _ _ _ (h.back _ _ _ _ _ (h.back _ _ _ _ _ (q))) | exact h.back _ _ _ _ _ (h.back _ _ _ _ _ (h.back _ _ _ _ _ (h.back _ _ _ _ _ (q)))) | exact h.back _ _ _ _ _ (h.back _ _ _ _ _ (h.back _ _ _ _ _ (h.back _ _ _ _ _ (h.back _ _ _ _ _ (q)))))))
      rw [hp7] at cf
      try dsimp only [Wr.num] at cf
      have HP7 := hide hp7
      clear hp7
      go_wp2_with fail
      refine (unhide cf).mono ?_
      rintro e y7 ⟨B7, rfl, hs2, hk2⟩
      have I6n := hide ((unhide I6).next hs2 hk2)
      have c26' : y7.cell? ⟨M, 26, none⟩ = some (.int .i64 (g.n 26)) := (unhide I6n).box.cell (i := 26) (by omega)
      have f26' := (unhide I6n).box.free
      have I7 := hide ((unhide I6n).put h 26 (.int .i64 a7))
      rw [Wr.G.num_box (((((((g.num 13 a1).num 14 u2).num 15 a3).num 16 a4).set17 (some ⟨O, 0, none⟩, m, m))).seats fN (Wr.seatU Os fL) 4 4) 26 a7 ⟨by decide, by decide, by decide, by decide, by decide, by decide, by decide, by decide, by decide⟩] at I7
      have FR7 := hide (((unhide FR6).next hk2).put 26 (.int .i64 a7))
      have FS7 := hide (fun j hj => ((unhide FS6 j hj).next hk2).put 26 (.int .i64 a7))
      clear FR6 FS6
      clear cf hs2 hk2 I6 I6n c26 u0 fM
      go_upto_region 13 with fail
      obtain ⟨y7s, hy7s⟩ : ∃ z, y7.setCell ⟨M, 26, none⟩ (.int .i64 a7) = z := ⟨_, rfl⟩
      rw [hy7s] at I7 FR7 FS7 ⊢
      clear hy7s c26' f26' y7
      have he : Hid (Wr.downS step s g zr z = (s7, a1, u2, a3, a4, (m, ro), (fun i => (fN i, fL i)), a7)) := (show _ = _ by
        unfold Wr.downS
        rw [unhide HP1]; dsimp only
        rw [unhide HT2, unhide HP2]; dsimp only
        rw [unhide HU2, unhide HP3]; dsimp only
        rw [unhide HP4]; dsimp only
        rw [unhide HP5]; dsimp only
        rw [unhide HFS, unhide HP7]
        have e : Wr.seatsO step s5 (fun i => g.n (18 + i)) (fun i => (g.row (1 + i)).2.1) z = fun i => (fN i, fL i) := by
          rw [← unhide HFN, ← unhide HFL]
        rw [e])
      have FAR : Hid (∀ vs, (y7s.setCells Z 0 vs).heap[O]? = some (.cells ra 50 (0, 0)) ∧ ∀ j, j < 4 → (y7s.setCells Z 0 vs).heap[Os j]? = some (Wr.rowObj (fL j))) := fun vs => ⟨(unhide FR7).last vs, fun j hj => (unhide FS7 j hj).last vs⟩
      have LOW : Hid (w.heap.size ≤ O ∧ ¬ B7 O ∧ ∀ j, j < 4 → w.heap.size ≤ Os j ∧ ¬ B7 (Os j)) := ⟨(unhide FR7).1, (unhide FR7).2.2.2.1, fun j hj => ⟨(unhide FS7 j hj).1, (unhide FS7 j hj).2.2.2.1⟩⟩
      clear FR7 FS7

      obtain ⟨C, hC⟩ : ∃ C, Wr.G.cells (((((((((g.num 13 a1).num 14 u2).num 15 a3).num 16 a4).set17 (some ⟨O, 0, none⟩, m, m))).seats fN (Wr.seatU Os fL) 4 4).num 26 a7)) = C := ⟨_, rfl⟩
      have hsz : C.size = 30 := by rw [← hC]; rfl
      have hrg : y7s.rangeAt M 0 C.toList := fun j u hj => by
        have hj30 : j < 30 := by
          have := (List.getElem?_eq_some_iff.1 hj).1
          simpa [hsz] using this
        have h1 := Wr.G.at (((((((((g.num 13 a1).num 14 u2).num 15 a3).num 16 a4).set17 (some ⟨O, 0, none⟩, m, m))).seats fN (Wr.seatU Os fL) 4 4).num 26 a7)) j hj30
        rw [hC] at h1
        rw [Array.getElem?_toList, h1] at hj
        rw [Nat.zero_add, (unhide I7).box.cell hj30]
        exact hj
      have hth : y7s.there Z 0 C.size := fun j hj => by
        obtain ⟨q, hq⟩ := (unhide I7).res
        rw [hsz] at hj
        rw [Nat.zero_add]
        exact ⟨by rw [hq.cell hj]; rfl, hq.free j⟩
      have hone : C.all (·.oneCell') = true := by rw [← hC]; exact Wr.G.one _
      have hi1 : (Try.prog.info? 29).map (·.size) = some C.toList.length := by
        rw [Array.length_toList, hsz]
        kernel_rfl
      have hld : (loadVar 29 ⟨Z, 0, none⟩).run Try.prog (y7s.setCells Z 0 C.toList) = .ok (.agg C) (y7s.setCells Z 0 C.toList) :=
        run_loadVar_mid (P := Try.prog) (y7s.setCells Z 0 C.toList) Z 0 29 C.toList _ (World.rangeAt_setCells_same y7s Z 0 C.toList (by rw [Array.length_toList]; exact hth)) Try.underlying29 rfl hi1
      have hi2 : (Try.prog.info? 29).map (·.size) = some C.size := by rw [hsz]; kernel_rfl
      have HC := hide hC
      have hfo := (unhide I7).fixed h C.toList
      have HFX := hide hfo
      clear hC hsz I7 hfo
      go_wp2_with (first | refine wpList_load_mid rfl 29 (.tmp 3) rfl M 0 rfl C.toList _ hrg Try.underlying29 rfl hi1 ?_ | refine wpList_store_mid rfl 29 (.tmp 4) (.tmp 66) rfl Z 0 C rfl rfl hth hi2 hone ?_)
      obtain ⟨W, hW⟩ : ∃ W, y7s.setCells Z 0 C.toList = W := ⟨_, rfl⟩
      have HW := hide hW
      rw [hW] at hld ⊢
      clear hrg hth hone hi1 hi2 hW
      go_wp2
      refine bodyPost_ret (v := .agg C) (by simp [results, Try.results59, Act.put, asAddr, hld]) rfl ?_
      have hW := unhide HW
      have hC := unhide HC

      obtain ⟨h1, h2⟩ := unhide HFX
      subst hW
      subst hC
      obtain ⟨l1, l2, l3⟩ := unhide LOW
      obtain ⟨k1, k2⟩ := unhide FAR (Wr.G.cells _).toList
      obtain ⟨ra1, ra2⟩ := unhide RA
      rw [unhide he]
      exact ⟨B7, O, Os, rfl, l1, l2, ⟨ra, k1, ra1, ra2⟩, fun j hj => ⟨(l3 j hj).1, (l3 j hj).2, k2 j hj⟩, h1, h2⟩

end

end Go.Proofs.Ytiegccdgoemamaa
