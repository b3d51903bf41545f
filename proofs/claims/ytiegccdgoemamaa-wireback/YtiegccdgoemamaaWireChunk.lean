/-
  A kind's fields gone through with a side.
-/
import Derived.Test.YtiegccdgoemamaaWireMsg
import Derived.Deep.MidRow
namespace Go.Proofs.Ytiegccdgoemamaa
open Go.RowKit

section
variable {T : TypeId} {v : Value} {f : FuncId} {σ : Type} {step : σ → Int → Int → Int → Int → σ × Int} {H : World → σ → (Nat → Prop) → Prop} {Lv : σ → Prop} {w x y : World} {s : σ} {B : Nat → Prop}

theorem Wr.G.one (g : Wr.G) : g.cells.all (·.oneCell') = true := by
  simp [Wr.G.cells, Value.oneCell']

/-- The last kind's fields: the side behind them, and what they are told as. -/
def Wr.chunkS (step : σ → Int → Int → Int → Int → σ × Int) (s : σ) (g : Wr.G) (z : Nat → Int) : σ × Int × Int × Int × List Int :=
  let p1 := step s (g.n 15) 4 0 1073741823
  let p2 := step p1.1 (g.n 27) 1 0 255
  let p3 := step p2.1 (g.n 28) 1 (wrap64 (p2.2 + 1)) 16
  let q := Wr.listS step (Wr.datum step) p3.1 g.data.2.1 1 64 z
  (q.1, p1.2, p2.2, p3.2, q.2)

/-- A datagram is handed back: its chunk's fields are these. -/
def Wr.Chunks (H : World → σ → (Nat → Prop) → Prop) (w : World) (B : Nat → Prop) (g : Wr.G) (r : σ × Int × Int × Int × List Int) (e : Ending) (w' : World) : Prop :=
  ∃ B' O, e = .returned (.agg ((((g.num 15 r.2.1).num 27 r.2.2.1).num 28 r.2.2.2.1).set29 (some ⟨O, 0, none⟩, r.2.2.2.2.length, r.2.2.2.2.length)).cells) ∧ w.heap.size ≤ O ∧ ¬ B' O ∧ w'.heap[O]? = some (.cells (r.2.2.2.2.map (Value.int .u8)).toArray 5 (0, 0)) ∧ H w' r.1 B' ∧ Wr.K w B w' B'

set_option maxRecDepth 16000 in
set_option maxHeartbeats 12800000 in
theorem wChunk_any (h : Wr.Side T v f step H Lv) (g : Wr.G) (z : Nat → Int) (hr : ∀ k, -9223372036854775808 ≤ g.n k ∧ g.n k ≤ 9223372036854775807) (hn : g.data.2.1 ≤ 1048576)
    (hz : ∀ i, i < g.data.2.1 → ∃ b o, g.data.1 = some ⟨b, o, none⟩ ∧ b < w.heap.size ∧ ¬ B b ∧ w.cell? ⟨b, o + i, none⟩ = some (.int .u8 (z i)) ∧ 0 ≤ z i ∧ z i ≤ 255) (hs : H w s B) (hl : Lv (Wr.chunkS step s g z).1) :
    Calls Try.prog 60 #[.agg #[.iface T v], .agg g.cells] w (Wr.Chunks H w B g (Wr.chunkS step s g z)) := by
  have hm := h.meth
  have hc := h.call
  obtain ⟨x, hx⟩ : ∃ x, x = ((w.alloc (.cells #[.iface T v] 73)).alloc (.cells g.cells 29)).alloc (.cells Wr.G.zero.cells 29) := ⟨_, rfl⟩
  have I0 : Hid (Wr.In H w x B s B T v w.heap.size (w.heap.size + 1) (w.heap.size + 1 + 1) 29 30 g.box) := by
    show Wr.In H w x B s B T v _ _ _ _ _ _
    rw [hx]
    exact Wr.In.first h hs _ _ rfl (fun i hi => Wr.G.at g i hi) rfl
  have hg0 : Hid (w.grownBy x none) := by
    show w.grownBy x none
    rw [hx]
    exact grown_alloc (grown_alloc (World.grownBy_alloc _ _ _) _) _
  obtain ⟨R, hR⟩ : ∃ R, w.heap.size = R := ⟨_, rfl⟩
  rw [hR] at I0
  have HR := hide hR
  have HLV := hide hl
  clear hs hl
  unfold Wr.G.cells at hx
  unfold Wr.G.zero at hx
  go_enter Try.func60, Try.ntmps60
  unfold Wr.G.cells
  go_upto_region 1 with fail
  rw [← hx]
  clear hx hR
  obtain ⟨M, hM⟩ : ∃ M, R + 1 = M := ⟨_, rfl⟩
  rw [hM] at I0 ⊢
  obtain ⟨Z, hZ⟩ : ∃ Z, M + 1 = Z := ⟨_, rfl⟩
  rw [hZ] at I0 ⊢
  clear hM hZ

  have c15 : x.cell? ⟨M, 15, none⟩ = some (.int .i64 (g.n 15)) := (unhide I0).box.cell (i := 15) (by omega)
  have u0 := (unhide I0).row
  have fM := (unhide I0).box.free
  obtain ⟨p1, hp1⟩ : ∃ p, step s (g.n 15) 4 0 1073741823 = p := ⟨_, rfl⟩
  obtain ⟨s1, a1⟩ := p1
  have cf := hide (wNumber_any h (g.n 15) (hr 15).1 (hr 15).2 (unhide I0).held (by have q := unhide HLV; unfold Wr.chunkS at q; dsimp only at q; have q := Wr.listS_back h (Wr.datum_back h) _ _ _ _ q; first | exact q | exact h.back _ _ _ _ _ (q) | exact h.back _ _ _ _ _ (h.back _ _ _ _ _ (q)) | exact h.back _ _ _ _ _ (h.back _ _ _ _ _ (h.back _ _ _ _ _ (q))) | exact h.back _ _ _ _ _ (h.back _ _ _ _ _ (h.back _ _ _ _ _ (h.back _ _ _ _ _ (q)))) | exact h.back _ _ _ _ _ (h.back _ _ _ _ _ (h.back _ _ _ _ _ (h.back _ _ _ _ _ (h.back _ _ _ _ _ (q)))))))
  rw [hp1] at cf
  try dsimp only [Wr.num] at cf
  have HP1 := hide hp1
  clear hp1
  go_wp2_with fail
  refine (unhide cf).mono ?_
  rintro e y1 ⟨B1, rfl, hs2, hk2⟩
  have I0n := hide ((unhide I0).next hs2 hk2)
  have c15' : y1.cell? ⟨M, 15, none⟩ = some (.int .i64 (g.n 15)) := (unhide I0n).box.cell (i := 15) (by omega)
  have f15' := (unhide I0n).box.free
  have I1 := hide ((unhide I0n).put h 15 (.int .i64 a1))
  rw [Wr.G.num_box g 15 a1 ⟨by decide, by decide, by decide, by decide, by decide, by decide, by decide, by decide, by decide⟩] at I1
  clear cf hs2 hk2 I0 I0n c15 u0 fM
  go_upto_region 2 with fail
  obtain ⟨y1s, hy1s⟩ : ∃ z, y1.setCell ⟨M, 15, none⟩ (.int .i64 a1) = z := ⟨_, rfl⟩
  rw [hy1s] at I1 ⊢
  clear hy1s c15' f15' y1

  have c27 : y1s.cell? ⟨M, 27, none⟩ = some (.int .i64 (g.n 27)) := (unhide I1).box.cell (i := 27) (by omega)
  have u0 := (unhide I1).row
  have fM := (unhide I1).box.free
  obtain ⟨p2, hp2⟩ : ∃ p, step s1 (g.n 27) 1 0 255 = p := ⟨_, rfl⟩
  obtain ⟨s2, a2⟩ := p2
  have cf := hide (h.field _ _ _ (g.n 27) 1 0 255 (hr 27).1 (hr 27).2 (.inl rfl) (unhide I1).held (by have q := unhide HLV; unfold Wr.chunkS at q; simp only [unhide HP1] at q; have q := Wr.listS_back h (Wr.datum_back h) _ _ _ _ q; first | exact q | exact h.back _ _ _ _ _ (q) | exact h.back _ _ _ _ _ (h.back _ _ _ _ _ (q)) | exact h.back _ _ _ _ _ (h.back _ _ _ _ _ (h.back _ _ _ _ _ (q))) | exact h.back _ _ _ _ _ (h.back _ _ _ _ _ (h.back _ _ _ _ _ (h.back _ _ _ _ _ (q)))) | exact h.back _ _ _ _ _ (h.back _ _ _ _ _ (h.back _ _ _ _ _ (h.back _ _ _ _ _ (h.back _ _ _ _ _ (q)))))))
  rw [hp2] at cf
  try dsimp only [Wr.num] at cf
  have HP2 := hide hp2
  clear hp2
  go_wp2_with fail
  refine (unhide cf).mono ?_
  rintro e y2 ⟨B2, rfl, hs2, hk2⟩
  have I1n := hide ((unhide I1).next hs2 hk2)
  have c27' : y2.cell? ⟨M, 27, none⟩ = some (.int .i64 (g.n 27)) := (unhide I1n).box.cell (i := 27) (by omega)
  have f27' := (unhide I1n).box.free
  have I2 := hide ((unhide I1n).put h 27 (.int .i64 a2))
  rw [Wr.G.num_box (g.num 15 a1) 27 a2 ⟨by decide, by decide, by decide, by decide, by decide, by decide, by decide, by decide, by decide⟩] at I2
  clear cf hs2 hk2 I1 I1n c27 u0 fM
  go_upto_region 3 with fail
  obtain ⟨y2s, hy2s⟩ : ∃ z, y2.setCell ⟨M, 27, none⟩ (.int .i64 a2) = z := ⟨_, rfl⟩
  rw [hy2s] at I2 ⊢
  clear hy2s c27' f27' y2

  have c27 : y2s.cell? ⟨M, 27, none⟩ = some (.int .i64 a2) := (unhide I2).box.cell (i := 27) (by omega)
  have c28 : y2s.cell? ⟨M, 28, none⟩ = some (.int .i64 (g.n 28)) := (unhide I2).box.cell (i := 28) (by omega)
  have u0 := (unhide I2).row
  have fM := (unhide I2).box.free
  obtain ⟨p3, hp3⟩ : ∃ p, step s2 (g.n 28) 1 (wrap64 (a2 + 1)) 16 = p := ⟨_, rfl⟩
  obtain ⟨s3, a3⟩ := p3
  have cf := hide (h.field _ _ _ (g.n 28) 1 (wrap64 (a2 + 1)) 16 (hr 28).1 (hr 28).2 (.inl rfl) (unhide I2).held (by have q := unhide HLV; unfold Wr.chunkS at q; simp only [unhide HP1, unhide HP2] at q; have q := Wr.listS_back h (Wr.datum_back h) _ _ _ _ q; first | exact q | exact h.back _ _ _ _ _ (q) | exact h.back _ _ _ _ _ (h.back _ _ _ _ _ (q)) | exact h.back _ _ _ _ _ (h.back _ _ _ _ _ (h.back _ _ _ _ _ (q))) | exact h.back _ _ _ _ _ (h.back _ _ _ _ _ (h.back _ _ _ _ _ (h.back _ _ _ _ _ (q)))) | exact h.back _ _ _ _ _ (h.back _ _ _ _ _ (h.back _ _ _ _ _ (h.back _ _ _ _ _ (h.back _ _ _ _ _ (q)))))))
  rw [hp3] at cf
  try dsimp only [Wr.num] at cf
  have HP3 := hide hp3
  clear hp3
  go_wp2_with fail
  refine (unhide cf).mono ?_
  rintro e y3 ⟨B3, rfl, hs2, hk2⟩
  have I2n := hide ((unhide I2).next hs2 hk2)
  have c28' : y3.cell? ⟨M, 28, none⟩ = some (.int .i64 (g.n 28)) := (unhide I2n).box.cell (i := 28) (by omega)
  have f28' := (unhide I2n).box.free
  have I3 := hide ((unhide I2n).put h 28 (.int .i64 a3))
  rw [Wr.G.num_box ((g.num 15 a1).num 27 a2) 28 a3 ⟨by decide, by decide, by decide, by decide, by decide, by decide, by decide, by decide, by decide⟩] at I3
  clear cf hs2 hk2 I2 I2n c27 c28 u0 fM
  go_upto_region 4 with fail
  obtain ⟨y3s, hy3s⟩ : ∃ z, y3.setCell ⟨M, 28, none⟩ (.int .i64 a3) = z := ⟨_, rfl⟩
  rw [hy3s] at I3 ⊢
  clear hy3s c28' f28' y3

  have c29 : y3s.cell? ⟨M, 29, none⟩ = some (.slice (g.data).1 (g.data).2.1 (g.data).2.2) := (unhide I3).box.cell (i := 29) (by omega)
  have u0 := (unhide I3).row
  have fM := (unhide I3).box.free
  obtain ⟨p4, hp4⟩ : ∃ p, Wr.listS step (Wr.datum step) s3 g.data.2.1 1 64 z = p := ⟨_, rfl⟩
  obtain ⟨s4, L⟩ := p4
  have cf := hide (wListByte_any h g.data.1 g.data.2.1 g.data.2.2 1 64 (.inl rfl) z hn (by omega) (fun i hi => by
    obtain ⟨b, o, q1, q2, q3, q4, q5⟩ := hz i hi
    obtain ⟨r1, r2, r3⟩ := (unhide I3).src q2 q3
    exact ⟨b, o, q1, r1, r2, (r3 _).trans q4, q5⟩) (unhide I3).held (by have q := unhide HLV; unfold Wr.chunkS at q; simp only [unhide HP1, unhide HP2, unhide HP3] at q; have q := q; first | exact q | exact h.back _ _ _ _ _ (q) | exact h.back _ _ _ _ _ (h.back _ _ _ _ _ (q)) | exact h.back _ _ _ _ _ (h.back _ _ _ _ _ (h.back _ _ _ _ _ (q))) | exact h.back _ _ _ _ _ (h.back _ _ _ _ _ (h.back _ _ _ _ _ (h.back _ _ _ _ _ (q)))) | exact h.back _ _ _ _ _ (h.back _ _ _ _ _ (h.back _ _ _ _ _ (h.back _ _ _ _ _ (h.back _ _ _ _ _ (q)))))))
  rw [hp4] at cf
  have HP4 := hide hp4
  clear hp4
  go_wp2_with fail
  refine (unhide cf).mono ?_
  rintro e y4 ⟨B4, O, rfl, hO, hBO, hrow, hs2, hk2⟩
  have I3n := hide ((unhide I3).next hs2 hk2)
  have c29' : y4.cell? ⟨M, 29, none⟩ = some (.slice (g.data).1 (g.data).2.1 (g.data).2.2) := (unhide I3n).box.cell (i := 29) (by omega)
  have f29' := (unhide I3n).box.free
  have I4 := hide ((unhide I3n).put h 29 (.slice (some ⟨O, 0, none⟩) L.length L.length))
  rw [Wr.G.set29_box (((g.num 15 a1).num 27 a2).num 28 a3) (some ⟨O, 0, none⟩, L.length, L.length)] at I4
  have hOM : O ≠ M ∧ O ≠ Z ∧ w.heap.size ≤ O := by
    have q1 := (unhide I3).box.lt
    obtain ⟨q, hq⟩ := (unhide I3).res
    have q2 := hq.lt
    have q3 := (unhide I3).low.2.1
    exact ⟨by omega, by omega, by omega⟩
  have HOM := hide hOM
  have ROW : Hid ((y4.setCell ⟨M, 29, none⟩ (.slice (some ⟨O, 0, none⟩) L.length L.length)).heap[O]? = some (.cells (L.map (Value.int .u8)).toArray 5 (0, 0)) ∧ O < (y4.setCell ⟨M, 29, none⟩ (.slice (some ⟨O, 0, none⟩) L.length L.length)).heap.size) := by
    have ht : Turn (fun b => b = M) y4 (y4.setCell ⟨M, 29, none⟩ (.slice (some ⟨O, 0, none⟩) L.length L.length)) := (Turn.refl _ y4).store M 29 _ rfl
    have hl := (Array.getElem?_eq_some_iff.1 hrow).1
    exact ⟨(ht.block O hl hOM.1).trans hrow, Nat.lt_of_lt_of_le hl ht.size⟩
  have HBO := hide hBO
  clear cf hs2 hk2 I3 I3n c29 u0 fM hO hBO hrow hOM
  go_upto_region 5 with fail
  obtain ⟨y4s, hy4s⟩ : ∃ z, y4.setCell ⟨M, 29, none⟩ (.slice (some ⟨O, 0, none⟩) L.length L.length) = z := ⟨_, rfl⟩
  rw [hy4s] at I4 ROW ⊢
  clear hy4s c29' f29' y4
  have he : Hid (Wr.chunkS step s g z = (s4, a1, a2, a3, L)) := (show _ = _ by unfold Wr.chunkS; rw [unhide HP1]; dsimp only; rw [unhide HP2]; dsimp only; rw [unhide HP3]; dsimp only; rw [unhide HP4])
  have FAR : Hid (∀ vs, (y4s.setCells Z 0 vs).heap[O]? = some (.cells (L.map (Value.int .u8)).toArray 5 (0, 0))) := fun vs => ((Wr.turn_cells Z vs 0 y4s).block O (unhide ROW).2 (unhide HOM).2.1).trans (unhide ROW).1

  obtain ⟨C, hC⟩ : ∃ C, Wr.G.cells (((((g.num 15 a1).num 27 a2).num 28 a3).set29 (some ⟨O, 0, none⟩, L.length, L.length))) = C := ⟨_, rfl⟩
  have hsz : C.size = 30 := by rw [← hC]; rfl
  have hrg : y4s.rangeAt M 0 C.toList := fun j u hj => by
    have hj30 : j < 30 := by
      have := (List.getElem?_eq_some_iff.1 hj).1
      simpa [hsz] using this
    have h1 := Wr.G.at (((((g.num 15 a1).num 27 a2).num 28 a3).set29 (some ⟨O, 0, none⟩, L.length, L.length))) j hj30
    rw [hC] at h1
    rw [Array.getElem?_toList, h1] at hj
    rw [Nat.zero_add, (unhide I4).box.cell hj30]
    exact hj
  have hth : y4s.there Z 0 C.size := fun j hj => by
    obtain ⟨q, hq⟩ := (unhide I4).res
    rw [hsz] at hj
    rw [Nat.zero_add]
    exact ⟨by rw [hq.cell hj]; rfl, hq.free j⟩
  have hone : C.all (·.oneCell') = true := by rw [← hC]; exact Wr.G.one _
  have hi1 : (Try.prog.info? 29).map (·.size) = some C.toList.length := by
    rw [Array.length_toList, hsz]
    kernel_rfl
  have hld : (loadVar 29 ⟨Z, 0, none⟩).run Try.prog (y4s.setCells Z 0 C.toList) = .ok (.agg C) (y4s.setCells Z 0 C.toList) :=
    run_loadVar_mid (P := Try.prog) (y4s.setCells Z 0 C.toList) Z 0 29 C.toList _ (World.rangeAt_setCells_same y4s Z 0 C.toList (by rw [Array.length_toList]; exact hth)) Try.underlying29 rfl hi1
  have hi2 : (Try.prog.info? 29).map (·.size) = some C.size := by rw [hsz]; kernel_rfl
  have HC := hide hC
  have hfo := (unhide I4).fixed h C.toList
  have HFO := hide hfo
  clear hC hsz I4 hfo
  go_wp2_with (first | refine wpList_load_mid rfl 29 (.tmp 3) rfl M 0 rfl C.toList _ hrg Try.underlying29 rfl hi1 ?_ | refine wpList_store_mid rfl 29 (.tmp 4) (.tmp 32) rfl Z 0 C rfl rfl hth hi2 hone ?_)
  obtain ⟨W, hW⟩ : ∃ W, y4s.setCells Z 0 C.toList = W := ⟨_, rfl⟩
  have HW := hide hW
  rw [hW] at hld ⊢
  clear hrg hth hone hi1 hi2 hW
  go_wp2
  refine bodyPost_ret (v := .agg C) (by simp [results, Try.results60, Act.put, asAddr, hld]) rfl ?_
  have hW := unhide HW
  have hC := unhide HC

  obtain ⟨h1, h2⟩ := unhide HFO
  subst hW
  subst hC
  exact ⟨B4, O, by rw [unhide he], (unhide HOM).2.2, unhide HBO, by rw [unhide he]; exact unhide FAR _, by rw [unhide he]; exact h1, h2⟩

end

end Go.Proofs.Ytiegccdgoemamaa
