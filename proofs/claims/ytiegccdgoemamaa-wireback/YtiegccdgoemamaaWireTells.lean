/-
  A datagram told as numbers.
-/
import Derived.Test.YtiegccdgoemamaaParseAll
import Derived.Test.YtiegccdgoemamaaWireLst
import Derived.Test.YtiegccdgoemamaaWireTold
import Derived.Laws.OwnMore
namespace Go.Proofs.Ytiegccdgoemamaa
open Go.RowKit

/-- What is gone through is told: the side behind it. -/
def Wr.GoesL (E : Nat) (y : World) (B : Nat → Prop) (R : List Int) (e : Ending) (y' : World) : Prop :=
  ∃ B' vr, e = .returned vr ∧ Wr.Lst E y' R B' ∧ Wr.K y B y' B'

/-- A datagram is handed back as numbers. -/
def Wr.Told (w : World) (R : List Int) (e : Ending) (w' : World) : Prop :=
  Turn (fun _ => False) w w' ∧ ∃ v, e = .returned v ∧ w'.ownsRow 0 3 1 v R.length (R.map (Value.int .i64)) ∧ ∀ b, v.ownBlock = some b → w.heap.size ≤ b

set_option maxRecDepth 16000 in
set_option maxHeartbeats 6400000 in
theorem wTold_any (g : Wr.G) (w : World) (R : List Int)
    (hT : ∀ E y B, w.heap.size ≤ E → Turn (fun _ => False) w y → (∀ b, B b → w.heap.size ≤ b) → Wr.Lst E y [g.n 0] B → Calls Try.prog 32 #[.agg #[.iface 109 (.pointer (some ⟨E, 0, none⟩))], .agg g.cells] y (Wr.GoesL E y B R)) :
    Calls Try.prog 47 #[.agg g.cells] w (Wr.Told w R) := by
  obtain ⟨x, hx⟩ : ∃ x, x = w.alloc (.cells g.cells 29) := ⟨_, rfl⟩
  have hgw : w.grownBy x none := by rw [hx]; exact World.grownBy_alloc _ _ _
  have hg := hide hgw
  have hb : Wr.Bx x w.heap.size 29 30 g.box := by rw [hx]; exact Wr.msgBox w g
  obtain ⟨M, hM⟩ : ∃ M, w.heap.size = M := ⟨_, rfl⟩
  rw [hM] at hb
  have HM := hide hM
  have HB := hide hb
  have HT := hide hT
  have c0 : x.cell? ⟨M, 0, none⟩ = some (.int .i64 (g.n 0)) := hb.cell (i := 0) (by omega)
  obtain ⟨CM, hCM⟩ : ∃ q, Wr.G.cells g = q := ⟨_, rfl⟩
  have HCM := hide hCM
  have hszM : CM.size = 30 := by rw [← hCM]; rfl
  have hiM : (Try.prog.info? 29).map (·.size) = some CM.toList.length := by
    rw [Array.length_toList, hszM]
    kernel_rfl
  clear hb hT hCM hszM hgw
  unfold Wr.G.cells at hx
  go_enter Try.func47, Try.ntmps47
  unfold Wr.G.cells
  go_upto_region 1 with fail
  rw [← hx]
  clear hx hM
  go_upto_region 2 with fail
  obtain ⟨E, hE⟩ : ∃ E, x.heap.size + 1 = E := ⟨_, rfl⟩
  obtain ⟨x1, hx1⟩ : ∃ x1, (x.alloc (.cells #[.int .i64 (g.n 0)] 3)).alloc (.cells #[.slice (some ⟨x.heap.size, 0, none⟩) 1 1] 111) = x1 := ⟨_, rfl⟩
  rw [hx1, hE]
  have h1 : x.grownBy x1 none := by rw [← hx1]; exact grown_alloc (World.grownBy_alloc _ _ _) _
  have v1 : Wr.LstV E x1 (.slice (some ⟨x.heap.size, 0, none⟩) 1 1) [g.n 0] := by
    refine ⟨?_, ?_⟩
    · rw [← hx1, ← hE]
      have q := Arr.lit (heap_alloc_new (x.alloc (.cells #[.int .i64 (g.n 0)] 3)) (.cells #[.slice (some ⟨x.heap.size, 0, none⟩) 1 1] 111))
      have q2 : (x.alloc (.cells #[.int .i64 (g.n 0)] 3)).heap.size = x.heap.size + 1 := by simp
      rw [q2] at q
      exact Arr.congr (n := 1) q (fun i hi => by obtain rfl : i = 0 := by omega
                                                 rfl)
    · rw [← hx1]
      exact (World.ownsRow_lit x #[.int .i64 (g.n 0)] 1 (Nat.zero_le _) (by decide) rfl).alloc _
  have HEM := hide (show w.heap.size ≤ E by rw [← hE]; have := (unhide hg).size; omega)
  have hXE : x.heap.size < E := by omega
  have HO1 : Hid (∀ b, Wr.encB E (.slice (some ⟨x.heap.size, 0, none⟩) 1 1) b → w.heap.size ≤ b) := fun b hb => by
    have h0 := (unhide hg).size
    rcases hb with q | q
    · omega
    · have q' : x.heap.size = b := by simpa [Value.ownBlock] using q
      omega
  have b1 := (unhide HB).on h1
  have HG1 := hide ((Turn.new (B := fun _ => False) (unhide hg)).then h1)
  have HE1 : Hid (Wr.Lst E x1 [g.n 0] (Wr.encB E (.slice (some ⟨x.heap.size, 0, none⟩) 1 1))) := ⟨_, v1, fun b => Iff.rfl⟩
  have hrg : x1.rangeAt M 0 CM.toList := fun j v hj => by
    have hj30 : j < 30 := by
      have h1 := (List.getElem?_eq_some_iff.1 hj).1
      rw [← unhide HCM] at h1
      exact h1
    rw [Array.getElem?_toList, ← unhide HCM, Wr.G.at g j hj30] at hj
    rw [Nat.zero_add, b1.cell hj30]
    exact hj
  have ct := hide (unhide HT E x1 _ (unhide HEM) (unhide HG1) (unhide HO1) (unhide HE1))
  rw [unhide HCM] at ct
  clear hx1 hE h1 v1 b1 HB hg HE1 HT hXE c0
  go_wp2_with (refine wpList_load_mid rfl 29 (.tmp 1) rfl M 0 rfl CM.toList _ hrg Try.underlying29 rfl hiM ?_)
  refine (unhide ct).mono ?_
  rintro e y2 ⟨B2, vr, rfl, hr1, hr2⟩
  obtain ⟨v2, hv2, hB2⟩ := hr1
  have e0 : y2.cell? ⟨E, 0, none⟩ = some v2 := hv2.1.cell (i := 0) (by omega)
  have hfin : Hid (Wr.Told w R (.returned v2) y2) := by
    refine ⟨(unhide HG1).trans hr2.turn (fun b hb q => by have := unhide HO1 b q; omega), v2, rfl, hv2.2, fun b hb => ?_⟩
    rcases hr2.own b ((hB2 b).2 (.inr hb)) with q | q
    · exact unhide HO1 b q
    · exact Nat.le_trans (unhide HG1).size q
  clear hr2 hB2 hv2 hiM hrg ct HO1
  go_wp2
  go_ret
  exact unhide hfin

theorem wTold_none (g : Wr.G) (w : World) (hk : ¬ (1 ≤ g.n 0 ∧ g.n 0 ≤ 4)) : Calls Try.prog 47 #[.agg g.cells] w (Wr.Told w [g.n 0]) :=
  wTold_any g w _ fun E y B hE ht hB hs => (wThrough_none (Wr.lstSide E) g hk hs).mono (by
    rintro e y' ⟨h1, h2, h3⟩
    exact ⟨B, _, h1, h2, h3⟩)

theorem wTold_join (g : Wr.G) (w : World) (hk0 : g.n 0 = 1) (hr : ∀ k, -9223372036854775808 ≤ g.n k ∧ g.n k ≤ 9223372036854775807) :
    Calls Try.prog 47 #[.agg g.cells] w (Wr.Told w (Wr.joinS Wr.lstS [g.n 0] g).1) :=
  wTold_any g w _ fun E y B hE ht hB hs => (wThrough_join (Wr.lstSide E) g hk0 hr hs (by simp [Wr.LstL, Wr.joinS, Wr.lstS])).mono (by
    rintro e y' ⟨B', h1, h2, h3⟩
    exact ⟨B', _, h1, h2, h3⟩)

theorem wTold_up (g : Wr.G) (z : Nat → Int) (w : World) (hk0 : g.n 0 = 2) (hr : ∀ k, -9223372036854775808 ≤ g.n k ∧ g.n k ≤ 9223372036854775807) (hb : 0 ≤ g.bits ∧ g.bits ≤ 4294967295) (hz : Wr.RowIn w (g.row 0) z)
    (hl : Wr.LstL (Wr.upS Wr.lstS (Wr.headS Wr.lstS [g.n 0] g).1 (Wr.headG g (Wr.headS Wr.lstS [g.n 0] g)) z).1) :
    Calls Try.prog 47 #[.agg g.cells] w (Wr.Told w (Wr.upS Wr.lstS (Wr.headS Wr.lstS [g.n 0] g).1 (Wr.headG g (Wr.headS Wr.lstS [g.n 0] g)) z).1) :=
  wTold_any g w _ fun E y B hE ht hB hs => (wThrough_up (Wr.lstSide E) g z hk0 hr hb hz.1 (hz.at ht hB) hs hl).mono (by
    rintro e y' ⟨B', O, h1, _, _, _, h2, h3⟩
    exact ⟨B', _, h1, h2, h3⟩)

theorem wTold_chunk (g : Wr.G) (z : Nat → Int) (w : World) (hk0 : g.n 0 = 4) (hr : ∀ k, -9223372036854775808 ≤ g.n k ∧ g.n k ≤ 9223372036854775807) (hz : Wr.BytesIn w g.data z)
    (hl : Wr.LstL (Wr.chunkS Wr.lstS (Wr.headS Wr.lstS [g.n 0] g).1 (Wr.headG g (Wr.headS Wr.lstS [g.n 0] g)) z).1) :
    Calls Try.prog 47 #[.agg g.cells] w (Wr.Told w (Wr.chunkS Wr.lstS (Wr.headS Wr.lstS [g.n 0] g).1 (Wr.headG g (Wr.headS Wr.lstS [g.n 0] g)) z).1) :=
  wTold_any g w _ fun E y B hE ht hB hs => (wThrough_chunk (Wr.lstSide E) g z hk0 hr hz.1 (hz.at ht hB) hs hl).mono (by
    rintro e y' ⟨B', O, h1, _, _, _, h2, h3⟩
    exact ⟨B', _, h1, h2, h3⟩)

theorem wTold_down (g : Wr.G) (zr z : Nat → Nat → Int) (w : World) (hk0 : g.n 0 = 3) (hr : ∀ k, -9223372036854775808 ≤ g.n k ∧ g.n k ≤ 9223372036854775807) (hzr : Wr.RecsIn w g.recs zr) (hz : ∀ i, i < 4 → Wr.RowIn w (g.row (1 + i)) (z i))
    (hl : Wr.LstL (Wr.downS Wr.lstS (Wr.headS Wr.lstS [g.n 0] g).1 (Wr.headG g (Wr.headS Wr.lstS [g.n 0] g)) zr z).1) :
    Calls Try.prog 47 #[.agg g.cells] w (Wr.Told w (Wr.downS Wr.lstS (Wr.headS Wr.lstS [g.n 0] g).1 (Wr.headG g (Wr.headS Wr.lstS [g.n 0] g)) zr z).1) :=
  wTold_any g w _ fun E y B hE ht hB hs => (wThrough_down (Wr.lstSide E) g zr z hk0 hr hzr.1 hzr.2.1 (hzr.at ht hB) hzr.2.2.2 (fun i hi => (hz i hi).1) (fun i hi => (hz i hi).at ht hB) hs hl).mono (by
    rintro e y' ⟨B', O, Os, h1, _, _, _, _, h2, h3⟩
    exact ⟨B', _, h1, h2, h3⟩)

end Go.Proofs.Ytiegccdgoemamaa
