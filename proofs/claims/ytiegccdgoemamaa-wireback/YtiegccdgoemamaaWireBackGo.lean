/-
  WireBack, walked.
-/
import Derived.Test.YtiegccdgoemamaaEchoAll
import Derived.Test.YtiegccdgoemamaaWireSizesGo
import Derived.ChangeOld
import Derived.Below
namespace Go.Proofs.Ytiegccdgoemamaa
open Go.RowKit

theorem wpList_load_guard {P : Program} {ops : Array Oper} {rest : List Oper} {op : Oper} {a : Act} {w : World} {Q : Exit → Act → World → Prop} (hw : Region.wanted op (yielded ops a.tmps) = true) (ty : TypeId) (x : Operand) (ho : op.op = .load ty x)
    (b o : Nat) (hx : a.eval x = .pointer (some ⟨b, o, none⟩)) (cs : List Value) (d : TypeDesc) (hc : w.rangeAt b o cs)
    (hu : P.underlying ty = some d) (hd : d.isRow = true) (hi : (P.info? ty).map (·.size) = some cs.length)
    (h : wpList P ops Q rest (a.put op.dst (.agg cs.toArray)) w) : wpList P ops Q (op :: rest) a w :=
  wpList_step fun K hK => by
    rw [if_pos hw]
    exact wp_load_mid ty x ho b o hx cs d hc hu hd hi (hK _ _ h)

theorem Wr.echo_any (y : World) (G : Wr.G) (z zr : Nat → Nat → Int) (zd : Nat → Int) (hf : Wr.Fit G) (hr : ∀ k, -9223372036854775808 ≤ G.n k ∧ G.n k ≤ 9223372036854775807) (hrow : ∀ j, j < 5 → Wr.RowIn y (G.row j) (z j) ∧ ∀ t, t < (G.row j).2.1 → 0 ≤ z j t ∧ z j t ≤ 10)
    (hrec : Wr.RecsIn y G.recs zr) (hok : ∀ i, Wr.recOk (zr i)) (hdat : Wr.BytesIn y G.data zd) : ∃ b Rn, b.length ≤ 1000000 ∧ Rn.length ≤ 100000001 ∧ Wr.Echo y G (G.n 0) b Rn := by
  have hn := fun k h => hf.num k h
  rcases (show G.n 0 = 1 ∨ G.n 0 = 2 ∨ G.n 0 = 3 ∨ G.n 0 = 4 by have := hf.k0; omega) with hk | hk | hk | hk
  · rw [hk]
    exact Wr.echo_join y G hk hr (hn 2 (by omega))
  · rw [hk]
    exact Wr.echo_up y G (z 0) hk hr (hn 1 (by omega)) (hn 2 (by omega)) hf.bits (fun k h => hn k (by omega)) (hf.rows 0 (by omega)) (hrow 0 (by omega)).2 (hrow 0 (by omega)).1
  · rw [hk]
    exact Wr.echo_down y G zr (fun i => z (1 + i)) hk hr (hn 1 (by omega)) (hn 2 (by omega)) ⟨hf.k13, hf.k14, hn 15 (by omega), hn 16 (by omega), hn 26 (by omega), fun i hi => hn (18 + i) (by omega), fun i hi => ⟨hf.rows (1 + i) (by omega), (hrow (1 + i) (by omega)).2⟩, hf.recs, fun i _ => hok i⟩ hrec (fun i hi => (hrow (1 + i) (by omega)).1)
  · rw [hk]
    exact Wr.echo_chunk y G zd hk hr (hn 1 (by omega)) (hn 2 (by omega)) (hn 15 (by omega)) hf.k28 hf.k27 hf.data (fun i hi => by obtain ⟨b, o, -, -, -, h⟩ := hdat.2 i hi; exact h) hdat

set_option maxRecDepth 16000 in
set_option maxHeartbeats 25600000 in
theorem wireBack_any (g : Wr.G) (z zr : Nat → Nat → Int) (zd : Nat → Int) (w : World) (hi : Wr.Inp w g z zr zd) (hr : ∀ k, -9223372036854775808 ≤ g.n k ∧ g.n k ≤ 9223372036854775807) :
    Calls Try.prog 4 #[.agg g.cells] w fun e w' => e = .returned (.bool true) ∧ Below w.heap.size w w' := by
  obtain ⟨x, hx⟩ : ∃ x, x = w.alloc (.cells g.cells 29) := ⟨_, rfl⟩
  have hg : w.grownBy x none := by rw [hx]; exact World.grownBy_alloc _ _ _
  have hb : Wr.Bx x w.heap.size 29 30 g.box := by rw [hx]; exact Wr.msgBox w g
  obtain ⟨M, hM⟩ : ∃ M, w.heap.size = M := ⟨_, rfl⟩
  rw [hM] at hb
  have HM := hide hM
  have HG := hide hg
  have HB := hide hb
  have HI := hide hi
  have HR := hide hr
  have IN1 := hide (show (Try.prog.info? 29).map (·.size) = some 30 from by kernel_rfl)
  obtain ⟨CM, hCM⟩ : ∃ CM, g.cells = CM := ⟨_, rfl⟩
  have HCM := hide hCM
  have hiCM : (Try.prog.info? 29).map (·.size) = some CM.toList.length := by
    rw [Array.length_toList, ← hCM]
    exact unhide IN1
  have hsCM := hide (show CM.size = 30 from by rw [← hCM]; rfl)
  have cfew := hide fun x => few15_any g x hi.low
  have cgood := hide fun x (h : Wr.Inp x g z zr zd) => good15_any g z zr x h.rows h.recs ⟨h.data.1, h.room⟩
  rw [hCM] at cfew cgood
  clear hg hb hi hr
  unfold Wr.G.cells at hx
  go_enter Try.func4, Try.ntmps4
  unfold Wr.G.cells
  go_upto_region 1 with fail
  rw [← hx]
  clear hx hM hCM
  go_wp2_with fail
  refine (known15_any _).mono ?_
  rintro e x1 ⟨rfl, ht⟩
  have HG1 := hide (grown_trans (unhide HG) (show x.grownBy x1 none from ⟨ht.os, ht.tape, ht.output, ht.size, fun k hk _ => ht.block k hk (fun q => q)⟩))
  have HB1 := hide ((unhide HB).turn ht (fun q => q))
  have hrg : x1.rangeAt M 0 CM.toList := by rw [← unhide HCM]; exact (unhide HB1).rangeG
  clear ht HG HB
  go_wp2_with (refine wpList_load_mid rfl 29 (.tmp 1) rfl M 0 rfl CM.toList _ hrg Try.underlying29 rfl hiCM ?_)
  refine (unhide cfew _).mono ?_
  rintro e x2 ⟨rfl, hx2⟩
  have HG2 := hide (grown_trans (unhide HG1) hx2)
  have HB2 := hide ((unhide HB1).on hx2)
  clear hrg HG1 HB1 hx2 cfew
  cases hfew : decide (Wr.bulk g + Wr.seatsLen g 4 < 2000) with
  | false =>
    go_wp2
    go_ret
    exact ⟨rfl, none_below (unhide HG2)⟩
  | true =>
    clear hfew
    have hrg : x2.rangeAt M 0 CM.toList := by rw [← unhide HCM]; exact (unhide HB2).rangeG
    go_wp2_with (refine wpList_load_mid rfl 29 (.tmp 1) rfl M 0 rfl CM.toList _ hrg Try.underlying29 rfl hiCM ?_)
    refine (unhide cgood x2 ((unhide HI).on (unhide HG2))).mono ?_
    rintro e x3 ⟨G, rfl, hgd⟩
    have HGD := hide hgd
    have HG3 := hide (grown_trans (unhide HG2) hgd.grown)
    have hB3 := (unhide HB2).on hgd.grown
    obtain ⟨CG, hCG⟩ : ∃ CG, G.cells = CG := ⟨_, rfl⟩
    have HCG := hide hCG
    have hiCG : (Try.prog.info? 29).map (·.size) = some CG.toList.length := by
      rw [Array.length_toList, ← hCG]
      exact unhide IN1
    have hiC2 : (Try.prog.info? 29).map (·.size) = some CG.size := by
      rw [← hCG]
      exact unhide IN1
    have hth : x3.there M 0 CG.size := by rw [← hCG]; exact hB3.thereG G
    have hone : CG.all (·.oneCell') = true := by rw [← hCG]; exact Wr.G.one G
    have HB4 : Hid (Wr.Bx (x3.setCells M 0 CG.toList) M 29 30 G.box) := (show Wr.Bx _ _ _ _ _ by rw [← hCG]; exact hB3.over G)
    rw [hCG]
    clear hrg cgood hgd HB2 hB3 hCG hiCM
    go_upto_region 6 with (refine wpList_store_mid rfl 29 (.tmp 1) (.tmp 15) rfl M 0 CG rfl rfl hth hiC2 hone ?_)
    have hMx : M < x2.heap.size + 2 := by have := unhide HM; have := (unhide HG2).size; omega
    have TM := hide (Wr.turn_cells M CG.toList 0 x3)
    have HG4 := hide (own_sets (g := M) (by have := unhide HM; omega) CG.toList 0 x3 (unhide HG3))
    obtain ⟨y, hy⟩ : ∃ y, x3.setCells M 0 CG.toList = y := ⟨_, rfl⟩
    rw [hy] at HB4 TM HG4 ⊢
    have GD := hide (show Wr.Goods w y (x2.heap.size + 2) (Wr.gb g) g G z zr from ⟨unhide HG4, (unhide HGD).n, (unhide HGD).watch, (unhide HGD).bits, fun j hj => ((unhide HGD).rows j hj).turn (unhide TM) (fun b e => by rw [e]; exact hMx), ⟨(unhide HGD).recs.1, Wr.owns_turn (unhide HGD).recs.2 (unhide TM) (fun b e q => by have := ((unhide HGD).recs.2.lt b q).1; omega)⟩, (unhide HGD).data⟩)
    have FT := hide ((unhide GD).fit (unhide HI).bits)
    have HN := hide ((unhide GD).num (unhide HR))
    have ROW := hide (show ∀ j, j < 5 → Wr.RowIn y (G.row j) (fun t => z j t % 11) ∧ ∀ t, t < (G.row j).2.1 → 0 ≤ z j t % 11 ∧ z j t % 11 ≤ 10 from fun j hj => ⟨((unhide GD).rows j hj).rowIn (by omega) (fun t _ => by omega), fun t _ => by omega⟩)
    have REC := hide (unhide GD).recsIn
    have DAT := hide (show Wr.BytesIn y G.data zd from by
      rw [(unhide GD).data]
      exact ((unhide HI).on (unhide HG4)).data.cut)

    have hrg : y.rangeAt M 0 CG.toList := by rw [← unhide HCG]; exact (unhide HB4).rangeG
    obtain ⟨b, Rn, hbl, hRl, hE⟩ := Wr.echo_any y G (fun j t => z j t % 11) (fun i => Wr.okRec (zr i)) zd (unhide FT) (unhide HN) (unhide ROW) (unhide REC) (fun i => by
      unfold Wr.recOk Wr.okRec
      simp
      omega) (unhide DAT)
    have EC := hide hE
    have BL := hide hbl
    have RL := hide hRl
    have ce := hide (hE.ready.enc y (Turn.refl _ _))
    rw [unhide HCG] at ce
    have K0 := hide (unhide FT).k0
    clear hE hbl hRl hth hone hiC2 hy TM hMx HGD HG3 HR FT ROW REC DAT HN GD
    go_wp2_with (refine wpList_load_mid rfl 29 (.tmp 1) rfl M 0 rfl CG.toList _ hrg Try.underlying29 rfl hiCG ?_)
    refine (unhide ce).mono ?_
    rintro e y2 ⟨t2, hw⟩
    rw [if_pos rfl] at hw
    obtain ⟨v2, rfl, ho, -⟩ := hw
    have hbytes : ∃ bg cur cap, v2 = .slice (some ⟨bg, 0, none⟩) (b.length + 1) cap ∧ Wr.SrcIn y2 bg (.cells cur 5 (0, 0)) 0 cap (G.n 0 :: b) := by
      rcases ho.2 with ⟨_, h0⟩ | ⟨bg, cap, cur, rfl, _, hg, h3, h4, _, _⟩
      · simp at h0
      · refine ⟨bg, cur, cap, rfl, hg, fun i x hi => ?_, (unhide EC).byte, h3, by unfold maxLen at h4; omega⟩
        have hil := (List.getElem?_eq_some_iff.1 hi).1
        rw [Nat.zero_add, ho.cellAt i (by show i < (G.n 0 :: b).length * 1; omega), List.getElem?_map, hi]
        rfl
    obtain ⟨bg, cur, cap, rfl, hsrc⟩ := hbytes
    have OW := hide ho
    have T2 := hide t2
    have cp := hide ((unhide EC).par y2 bg _ 0 cap hsrc)
    clear ce hrg ho t2 hsrc
    go_wp2_with fail
    refine (unhide cp).mono ?_
    rintro e y3 ⟨t3, Gm, rfl, hrd, hz⟩
    obtain ⟨CZ, hCZ⟩ : ∃ q, Wr.G.cells Gm = q := ⟨_, rfl⟩
    rw [hCZ]
    have HCZ := hide hCZ
    have hsz : CZ.size = 30 := by rw [← hCZ]; rfl
    have hone : CZ.all (·.oneCell') = true := by rw [← hCZ]; exact Wr.G.one _
    have hi2 : (Try.prog.info? 29).map (·.size) = some CZ.size := by rw [hsz]; kernel_rfl
    have hth : (y3.alloc (.cells Wr.G.zero.cells 29)).there y3.heap.size 0 CZ.size := fun j hj => by
      have q := Wr.msgBox y3 Wr.G.zero
      rw [hsz] at hj
      rw [Nat.zero_add]
      exact ⟨by rw [q.cell hj]; rfl, q.free j⟩
    have RD := hide hrd
    have ZE := hide hz
    have T3 := hide t3
    clear cp hrd hz t3 hCZ hsz
    go_upto_region 8 with (refine wpList_store_gen rfl 29 (.tmp 5) (.tmp 24) rfl y3.heap.size 0 CZ rfl rfl hth hi2 hone ?_; intro W hW; replace hW := hide hW)
    obtain ⟨Z, hZ⟩ : ∃ Z, y3.heap.size = Z := ⟨_, rfl⟩
    rw [hZ]
    have hWZ : W = (y3.alloc (.cells Wr.G.zero.cells 29)).setCells Z 0 CZ.toList := by rw [← hZ]; exact unhide hW
    have t4 : Turn (fun _ => False) y3 W := by
      have q0 : Turn (fun b => b = Z) y3 W := by
        rw [hWZ]
        exact (Turn.new (B := fun b => b = Z) (World.grownBy_alloc y3 _ none)).trans (Wr.turn_cells Z CZ.toList 0 _) (fun _ _ q => q)
      exact ⟨q0.os, q0.tape, q0.output, q0.size, fun i hi _ => q0.block i hi (by omega)⟩
    have HBZ := hide (show Wr.Bx W Z 29 30 Gm.box by
      rw [hWZ, ← unhide HCZ, ← hZ]
      exact (Wr.msgBox y3 Wr.G.zero).over Gm)
    have T4 := hide (((unhide T2).trans (unhide T3) (fun _ _ q => q)).trans t4 (fun _ _ q => q))
    have T34 := hide t4
    have HBM := hide ((unhide HB4).turn (unhide T4) (fun q => q))
    have HG5 := hide (grown_trans (unhide HG4) (unhide T4).grownBy)
    clear t4 hWZ hW hth hone hi2 hZ
    have hrM : W.rangeAt M 0 CG.toList := by rw [← unhide HCG]; exact (unhide HBM).rangeG
    have hrZ : W.rangeAt Z 0 CZ.toList := by rw [← unhide HCZ]; exact (unhide HBZ).rangeG
    have hiCZ : (Try.prog.info? 29).map (·.size) = some CZ.toList.length := by
      rw [Array.length_toList, ← unhide HCZ]
      exact unhide IN1
    have cs := hide (wSame_any G Gm Rn Rn W (unhide EC).full (unhide EC).full (unhide RL) (fun u hu => (unhide EC).ready.told u ((unhide T4).trans hu (fun _ _ q => q))) (fun u hu => (unhide RD).told u ((unhide T34).trans hu (fun _ _ q => q))))
    rw [unhide HCG, unhide HCZ, show decide (Rn = Rn) = true by simp] at cs
    go_wp2_with (first | refine wpList_load_guard (by rfl) 29 (.tmp 1) rfl M 0 rfl CG.toList _ hrM Try.underlying29 rfl hiCG ?_ | refine wpList_load_guard (by rfl) 29 (.tmp 5) rfl Z 0 rfl CZ.toList _ hrZ Try.underlying29 rfl hiCZ ?_)
    refine (unhide cs).mono ?_
    rintro e y5 ⟨rfl, t5⟩
    have T5 := hide ((unhide T4).trans t5 (fun _ _ q => q))
    have T35 := hide ((unhide T34).trans t5 (fun _ _ q => q))
    have HBZ5 := hide ((unhide HBZ).turn t5 (fun q => q))
    have ce := hide ((unhide RD).enc y5 (unhide T35))
    rw [unhide HCZ] at ce
    have hrZ5 : y5.rangeAt Z 0 CZ.toList := by rw [← unhide HCZ]; exact (unhide HBZ5).rangeG
    clear hrM hrZ cs t5 HBZ
    go_upto_region 10 with fail
    go_wp2_with (refine wpList_load_mid rfl 29 (.tmp 5) rfl Z 0 rfl CZ.toList _ hrZ5 Try.underlying29 rfl hiCZ ?_)
    refine (unhide ce).mono ?_
    rintro e y6 ⟨t6, hw⟩
    rw [if_pos rfl] at hw
    obtain ⟨v6, rfl, ho6, -⟩ := hw
    have hcv6 := Wr.text ho6 (by simp)
    have T26 := ((unhide T3).trans (unhide T35) (fun _ _ q => q)).trans t6 (fun _ _ q => q)
    have ho2 := Wr.owns_turn (B := fun _ => False) (unhide OW) T26 (fun _ q => q.elim)
    have hcv2 := Wr.text ho2 (by simp)
    have HBM6 := hide (((unhide HB4).turn (unhide T5) (fun q => q)).turn t6 (fun q => q))
    have HBZ6 := hide ((unhide HBZ5).turn t6 (fun q => q))
    have HG6 := hide (grown_trans (unhide HG4) ((unhide T5).trans t6 (fun _ _ q => q)).grownBy)
    clear ho2 ho6 T26 t6 ce hrZ5 HBZ5 HB4
    dsimp only at hcv6
    rcases (show G.n 0 = 1 ∨ G.n 0 = 2 ∨ G.n 0 = 3 ∨ G.n 0 = 4 by have := unhide K0; omega) with hk | hk | hk | hk
    · have c0 : y6.cell? ⟨M, 0, none⟩ = some (.int .i64 1) := ((unhide HBM6).cell (i := 0) (by omega)).trans (show some (Value.int .i64 (G.n 0)) = _ by rw [hk])
      obtain ⟨z1, z2, z3, z4, z5⟩ := (unhide ZE).1 hk
      have d1 : y6.cell? ⟨Z, 1, none⟩ = some (.int .i64 0) := ((unhide HBZ6).cell (i := 1) (by omega)).trans (show some (Value.int .i64 (Gm.n 1)) = _ by rw [z1])
      have d4 : y6.cell? ⟨Z, 4, none⟩ = some (.int .u32 0) := ((unhide HBZ6).cell (i := 4) (by omega)).trans (show some (Value.int .u32 Gm.bits) = _ by rw [z2])
      have d17 : y6.cell? ⟨Z, 17, none⟩ = some (.slice Gm.recs.1 0 Gm.recs.2.2) := ((unhide HBZ6).cell (i := 17) (by omega)).trans (show some (Value.slice Gm.recs.1 Gm.recs.2.1 Gm.recs.2.2) = _ by rw [z3])
      have d29 : y6.cell? ⟨Z, 29, none⟩ = some (.slice Gm.data.1 0 Gm.data.2.2) := ((unhide HBZ6).cell (i := 29) (by omega)).trans (show some (Value.slice Gm.data.1 Gm.data.2.1 Gm.data.2.2) = _ by rw [z4])
      have d26 : y6.cell? ⟨Z, 26, none⟩ = some (.int .i64 0) := ((unhide HBZ6).cell (i := 26) (by omega)).trans (show some (Value.int .i64 (Gm.n 26)) = _ by rw [z5])
      clear z1 z2 z3 z4 z5 ZE
      go_wp2
      go_ret
      exact ⟨rfl, none_below (unhide HG6)⟩
    · have c0 : y6.cell? ⟨M, 0, none⟩ = some (.int .i64 2) := ((unhide HBM6).cell (i := 0) (by omega)).trans (show some (Value.int .i64 (G.n 0)) = _ by rw [hk])
      obtain ⟨z1, z2⟩ := (unhide ZE).2.2 (.inl hk)
      have d29 : y6.cell? ⟨Z, 29, none⟩ = some (.slice Gm.data.1 0 Gm.data.2.2) := ((unhide HBZ6).cell (i := 29) (by omega)).trans (show some (Value.slice Gm.data.1 Gm.data.2.1 Gm.data.2.2) = _ by rw [z1])
      have d28 : y6.cell? ⟨Z, 28, none⟩ = some (.int .i64 0) := ((unhide HBZ6).cell (i := 28) (by omega)).trans (show some (Value.int .i64 (Gm.n 28)) = _ by rw [z2])
      clear z1 z2 ZE
      go_wp2
      go_ret
      exact ⟨rfl, none_below (unhide HG6)⟩
    · have c0 : y6.cell? ⟨M, 0, none⟩ = some (.int .i64 3) := ((unhide HBM6).cell (i := 0) (by omega)).trans (show some (Value.int .i64 (G.n 0)) = _ by rw [hk])
      obtain ⟨z1, z2⟩ := (unhide ZE).2.2 (.inr hk)
      have d29 : y6.cell? ⟨Z, 29, none⟩ = some (.slice Gm.data.1 0 Gm.data.2.2) := ((unhide HBZ6).cell (i := 29) (by omega)).trans (show some (Value.slice Gm.data.1 Gm.data.2.1 Gm.data.2.2) = _ by rw [z1])
      have d28 : y6.cell? ⟨Z, 28, none⟩ = some (.int .i64 0) := ((unhide HBZ6).cell (i := 28) (by omega)).trans (show some (Value.int .i64 (Gm.n 28)) = _ by rw [z2])
      clear z1 z2 ZE
      go_wp2
      go_ret
      exact ⟨rfl, none_below (unhide HG6)⟩
    · have c0 : y6.cell? ⟨M, 0, none⟩ = some (.int .i64 4) := ((unhide HBM6).cell (i := 0) (by omega)).trans (show some (Value.int .i64 (G.n 0)) = _ by rw [hk])
      obtain ⟨z1, z2, z3, z4, z5⟩ := (unhide ZE).2.1 hk
      have d3 : y6.cell? ⟨Z, 3, none⟩ = some (.bool false) := ((unhide HBZ6).cell (i := 3) (by omega)).trans (show some (Value.bool Gm.watch) = _ by rw [z1])
      have d5 : y6.cell? ⟨Z, 5, none⟩ = some (.int .i64 0) := ((unhide HBZ6).cell (i := 5) (by omega)).trans (show some (Value.int .i64 (Gm.n 5)) = _ by rw [z2])
      have d12 : y6.cell? ⟨Z, 12, none⟩ = some (.slice (Gm.row 0).1 0 (Gm.row 0).2.2) := ((unhide HBZ6).cell (i := 12) (by omega)).trans (show some (Value.slice (Gm.row 0).1 (Gm.row 0).2.1 (Gm.row 0).2.2) = _ by rw [z3])
      have d13 : y6.cell? ⟨Z, 13, none⟩ = some (.int .i64 0) := ((unhide HBZ6).cell (i := 13) (by omega)).trans (show some (Value.int .i64 (Gm.n 13)) = _ by rw [z4])
      have d14 : y6.cell? ⟨Z, 14, none⟩ = some (.int .i64 0) := ((unhide HBZ6).cell (i := 14) (by omega)).trans (show some (Value.int .i64 (Gm.n 14)) = _ by rw [z5])
      clear z1 z2 z3 z4 z5 ZE
      go_wp2
      go_ret
      exact ⟨rfl, none_below (unhide HG6)⟩

end Go.Proofs.Ytiegccdgoemamaa
