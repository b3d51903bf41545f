/-
  WireBounds, walked.
-/
import Derived.Test.YtiegccdgoemamaaWireBad
import Derived.Test.YtiegccdgoemamaaTillCall
import Derived.ChangeOld
import Derived.Below
namespace Go.Proofs.Ytiegccdgoemamaa
open Go.RowKit

theorem Wr.made (y ch : World) (Z : Array Value) (ty : TypeId) (M n : Nat) (v : Value) (hZ : ∀ i, i < n → Z[i]? = some v) (ht : Turn (fun b => b = M) (y.alloc (.cells Z ty)) ch) (hM : M < y.heap.size) : y.heap.size < ch.heap.size ∧ ∀ i, i < n → ch.cell? ⟨y.heap.size, i, none⟩ = some v := by
  have hA := Arr.lit (heap_alloc_new y (.cells Z ty))
  have hl := hA.lt
  refine ⟨Nat.lt_of_lt_of_le hl ht.size, fun i hi => ?_⟩
  have hz := hZ i hi
  rw [ht.cell hl (fun e => by omega) i, hA.cell (i := i) (Array.getElem?_eq_some_iff.1 hz).1]
  show some (Z[i]?.getD undef) = _
  rw [hz]
  rfl

theorem Wr.Goods.turn {w y y1 : World} {lo M : Nat} {Gb g G : Wr.G} {z zr : Nat → Nat → Int} (h : Wr.Goods w y lo Gb g G z zr) (ht : Turn (fun b => b = M) y y1) (hM : M < lo) (hg : w.grownBy y1 none) : Wr.Goods w y1 lo Gb g G z zr :=
  ⟨hg, h.n, h.watch, h.bits, fun j hj => (h.rows j hj).turn ht (fun b e => by rw [e]; exact hM), ⟨h.recs.1, Wr.owns_turn h.recs.2 ht (fun b e q => by have := (h.recs.2.lt b q).1; omega)⟩, h.data⟩

theorem Wr.Goods.lists {w y : World} {lo : Nat} {g G : Wr.G} {z zr : Nat → Nat → Int} {zd : Nat → Int} (h : Wr.Goods w y lo (Wr.gb g) g G z zr) (hi : Wr.Inp w g z zr zd) : (∀ j, j < 5 → Wr.RowIn y (G.row j) (fun t => z j t % 11)) ∧ Wr.RecsIn y G.recs (fun i => Wr.okRec (zr i)) ∧ Wr.BytesIn y G.data zd :=
  ⟨fun j hj => (h.rows j hj).rowIn (by omega) (fun t _ => by omega), h.recsIn, by rw [h.data]; exact (hi.on h.grown).data.cut⟩

set_option maxRecDepth 16000 in
set_option maxHeartbeats 51200000 in
theorem wireBounds_any (g : Wr.G) (kind : Int) (z zr : Nat → Nat → Int) (zd : Nat → Int) (w : World) (hi : Wr.Inp w g z zr zd) (hr : ∀ k, -9223372036854775808 ≤ g.n k ∧ g.n k ≤ 9223372036854775807) :
    Calls Try.prog 7 #[.agg g.cells, .int .i64 kind] w fun e w' => e = .returned (.bool true) ∧ Below w.heap.size w w' := by
  obtain ⟨x, hx⟩ : ∃ x, x = w.alloc (.cells g.cells 29) := ⟨_, rfl⟩
  have hg : w.grownBy x none := by rw [hx]; exact World.grownBy_alloc _ _ _
  have hb : Wr.Bx x w.heap.size 29 30 g.box := by rw [hx]; exact Wr.msgBox w g
  obtain ⟨M, hM⟩ : ∃ M, w.heap.size = M := ⟨_, rfl⟩
  rw [hM] at hb
  have HM := hide hM
  have HG := hide hg
  have HB := hide hb
  have HI := hide hi
  have HR := hide hr
  have IN1 := hide (show (Try.prog.info? 29).map (·.size) = some 30 from by kernel_rfl)
  obtain ⟨CM, hCM⟩ : ∃ CM, g.cells = CM := ⟨_, rfl⟩
  have HCM := hide hCM
  have hiCM : (Try.prog.info? 29).map (·.size) = some CM.toList.length := by
    rw [Array.length_toList, ← hCM]
    exact unhide IN1
  have cfew := hide fun x => few15_any g x hi.low
  have cgood := hide fun x (h : Wr.Inp x g z zr zd) => good15_any g z zr x h.rows h.recs ⟨h.data.1, h.room⟩
  have q0 := Int.emod_nonneg kind (b := 9) (by decide)
  have q1 := Int.emod_lt_of_pos kind (b := 9) (by decide)
  have cw := hide fun x => within15_any kind 9 x (by decide) (by decide)
  obtain ⟨q, hq⟩ : ∃ q, kind % 9 = q := ⟨_, rfl⟩
  rw [hq] at cw q0 q1
  have HQ := hide (And.intro q0 q1)
  rw [hCM] at cfew cgood
  clear hg hb hi hr hq q0 q1
  unfold Wr.G.cells at hx
  go_enter Try.func7, Try.ntmps7
  unfold Wr.G.cells
  go_upto_region 1 with fail
  rw [← hx]
  clear hx hM hCM
  go_wp2_with fail
  refine (known15_any _).mono ?_
  rintro e x1 ⟨rfl, ht⟩
  have HG1 := hide (grown_trans (unhide HG) (show x.grownBy x1 none from ⟨ht.os, ht.tape, ht.output, ht.size, fun k hk _ => ht.block k hk (fun q => q)⟩))
  have HB1 := hide ((unhide HB).turn ht (fun q => q))
  have hrg : x1.rangeAt M 0 CM.toList := by rw [← unhide HCM]; exact (unhide HB1).rangeG
  clear ht HG HB
  go_wp2_with (refine wpList_load_mid rfl 29 (.tmp 2) rfl M 0 rfl CM.toList _ hrg Try.underlying29 rfl hiCM ?_)
  refine (unhide cfew _).mono ?_
  rintro e x2 ⟨rfl, hx2⟩
  have HG2 := hide (grown_trans (unhide HG1) hx2)
  have HB2 := hide ((unhide HB1).on hx2)
  clear hrg HG1 HB1 hx2 cfew
  cases hfew : decide (Wr.bulk g + Wr.seatsLen g 4 < 2000) with
  | false =>
    go_wp2
    go_ret
    exact ⟨rfl, none_below (unhide HG2)⟩
  | true =>
    clear hfew
    have hrg : x2.rangeAt M 0 CM.toList := by rw [← unhide HCM]; exact (unhide HB2).rangeG
    go_wp2_with (refine wpList_load_mid rfl 29 (.tmp 2) rfl M 0 rfl CM.toList _ hrg Try.underlying29 rfl hiCM ?_)
    refine (unhide cgood x2 ((unhide HI).on (unhide HG2))).mono ?_
    rintro e x3 ⟨G, rfl, hgd⟩
    have HGD := hide hgd
    have HG3 := hide (grown_trans (unhide HG2) hgd.grown)
    have hB3 := (unhide HB2).on hgd.grown
    obtain ⟨CG, hCG⟩ : ∃ CG, G.cells = CG := ⟨_, rfl⟩
    have hiC2 : (Try.prog.info? 29).map (·.size) = some CG.size := by
      rw [← hCG]
      exact unhide IN1
    have hth : x3.there M 0 CG.size := by rw [← hCG]; exact hB3.thereG G
    have hone : CG.all (·.oneCell') = true := by rw [← hCG]; exact Wr.G.one G
    have HB4 : Hid (Wr.Bx (x3.setCells M 0 CG.toList) M 29 30 G.box) := (show Wr.Bx _ _ _ _ _ by rw [← hCG]; exact hB3.over G)
    rw [hCG]
    have hMx : M < x2.heap.size + 2 := by have := unhide HM; have := (unhide HG2).size; omega
    have HMX := hide hMx
    have TM := hide (Wr.turn_cells M CG.toList 0 x3)
    have HG4 := hide (own_sets (g := M) (by have := unhide HM; omega) CG.toList 0 x3 (unhide HG3))
    clear hrg cgood hgd HB2 hB3 hCG hiCM
    go_upto_region 6 with (refine wpList_store_mid rfl 29 (.tmp 2) (.tmp 13) rfl M 0 CG rfl rfl hth hiC2 hone ?_)
    obtain ⟨y, hy⟩ : ∃ y, x3.setCells M 0 CG.toList = y := ⟨_, rfl⟩
    rw [hy] at HB4 TM HG4 ⊢
    have GD := hide (show Wr.Goods w y (x2.heap.size + 2) (Wr.gb g) g G z zr from ⟨unhide HG4, (unhide HGD).n, (unhide HGD).watch, (unhide HGD).bits, fun j hj => ((unhide HGD).rows j hj).turn (unhide TM) (fun b e => by rw [e]; exact hMx), ⟨(unhide HGD).recs.1, Wr.owns_turn (unhide HGD).recs.2 (unhide TM) (fun b e q => by have := ((unhide HGD).recs.2.lt b q).1; omega)⟩, (unhide HGD).data⟩)
    have HN := hide ((unhide GD).num (unhide HR))
    have FT := hide ((unhide GD).fit (unhide HI).bits)
    clear hth hone hiC2 hy TM hMx HGD HG3 HR
    go_wp2_with fail
    refine (unhide cw _).mono ?_
    rintro e y' ⟨rfl, hy'⟩
    obtain rfl : y = y' := hy'.symm
    clear cw
    have fM := (unhide HB4).free
    rcases (show q = 0 ∨ q = 1 ∨ q = 2 ∨ q = 3 ∨ q = 4 ∨ q = 5 ∨ q = 6 ∨ q = 7 ∨ q = 8 by have := unhide HQ; omega) with rfl | rfl | rfl | rfl | rfl | rfl | rfl | rfl | rfl
    · have c0 : (y).cell? ⟨M, 0, none⟩ = some (.int .i64 (G.n 0)) := (unhide HB4).cell (i := 0) (by omega)
      go_upto_region 26 with fail
      have B2 := unhide HB4
      replace B2 := B2.store 0 (.int .i64 5)
      rw [Wr.G.num_box G 0 5 ⟨by decide, by decide, by decide, by decide, by decide, by decide, by decide, by decide, by decide⟩] at B2
      have G4 := hide (show w.grownBy (((y).setCell ⟨M, 0, none⟩ (.int .i64 5))) none from grown_store (unhide HG4) ⟨M, 0, none⟩ (show w.heap.size ≤ M by have := unhide HM; omega) _)
      have T4 := hide (show Turn (fun b => b = M) y (((y).setCell ⟨M, 0, none⟩ (.int .i64 5))) from ((Turn.refl (fun b => b = M) y).store M 0 _ rfl))
      obtain ⟨y1, hy1⟩ : ∃ q, ((y).setCell ⟨M, 0, none⟩ (.int .i64 5)) = q := ⟨_, rfl⟩
      rw [hy1] at B2 G4 T4 ⊢
      have G1 := hide ((unhide GD).turn (unhide T4) (unhide HMX) (unhide G4))
      have LI := hide ((unhide G1).lists (unhide HI))
      have HN2 := hide (show ∀ k, -9223372036854775808 ≤ (G.num 0 5).n k ∧ (G.num 0 5).n k ≤ 9223372036854775807 from fun k => by
        have h := unhide HN k
        show -9223372036854775808 ≤ (if k = 0 then (5 : Int) else G.n k) ∧ (if k = 0 then (5 : Int) else G.n k) ≤ 9223372036854775807
        repeat' split
        all_goals omega)
      obtain ⟨CG2, hCG2⟩ : ∃ CG2, Wr.G.cells (G.num 0 5) = CG2 := ⟨_, rfl⟩
      have hiCG2 : (Try.prog.info? 29).map (·.size) = some CG2.toList.length := by
        rw [Array.length_toList, ← hCG2]
        exact unhide IN1
      have hrg : y1.rangeAt M 0 CG2.toList := by rw [← hCG2]; exact B2.rangeG
      clear hy1 c0 fM
      have ce := wEncode_bad (G.num 0 5) y1 (show ¬ (1 ≤ (5 : Int) ∧ (5 : Int) ≤ 4) by omega)
      rw [hCG2] at ce
      have CE := hide ce
      clear ce hCG2
      go_wp2_with (refine wpList_load_mid rfl 29 (.tmp 2) rfl M 0 rfl CG2.toList _ hrg Try.underlying29 rfl hiCG2 ?_)
      refine (unhide CE).mono ?_
      rintro e y2 ⟨rfl, hy2⟩
      have HG5 := hide (grown_trans (unhide G4) hy2)
      clear hy2 CE hrg B2
      go_wp2
      go_ret
      exact ⟨rfl, none_below (unhide HG5)⟩
    · have c2 : (y).cell? ⟨M, 2, none⟩ = some (.int .i64 (G.n 2)) := (unhide HB4).cell (i := 2) (by omega)
      go_upto_region 26 with fail
      have B2 := unhide HB4
      replace B2 := B2.store 2 (.int .i64 1073741824)
      rw [Wr.G.num_box G 2 1073741824 ⟨by decide, by decide, by decide, by decide, by decide, by decide, by decide, by decide, by decide⟩] at B2
      have G4 := hide (show w.grownBy (((y).setCell ⟨M, 2, none⟩ (.int .i64 1073741824))) none from grown_store (unhide HG4) ⟨M, 2, none⟩ (show w.heap.size ≤ M by have := unhide HM; omega) _)
      have T4 := hide (show Turn (fun b => b = M) y (((y).setCell ⟨M, 2, none⟩ (.int .i64 1073741824))) from ((Turn.refl (fun b => b = M) y).store M 2 _ rfl))
      obtain ⟨y1, hy1⟩ : ∃ q, ((y).setCell ⟨M, 2, none⟩ (.int .i64 1073741824)) = q := ⟨_, rfl⟩
      rw [hy1] at B2 G4 T4 ⊢
      have G1 := hide ((unhide GD).turn (unhide T4) (unhide HMX) (unhide G4))
      have LI := hide ((unhide G1).lists (unhide HI))
      have HN2 := hide (show ∀ k, -9223372036854775808 ≤ (G.num 2 1073741824).n k ∧ (G.num 2 1073741824).n k ≤ 9223372036854775807 from fun k => by
        have h := unhide HN k
        show -9223372036854775808 ≤ (if k = 2 then (1073741824 : Int) else G.n k) ∧ (if k = 2 then (1073741824 : Int) else G.n k) ≤ 9223372036854775807
        repeat' split
        all_goals omega)
      obtain ⟨CG2, hCG2⟩ : ∃ CG2, Wr.G.cells (G.num 2 1073741824) = CG2 := ⟨_, rfl⟩
      have hiCG2 : (Try.prog.info? 29).map (·.size) = some CG2.toList.length := by
        rw [Array.length_toList, ← hCG2]
        exact unhide IN1
      have hrg : y1.rangeAt M 0 CG2.toList := by rw [← hCG2]; exact B2.rangeG
      clear hy1 c2 fM
      rcases (show G.n 0 = 1 ∨ G.n 0 = 2 ∨ G.n 0 = 3 ∨ G.n 0 = 4 by have := (unhide FT).k0; omega) with hk | hk | hk | hk
      · have ce := wEncode_join (G.num 2 1073741824) y1 hk (unhide HN2)
        have hp := hide (Wr.joinS_bad ([(G.num 2 1073741824).n 0 % 256], 0) (G.num 2 1073741824) (show (1073741823 : Int) < 1073741824 by omega))
        rw [hCG2] at ce
        have CE := hide ce
        clear ce hCG2
        go_wp2_with (refine wpList_load_mid rfl 29 (.tmp 2) rfl M 0 rfl CG2.toList _ hrg Try.underlying29 rfl hiCG2 ?_)
        refine (unhide CE).mono ?_
        rintro e y2 hw
        obtain ⟨rfl, hy2⟩ := Wr.written_bad hw (unhide hp)
        have HG5 := hide (grown_trans (unhide G4) hy2)
        clear hw hy2 CE hp hrg B2
        go_wp2
        go_ret
        exact ⟨rfl, none_below (unhide HG5)⟩
      · have ce := wEncode_up (G.num 2 1073741824) (fun t => z 0 t % 11) y1 hk (unhide HN2) (unhide FT).bits ((unhide LI).1 0 (by omega))
        have hp := hide (Wr.upS_bad (Wr.headS_bad ([(G.num 2 1073741824).n 0 % 256], 0) (G.num 2 1073741824) (show (1073741823 : Int) < 1073741824 by omega)) (Wr.headG (G.num 2 1073741824) (Wr.headS Wr.encS ([(G.num 2 1073741824).n 0 % 256], 0) (G.num 2 1073741824))) (fun t => z 0 t % 11))
        rw [hCG2] at ce
        have CE := hide ce
        clear ce hCG2
        go_wp2_with (refine wpList_load_mid rfl 29 (.tmp 2) rfl M 0 rfl CG2.toList _ hrg Try.underlying29 rfl hiCG2 ?_)
        refine (unhide CE).mono ?_
        rintro e y2 hw
        obtain ⟨rfl, hy2⟩ := Wr.written_bad hw (unhide hp)
        have HG5 := hide (grown_trans (unhide G4) hy2)
        clear hw hy2 CE hp hrg B2
        go_wp2
        go_ret
        exact ⟨rfl, none_below (unhide HG5)⟩
      · have ce := wEncode_down (G.num 2 1073741824) (fun i => Wr.okRec (zr i)) (fun j t => z (1 + j) t % 11) y1 hk (unhide HN2) (unhide LI).2.1 (fun i hi => (unhide LI).1 (1 + i) (by omega))
        have hp := hide (Wr.downS_bad (Wr.headS_bad ([(G.num 2 1073741824).n 0 % 256], 0) (G.num 2 1073741824) (show (1073741823 : Int) < 1073741824 by omega)) (Wr.headG (G.num 2 1073741824) (Wr.headS Wr.encS ([(G.num 2 1073741824).n 0 % 256], 0) (G.num 2 1073741824))) (fun i => Wr.okRec (zr i)) (fun j t => z (1 + j) t % 11))
        rw [hCG2] at ce
        have CE := hide ce
        clear ce hCG2
        go_wp2_with (refine wpList_load_mid rfl 29 (.tmp 2) rfl M 0 rfl CG2.toList _ hrg Try.underlying29 rfl hiCG2 ?_)
        refine (unhide CE).mono ?_
        rintro e y2 hw
        obtain ⟨rfl, hy2⟩ := Wr.written_bad hw (unhide hp)
        have HG5 := hide (grown_trans (unhide G4) hy2)
        clear hw hy2 CE hp hrg B2
        go_wp2
        go_ret
        exact ⟨rfl, none_below (unhide HG5)⟩
      · have ce := wEncode_chunk (G.num 2 1073741824) zd y1 hk (unhide HN2) (unhide LI).2.2
        have hp := hide (Wr.chunkS_bad (Wr.headS_bad ([(G.num 2 1073741824).n 0 % 256], 0) (G.num 2 1073741824) (show (1073741823 : Int) < 1073741824 by omega)) (Wr.headG (G.num 2 1073741824) (Wr.headS Wr.encS ([(G.num 2 1073741824).n 0 % 256], 0) (G.num 2 1073741824))) zd)
        rw [hCG2] at ce
        have CE := hide ce
        clear ce hCG2
        go_wp2_with (refine wpList_load_mid rfl 29 (.tmp 2) rfl M 0 rfl CG2.toList _ hrg Try.underlying29 rfl hiCG2 ?_)
        refine (unhide CE).mono ?_
        rintro e y2 hw
        obtain ⟨rfl, hy2⟩ := Wr.written_bad hw (unhide hp)
        have HG5 := hide (grown_trans (unhide G4) hy2)
        clear hw hy2 CE hp hrg B2
        go_wp2
        go_ret
        exact ⟨rfl, none_below (unhide HG5)⟩
    · go_upto_region 13 with fail
      have hde : y.drew = y.drewN 1 := rfl
      have HGd := hide (grown_drew (World.grownBy.refl y none) 1)
      obtain ⟨yd, hyd⟩ : ∃ q, y.drewN 1 = q := ⟨_, rfl⟩
      rw [hyd] at hde HGd
      clear hyd fM
      replace HB4 := hide ((unhide HB4).on (unhide HGd))
      replace GD := hide ((unhide GD).turn (Turn.new (B := fun b => b = M) (unhide HGd)) (unhide HMX) (grown_trans (unhide HG4) (unhide HGd)))
      replace HG4 := hide (grown_trans (unhide HG4) (unhide HGd))
      obtain ⟨ZZ, hmk, hZZ⟩ := Wr.make_ints
      have HZZ := hide hZZ
      clear hZZ
      have B3 := (unhide HB4).on (World.grownBy_alloc yd (.cells ZZ 3) none)
      have c0 : (yd).cell? ⟨M, 0, none⟩ = some (.int .i64 (G.n 0)) := (unhide HB4).cell (i := 0) (by omega)
      have c12 : (yd).cell? ⟨M, 12, none⟩ = some (.slice (G.row 0).1 (G.row 0).2.1 (G.row 0).2.2) := (unhide HB4).cell (i := 12) (by omega)
      have d0 : (yd.alloc (.cells ZZ 3)).cell? ⟨M, 0, none⟩ = some (.int .i64 (G.n 0)) := B3.cell (i := 0) (by omega)
      have d12 : (yd.alloc (.cells ZZ 3)).cell? ⟨M, 12, none⟩ = some (.slice (G.row 0).1 (G.row 0).2.1 (G.row 0).2.2) := B3.cell (i := 12) (by omega)
      have fA := B3.free
      have fM := (unhide HB4).free
      clear B3
      have B4 := ((unhide HB4).store 0 (.int .i64 2)).on (World.grownBy_alloc (yd.setCell ⟨M, 0, none⟩ (.int .i64 2)) (.cells ZZ 3) none)
      have e12 : ((yd.setCell ⟨M, 0, none⟩ (.int .i64 2)).alloc (.cells ZZ 3)).cell? ⟨M, 12, none⟩ = some (.slice (G.row 0).1 (G.row 0).2.1 (G.row 0).2.2) := B4.cell (i := 12) (by omega)
      have fB := B4.free
      clear B4
      refine wp_region_till (h := 4) (S := fun _ => True) (by kernel_rfl) ?_
      rw [hde]
      refine wpTill_take (i := 1) (v := ?_) [4] rfl (by kernel_rfl) (by kernel_rfl) (by kernel_rfl) (by kernel_rfl) (fun _ _ _ h => h) trivial (Or.inl ⟨by rfl, ?_⟩) ?_
      rotate_left
      · intro x hSx
        clear hSx
        go_simp
        try with_reducible rfl
      simp only [Act.put, List.getElem_toArray, List.getElem_cons_zero, List.getElem_cons_succ, List.setIfInBounds_toArray, List.set_cons_succ, List.set_cons_zero]
      refine wpTill_pair (i := 0) (j := 2) (by kernel_rfl) rfl rfl (fun K hK => ?_) (fun K hK => ?_)
      · go_simp
        refine hK.out _ _ (fun _ => trivial) ?_
        clear hK K
        refine wpTill_only (j := 2) (by kernel_rfl) rfl (fun K hK => ?_)
        go_simp
        refine hK.out _ _ (fun _ => trivial) ?_
        clear hK K
        refine wpTill_only (j := 3) (by kernel_rfl) rfl (fun K hK => ?_)
        go_simp
        refine hK.out _ _ (fun _ => trivial) ?_
        clear hK K
        refine wpTill_only (j := 4) (by kernel_rfl) rfl (fun K hK => ?_)
        go_simp
        refine hK.out _ _ (fun hx => absurd (hx.symm.trans (by kernel_rfl)) Bool.false_ne_true) ?_
        clear hK K
        refine wpTill_done (by kernel_rfl) ?_ _
        go_upto_region 26 with fail
        have B2 := unhide HB4
        have ML := B2.lt
        replace B2 := B2.on (World.grownBy_alloc _ (.cells ZZ 3) none)
        replace B2 := B2.store 0 (.int .i64 2)
        rw [Wr.G.num_box G 0 2 ⟨by decide, by decide, by decide, by decide, by decide, by decide, by decide, by decide, by decide⟩] at B2
        replace B2 := B2.store 12 (.slice (some ⟨yd.heap.size, 0, none⟩) 256 256)
        rw [Wr.G.set12_box (G.num 0 2) (some ⟨yd.heap.size, 0, none⟩, 256, 256)] at B2
        have G4 := hide (show w.grownBy (((((((yd).alloc (.cells ZZ 3))).setCell ⟨M, 0, none⟩ (.int .i64 2))).setCell ⟨M, 12, none⟩ (.slice (some ⟨yd.heap.size, 0, none⟩) 256 256))) none from grown_store (grown_store ((grown_alloc (unhide HG4) (.cells ZZ 3))) ⟨M, 0, none⟩ (show w.heap.size ≤ M by have := unhide HM; omega) _) ⟨M, 12, none⟩ (show w.heap.size ≤ M by have := unhide HM; omega) _)
        have T4 := hide (show Turn (fun b => b = M) yd (((((((yd).alloc (.cells ZZ 3))).setCell ⟨M, 0, none⟩ (.int .i64 2))).setCell ⟨M, 12, none⟩ (.slice (some ⟨yd.heap.size, 0, none⟩) 256 256))) from ((((Turn.refl (fun b => b = M) yd).then (World.grownBy_alloc _ (.cells ZZ 3) none)).store M 0 _ rfl).store M 12 _ rfl))
        obtain ⟨y1, hy1⟩ : ∃ q, ((((((yd).alloc (.cells ZZ 3))).setCell ⟨M, 0, none⟩ (.int .i64 2))).setCell ⟨M, 12, none⟩ (.slice (some ⟨yd.heap.size, 0, none⟩) 256 256)) = q := ⟨_, rfl⟩
        have MDn := Wr.made (yd) (((((((yd).alloc (.cells ZZ 3))).setCell ⟨M, 0, none⟩ (.int .i64 2))).setCell ⟨M, 12, none⟩ (.slice (some ⟨yd.heap.size, 0, none⟩) 256 256))) ZZ 3 M 256 (.int .i64 0) (unhide HZZ) (((Turn.refl (fun b => b = M) _).store M 0 _ rfl).store M 12 _ rfl) ML
        rw [show (yd).heap.size = yd.heap.size from by simp] at MDn
        have MD := hide MDn
        clear MDn ML
        rw [hy1] at B2 G4 T4 MD ⊢
        have G1 := hide ((unhide GD).turn (unhide T4) (unhide HMX) (unhide G4))
        have LI := hide ((unhide G1).lists (unhide HI))
        have HN2 := hide (show ∀ k, -9223372036854775808 ≤ ((G.num 0 2).set12 (some ⟨yd.heap.size, 0, none⟩, 256, 256)).n k ∧ ((G.num 0 2).set12 (some ⟨yd.heap.size, 0, none⟩, 256, 256)).n k ≤ 9223372036854775807 from fun k => by
          have h := unhide HN k
          show -9223372036854775808 ≤ (if k = 0 then (2 : Int) else G.n k) ∧ (if k = 0 then (2 : Int) else G.n k) ≤ 9223372036854775807
          repeat' split
          all_goals omega)
        obtain ⟨CG2, hCG2⟩ : ∃ CG2, Wr.G.cells ((G.num 0 2).set12 (some ⟨yd.heap.size, 0, none⟩, 256, 256)) = CG2 := ⟨_, rfl⟩
        have hiCG2 : (Try.prog.info? 29).map (·.size) = some CG2.toList.length := by
          rw [Array.length_toList, ← hCG2]
          exact unhide IN1
        have hrg : y1.rangeAt M 0 CG2.toList := by rw [← hCG2]; exact B2.rangeG
        clear hy1 c0 c12 fM fA fB hmk hde d0 d12 e12
        have ce := wEncode_up ((G.num 0 2).set12 (some ⟨yd.heap.size, 0, none⟩, 256, 256)) (fun _ => 0) y1 rfl (unhide HN2) (unhide FT).bits ⟨by show 256 ≤ 1048576; omega, fun i hi => ⟨yd.heap.size, 0, rfl, (unhide MD).1, by rw [Nat.zero_add]; exact (unhide MD).2 i hi, show (-9223372036854775808 : Int) ≤ 0 by decide, show (0 : Int) ≤ 9223372036854775807 by decide⟩⟩
        have hp := hide (Wr.upS_long (Wr.headS Wr.encS ([((G.num 0 2).set12 (some ⟨yd.heap.size, 0, none⟩, 256, 256)).n 0 % 256], 0) ((G.num 0 2).set12 (some ⟨yd.heap.size, 0, none⟩, 256, 256))).1 (Wr.headG ((G.num 0 2).set12 (some ⟨yd.heap.size, 0, none⟩, 256, 256)) (Wr.headS Wr.encS ([((G.num 0 2).set12 (some ⟨yd.heap.size, 0, none⟩, 256, 256)).n 0 % 256], 0) ((G.num 0 2).set12 (some ⟨yd.heap.size, 0, none⟩, 256, 256)))) (fun _ => 0) (show 255 < 256 by omega))
        rw [hCG2] at ce
        have CE := hide ce
        clear ce hCG2
        go_wp2_with (refine wpList_load_mid rfl 29 (.tmp 2) rfl M 0 rfl CG2.toList _ hrg Try.underlying29 rfl hiCG2 ?_)
        refine (unhide CE).mono ?_
        rintro e y2 hw
        obtain ⟨rfl, hy2⟩ := Wr.written_bad hw (unhide hp)
        have HG5 := hide (grown_trans (unhide G4) hy2)
        clear hw hy2 CE hp hrg B2
        go_wp2
        go_ret
        exact ⟨rfl, none_below (unhide HG5)⟩
      · go_simp
        refine hK.out _ _ (fun _ => trivial) ?_
        clear hK K
        refine wpTill_only (j := 0) (by kernel_rfl) rfl (fun K hK => ?_)
        go_simp
        refine hK.out _ _ (fun _ => trivial) ?_
        clear hK K
        refine wpTill_only (j := 3) (by kernel_rfl) rfl (fun K hK => ?_)
        go_simp
        refine hK.out _ _ (fun _ => trivial) ?_
        clear hK K
        refine wpTill_only (j := 4) (by kernel_rfl) rfl (fun K hK => ?_)
        go_simp
        refine hK.out _ _ (fun hx => absurd (hx.symm.trans (by kernel_rfl)) Bool.false_ne_true) ?_
        clear hK K
        refine wpTill_done (by kernel_rfl) ?_ _
        go_upto_region 26 with fail
        have B2 := unhide HB4
        replace B2 := B2.store 0 (.int .i64 2)
        rw [Wr.G.num_box G 0 2 ⟨by decide, by decide, by decide, by decide, by decide, by decide, by decide, by decide, by decide⟩] at B2
        have ML := B2.lt
        replace B2 := B2.on (World.grownBy_alloc _ (.cells ZZ 3) none)
        replace B2 := B2.store 12 (.slice (some ⟨yd.heap.size, 0, none⟩) 256 256)
        rw [Wr.G.set12_box (G.num 0 2) (some ⟨yd.heap.size, 0, none⟩, 256, 256)] at B2
        have G4 := hide (show w.grownBy (((((((yd).setCell ⟨M, 0, none⟩ (.int .i64 2))).alloc (.cells ZZ 3))).setCell ⟨M, 12, none⟩ (.slice (some ⟨yd.heap.size, 0, none⟩) 256 256))) none from grown_store ((grown_alloc (grown_store (unhide HG4) ⟨M, 0, none⟩ (show w.heap.size ≤ M by have := unhide HM; omega) _) (.cells ZZ 3))) ⟨M, 12, none⟩ (show w.heap.size ≤ M by have := unhide HM; omega) _)
        have T4 := hide (show Turn (fun b => b = M) yd (((((((yd).setCell ⟨M, 0, none⟩ (.int .i64 2))).alloc (.cells ZZ 3))).setCell ⟨M, 12, none⟩ (.slice (some ⟨yd.heap.size, 0, none⟩) 256 256))) from ((((Turn.refl (fun b => b = M) yd).store M 0 _ rfl).then (World.grownBy_alloc _ (.cells ZZ 3) none)).store M 12 _ rfl))
        obtain ⟨y1, hy1⟩ : ∃ q, ((((((yd).setCell ⟨M, 0, none⟩ (.int .i64 2))).alloc (.cells ZZ 3))).setCell ⟨M, 12, none⟩ (.slice (some ⟨yd.heap.size, 0, none⟩) 256 256)) = q := ⟨_, rfl⟩
        have MDn := Wr.made (((yd).setCell ⟨M, 0, none⟩ (.int .i64 2))) (((((((yd).setCell ⟨M, 0, none⟩ (.int .i64 2))).alloc (.cells ZZ 3))).setCell ⟨M, 12, none⟩ (.slice (some ⟨yd.heap.size, 0, none⟩) 256 256))) ZZ 3 M 256 (.int .i64 0) (unhide HZZ) ((Turn.refl (fun b => b = M) _).store M 12 _ rfl) ML
        rw [show (((yd).setCell ⟨M, 0, none⟩ (.int .i64 2))).heap.size = yd.heap.size from by simp] at MDn
        have MD := hide MDn
        clear MDn ML
        rw [hy1] at B2 G4 T4 MD ⊢
        have G1 := hide ((unhide GD).turn (unhide T4) (unhide HMX) (unhide G4))
        have LI := hide ((unhide G1).lists (unhide HI))
        have HN2 := hide (show ∀ k, -9223372036854775808 ≤ ((G.num 0 2).set12 (some ⟨yd.heap.size, 0, none⟩, 256, 256)).n k ∧ ((G.num 0 2).set12 (some ⟨yd.heap.size, 0, none⟩, 256, 256)).n k ≤ 9223372036854775807 from fun k => by
          have h := unhide HN k
          show -9223372036854775808 ≤ (if k = 0 then (2 : Int) else G.n k) ∧ (if k = 0 then (2 : Int) else G.n k) ≤ 9223372036854775807
          repeat' split
          all_goals omega)
        obtain ⟨CG2, hCG2⟩ : ∃ CG2, Wr.G.cells ((G.num 0 2).set12 (some ⟨yd.heap.size, 0, none⟩, 256, 256)) = CG2 := ⟨_, rfl⟩
        have hiCG2 : (Try.prog.info? 29).map (·.size) = some CG2.toList.length := by
          rw [Array.length_toList, ← hCG2]
          exact unhide IN1
        have hrg : y1.rangeAt M 0 CG2.toList := by rw [← hCG2]; exact B2.rangeG
        clear hy1 c0 c12 fM fA fB hmk hde d0 d12 e12
        have ce := wEncode_up ((G.num 0 2).set12 (some ⟨yd.heap.size, 0, none⟩, 256, 256)) (fun _ => 0) y1 rfl (unhide HN2) (unhide FT).bits ⟨by show 256 ≤ 1048576; omega, fun i hi => ⟨yd.heap.size, 0, rfl, (unhide MD).1, by rw [Nat.zero_add]; exact (unhide MD).2 i hi, show (-9223372036854775808 : Int) ≤ 0 by decide, show (0 : Int) ≤ 9223372036854775807 by decide⟩⟩
        have hp := hide (Wr.upS_long (Wr.headS Wr.encS ([((G.num 0 2).set12 (some ⟨yd.heap.size, 0, none⟩, 256, 256)).n 0 % 256], 0) ((G.num 0 2).set12 (some ⟨yd.heap.size, 0, none⟩, 256, 256))).1 (Wr.headG ((G.num 0 2).set12 (some ⟨yd.heap.size, 0, none⟩, 256, 256)) (Wr.headS Wr.encS ([((G.num 0 2).set12 (some ⟨yd.heap.size, 0, none⟩, 256, 256)).n 0 % 256], 0) ((G.num 0 2).set12 (some ⟨yd.heap.size, 0, none⟩, 256, 256)))) (fun _ => 0) (show 255 < 256 by omega))
        rw [hCG2] at ce
        have CE := hide ce
        clear ce hCG2
        go_wp2_with (refine wpList_load_mid rfl 29 (.tmp 2) rfl M 0 rfl CG2.toList _ hrg Try.underlying29 rfl hiCG2 ?_)
        refine (unhide CE).mono ?_
        rintro e y2 hw
        obtain ⟨rfl, hy2⟩ := Wr.written_bad hw (unhide hp)
        have HG5 := hide (grown_trans (unhide G4) hy2)
        clear hw hy2 CE hp hrg B2
        go_wp2
        go_ret
        exact ⟨rfl, none_below (unhide HG5)⟩
    · have B3 := (unhide HB4).on (World.grownBy_alloc y (.cells #[.int .i64 11] 3) none)
      have c0 : (y).cell? ⟨M, 0, none⟩ = some (.int .i64 (G.n 0)) := (unhide HB4).cell (i := 0) (by omega)
      have c12 : (y).cell? ⟨M, 12, none⟩ = some (.slice (G.row 0).1 (G.row 0).2.1 (G.row 0).2.2) := (unhide HB4).cell (i := 12) (by omega)
      have d0 : (y.alloc (.cells #[.int .i64 11] 3)).cell? ⟨M, 0, none⟩ = some (.int .i64 (G.n 0)) := B3.cell (i := 0) (by omega)
      have d12 : (y.alloc (.cells #[.int .i64 11] 3)).cell? ⟨M, 12, none⟩ = some (.slice (G.row 0).1 (G.row 0).2.1 (G.row 0).2.2) := B3.cell (i := 12) (by omega)
      have fA := B3.free
      clear B3
      go_upto_region 26 with fail
      have B2 := unhide HB4
      have ML := B2.lt
      replace B2 := B2.on (World.grownBy_alloc _ (.cells #[.int .i64 11] 3) none)
      replace B2 := B2.store 0 (.int .i64 2)
      rw [Wr.G.num_box G 0 2 ⟨by decide, by decide, by decide, by decide, by decide, by decide, by decide, by decide, by decide⟩] at B2
      replace B2 := B2.store 12 (.slice (some ⟨y.heap.size, 0, none⟩) 1 1)
      rw [Wr.G.set12_box (G.num 0 2) (some ⟨y.heap.size, 0, none⟩, 1, 1)] at B2
      have G4 := hide (show w.grownBy (((((((y).alloc (.cells #[.int .i64 11] 3))).setCell ⟨M, 0, none⟩ (.int .i64 2))).setCell ⟨M, 12, none⟩ (.slice (some ⟨y.heap.size, 0, none⟩) 1 1))) none from grown_store (grown_store ((grown_alloc (unhide HG4) (.cells #[.int .i64 11] 3))) ⟨M, 0, none⟩ (show w.heap.size ≤ M by have := unhide HM; omega) _) ⟨M, 12, none⟩ (show w.heap.size ≤ M by have := unhide HM; omega) _)
      have T4 := hide (show Turn (fun b => b = M) y (((((((y).alloc (.cells #[.int .i64 11] 3))).setCell ⟨M, 0, none⟩ (.int .i64 2))).setCell ⟨M, 12, none⟩ (.slice (some ⟨y.heap.size, 0, none⟩) 1 1))) from ((((Turn.refl (fun b => b = M) y).then (World.grownBy_alloc _ (.cells #[.int .i64 11] 3) none)).store M 0 _ rfl).store M 12 _ rfl))
      obtain ⟨y1, hy1⟩ : ∃ q, ((((((y).alloc (.cells #[.int .i64 11] 3))).setCell ⟨M, 0, none⟩ (.int .i64 2))).setCell ⟨M, 12, none⟩ (.slice (some ⟨y.heap.size, 0, none⟩) 1 1)) = q := ⟨_, rfl⟩
      have MDn := Wr.made (y) (((((((y).alloc (.cells #[.int .i64 11] 3))).setCell ⟨M, 0, none⟩ (.int .i64 2))).setCell ⟨M, 12, none⟩ (.slice (some ⟨y.heap.size, 0, none⟩) 1 1))) #[.int .i64 11] 3 M 1 (.int .i64 11) (fun i hi => by (have e : i = 0 := by omega); subst e; rfl) (((Turn.refl (fun b => b = M) _).store M 0 _ rfl).store M 12 _ rfl) ML
      rw [show (y).heap.size = y.heap.size from by simp] at MDn
      have MD := hide MDn
      clear MDn ML
      rw [hy1] at B2 G4 T4 MD ⊢
      have G1 := hide ((unhide GD).turn (unhide T4) (unhide HMX) (unhide G4))
      have LI := hide ((unhide G1).lists (unhide HI))
      have HN2 := hide (show ∀ k, -9223372036854775808 ≤ ((G.num 0 2).set12 (some ⟨y.heap.size, 0, none⟩, 1, 1)).n k ∧ ((G.num 0 2).set12 (some ⟨y.heap.size, 0, none⟩, 1, 1)).n k ≤ 9223372036854775807 from fun k => by
        have h := unhide HN k
        show -9223372036854775808 ≤ (if k = 0 then (2 : Int) else G.n k) ∧ (if k = 0 then (2 : Int) else G.n k) ≤ 9223372036854775807
        repeat' split
        all_goals omega)
      obtain ⟨CG2, hCG2⟩ : ∃ CG2, Wr.G.cells ((G.num 0 2).set12 (some ⟨y.heap.size, 0, none⟩, 1, 1)) = CG2 := ⟨_, rfl⟩
      have hiCG2 : (Try.prog.info? 29).map (·.size) = some CG2.toList.length := by
        rw [Array.length_toList, ← hCG2]
        exact unhide IN1
      have hrg : y1.rangeAt M 0 CG2.toList := by rw [← hCG2]; exact B2.rangeG
      clear hy1 c0 c12 fM fA d0 d12
      have ce := wEncode_up ((G.num 0 2).set12 (some ⟨y.heap.size, 0, none⟩, 1, 1)) (fun _ => 11) y1 rfl (unhide HN2) (unhide FT).bits ⟨by show 1 ≤ 1048576; omega, fun i hi => ⟨y.heap.size, 0, rfl, (unhide MD).1, by rw [Nat.zero_add]; exact (unhide MD).2 i hi, show (-9223372036854775808 : Int) ≤ 11 by decide, show (11 : Int) ≤ 9223372036854775807 by decide⟩⟩
      have hp := hide (Wr.upS_eleven (Wr.headS Wr.encS ([((G.num 0 2).set12 (some ⟨y.heap.size, 0, none⟩, 1, 1)).n 0 % 256], 0) ((G.num 0 2).set12 (some ⟨y.heap.size, 0, none⟩, 1, 1))).1 (Wr.headG ((G.num 0 2).set12 (some ⟨y.heap.size, 0, none⟩, 1, 1)) (Wr.headS Wr.encS ([((G.num 0 2).set12 (some ⟨y.heap.size, 0, none⟩, 1, 1)).n 0 % 256], 0) ((G.num 0 2).set12 (some ⟨y.heap.size, 0, none⟩, 1, 1)))) (fun _ => 11) rfl rfl)
      rw [hCG2] at ce
      have CE := hide ce
      clear ce hCG2
      go_wp2_with (refine wpList_load_mid rfl 29 (.tmp 2) rfl M 0 rfl CG2.toList _ hrg Try.underlying29 rfl hiCG2 ?_)
      refine (unhide CE).mono ?_
      rintro e y2 hw
      obtain ⟨rfl, hy2⟩ := Wr.written_bad hw (unhide hp)
      have HG5 := hide (grown_trans (unhide G4) hy2)
      clear hw hy2 CE hp hrg B2
      go_wp2
      go_ret
      exact ⟨rfl, none_below (unhide HG5)⟩
    · go_upto_region 17 with fail
      have hde : y.drew = y.drewN 1 := rfl
      have HGd := hide (grown_drew (World.grownBy.refl y none) 1)
      obtain ⟨yd, hyd⟩ : ∃ q, y.drewN 1 = q := ⟨_, rfl⟩
      rw [hyd] at hde HGd
      clear hyd fM
      replace HB4 := hide ((unhide HB4).on (unhide HGd))
      replace GD := hide ((unhide GD).turn (Turn.new (B := fun b => b = M) (unhide HGd)) (unhide HMX) (grown_trans (unhide HG4) (unhide HGd)))
      replace HG4 := hide (grown_trans (unhide HG4) (unhide HGd))
      obtain ⟨ZZ, hmk, hZZ⟩ := Wr.make_recs
      have HZZ := hide hZZ
      clear hZZ
      have B3 := (unhide HB4).on (World.grownBy_alloc yd (.cells ZZ 50) none)
      have c0 : (yd).cell? ⟨M, 0, none⟩ = some (.int .i64 (G.n 0)) := (unhide HB4).cell (i := 0) (by omega)
      have c17 : (yd).cell? ⟨M, 17, none⟩ = some (.slice G.recs.1 G.recs.2.1 G.recs.2.2) := (unhide HB4).cell (i := 17) (by omega)
      have d0 : (yd.alloc (.cells ZZ 50)).cell? ⟨M, 0, none⟩ = some (.int .i64 (G.n 0)) := B3.cell (i := 0) (by omega)
      have d17 : (yd.alloc (.cells ZZ 50)).cell? ⟨M, 17, none⟩ = some (.slice G.recs.1 G.recs.2.1 G.recs.2.2) := B3.cell (i := 17) (by omega)
      have fA := B3.free
      have fM := (unhide HB4).free
      clear B3
      have B4 := ((unhide HB4).store 0 (.int .i64 3)).on (World.grownBy_alloc (yd.setCell ⟨M, 0, none⟩ (.int .i64 3)) (.cells ZZ 50) none)
      have e17 : ((yd.setCell ⟨M, 0, none⟩ (.int .i64 3)).alloc (.cells ZZ 50)).cell? ⟨M, 17, none⟩ = some (.slice G.recs.1 G.recs.2.1 G.recs.2.2) := B4.cell (i := 17) (by omega)
      have fB := B4.free
      clear B4
      refine wp_region_till (h := 4) (S := fun _ => True) (by kernel_rfl) ?_
      rw [hde]
      refine wpTill_take (i := 1) (v := ?_) [4] rfl (by kernel_rfl) (by kernel_rfl) (by kernel_rfl) (by kernel_rfl) (fun _ _ _ h => h) trivial (Or.inl ⟨by rfl, ?_⟩) ?_
      rotate_left
      · intro x hSx
        clear hSx
        go_simp
        try with_reducible rfl
      simp only [Act.put, List.getElem_toArray, List.getElem_cons_zero, List.getElem_cons_succ, List.setIfInBounds_toArray, List.set_cons_succ, List.set_cons_zero]
      refine wpTill_pair (i := 0) (j := 2) (by kernel_rfl) rfl rfl (fun K hK => ?_) (fun K hK => ?_)
      · go_simp
        refine hK.out _ _ (fun _ => trivial) ?_
        clear hK K
        refine wpTill_only (j := 2) (by kernel_rfl) rfl (fun K hK => ?_)
        go_simp
        refine hK.out _ _ (fun _ => trivial) ?_
        clear hK K
        refine wpTill_only (j := 3) (by kernel_rfl) rfl (fun K hK => ?_)
        go_simp
        refine hK.out _ _ (fun _ => trivial) ?_
        clear hK K
        refine wpTill_only (j := 4) (by kernel_rfl) rfl (fun K hK => ?_)
        go_simp
        refine hK.out _ _ (fun hx => absurd (hx.symm.trans (by kernel_rfl)) Bool.false_ne_true) ?_
        clear hK K
        refine wpTill_done (by kernel_rfl) ?_ _
        go_upto_region 26 with fail
        have B2 := unhide HB4
        have ML := B2.lt
        replace B2 := B2.on (World.grownBy_alloc _ (.cells ZZ 50) none)
        replace B2 := B2.store 0 (.int .i64 3)
        rw [Wr.G.num_box G 0 3 ⟨by decide, by decide, by decide, by decide, by decide, by decide, by decide, by decide, by decide⟩] at B2
        replace B2 := B2.store 17 (.slice (some ⟨yd.heap.size, 0, none⟩) 401 401)
        rw [Wr.G.set17_box (G.num 0 3) (some ⟨yd.heap.size, 0, none⟩, 401, 401)] at B2
        have G4 := hide (show w.grownBy (((((((yd).alloc (.cells ZZ 50))).setCell ⟨M, 0, none⟩ (.int .i64 3))).setCell ⟨M, 17, none⟩ (.slice (some ⟨yd.heap.size, 0, none⟩) 401 401))) none from grown_store (grown_store ((grown_alloc (unhide HG4) (.cells ZZ 50))) ⟨M, 0, none⟩ (show w.heap.size ≤ M by have := unhide HM; omega) _) ⟨M, 17, none⟩ (show w.heap.size ≤ M by have := unhide HM; omega) _)
        have T4 := hide (show Turn (fun b => b = M) yd (((((((yd).alloc (.cells ZZ 50))).setCell ⟨M, 0, none⟩ (.int .i64 3))).setCell ⟨M, 17, none⟩ (.slice (some ⟨yd.heap.size, 0, none⟩) 401 401))) from ((((Turn.refl (fun b => b = M) yd).then (World.grownBy_alloc _ (.cells ZZ 50) none)).store M 0 _ rfl).store M 17 _ rfl))
        obtain ⟨y1, hy1⟩ : ∃ q, ((((((yd).alloc (.cells ZZ 50))).setCell ⟨M, 0, none⟩ (.int .i64 3))).setCell ⟨M, 17, none⟩ (.slice (some ⟨yd.heap.size, 0, none⟩) 401 401)) = q := ⟨_, rfl⟩
        have MDn := Wr.made (yd) (((((((yd).alloc (.cells ZZ 50))).setCell ⟨M, 0, none⟩ (.int .i64 3))).setCell ⟨M, 17, none⟩ (.slice (some ⟨yd.heap.size, 0, none⟩) 401 401))) ZZ 50 M 2005 (.int .i64 0) (unhide HZZ) (((Turn.refl (fun b => b = M) _).store M 0 _ rfl).store M 17 _ rfl) ML
        rw [show (yd).heap.size = yd.heap.size from by simp] at MDn
        have MD := hide MDn
        clear MDn ML
        rw [hy1] at B2 G4 T4 MD ⊢
        have G1 := hide ((unhide GD).turn (unhide T4) (unhide HMX) (unhide G4))
        have LI := hide ((unhide G1).lists (unhide HI))
        have HN2 := hide (show ∀ k, -9223372036854775808 ≤ ((G.num 0 3).set17 (some ⟨yd.heap.size, 0, none⟩, 401, 401)).n k ∧ ((G.num 0 3).set17 (some ⟨yd.heap.size, 0, none⟩, 401, 401)).n k ≤ 9223372036854775807 from fun k => by
          have h := unhide HN k
          show -9223372036854775808 ≤ (if k = 0 then (3 : Int) else G.n k) ∧ (if k = 0 then (3 : Int) else G.n k) ≤ 9223372036854775807
          repeat' split
          all_goals omega)
        obtain ⟨CG2, hCG2⟩ : ∃ CG2, Wr.G.cells ((G.num 0 3).set17 (some ⟨yd.heap.size, 0, none⟩, 401, 401)) = CG2 := ⟨_, rfl⟩
        have hiCG2 : (Try.prog.info? 29).map (·.size) = some CG2.toList.length := by
          rw [Array.length_toList, ← hCG2]
          exact unhide IN1
        have hrg : y1.rangeAt M 0 CG2.toList := by rw [← hCG2]; exact B2.rangeG
        clear hy1 c0 c17 fM fA fB hmk hde d0 d17 e17
        have ce := wEncode_down ((G.num 0 3).set17 (some ⟨yd.heap.size, 0, none⟩, 401, 401)) (fun _ _ => 0) (fun j t => z (1 + j) t % 11) y1 rfl (unhide HN2) ⟨by show 401 ≤ 1048576; omega, fun e => (by cases e), fun i hi => ⟨yd.heap.size, 0, rfl, (unhide MD).1, fun j hj => by rw [Nat.zero_add]; exact (unhide MD).2 (i * 5 + j) (by have h : i < 401 := hi; omega)⟩, fun i j _ => ⟨show (-9223372036854775808 : Int) ≤ 0 by decide, show (0 : Int) ≤ 9223372036854775807 by decide⟩⟩ (fun i hi => (unhide LI).1 (1 + i) (by omega))
        have hp := hide (Wr.downS_long (Wr.headS Wr.encS ([((G.num 0 3).set17 (some ⟨yd.heap.size, 0, none⟩, 401, 401)).n 0 % 256], 0) ((G.num 0 3).set17 (some ⟨yd.heap.size, 0, none⟩, 401, 401))).1 (Wr.headG ((G.num 0 3).set17 (some ⟨yd.heap.size, 0, none⟩, 401, 401)) (Wr.headS Wr.encS ([((G.num 0 3).set17 (some ⟨yd.heap.size, 0, none⟩, 401, 401)).n 0 % 256], 0) ((G.num 0 3).set17 (some ⟨yd.heap.size, 0, none⟩, 401, 401)))) (fun _ _ => 0) (fun j t => z (1 + j) t % 11) (show 400 < 401 by omega))
        rw [hCG2] at ce
        have CE := hide ce
        clear ce hCG2
        go_wp2_with (refine wpList_load_mid rfl 29 (.tmp 2) rfl M 0 rfl CG2.toList _ hrg Try.underlying29 rfl hiCG2 ?_)
        refine (unhide CE).mono ?_
        rintro e y2 hw
        obtain ⟨rfl, hy2⟩ := Wr.written_bad hw (unhide hp)
        have HG5 := hide (grown_trans (unhide G4) hy2)
        clear hw hy2 CE hp hrg B2
        go_wp2
        go_ret
        exact ⟨rfl, none_below (unhide HG5)⟩
      · go_simp
        refine hK.out _ _ (fun _ => trivial) ?_
        clear hK K
        refine wpTill_only (j := 0) (by kernel_rfl) rfl (fun K hK => ?_)
        go_simp
        refine hK.out _ _ (fun _ => trivial) ?_
        clear hK K
        refine wpTill_only (j := 3) (by kernel_rfl) rfl (fun K hK => ?_)
        go_simp
        refine hK.out _ _ (fun _ => trivial) ?_
        clear hK K
        refine wpTill_only (j := 4) (by kernel_rfl) rfl (fun K hK => ?_)
        go_simp
        refine hK.out _ _ (fun hx => absurd (hx.symm.trans (by kernel_rfl)) Bool.false_ne_true) ?_
        clear hK K
        refine wpTill_done (by kernel_rfl) ?_ _
        go_upto_region 26 with fail
        have B2 := unhide HB4
        replace B2 := B2.store 0 (.int .i64 3)
        rw [Wr.G.num_box G 0 3 ⟨by decide, by decide, by decide, by decide, by decide, by decide, by decide, by decide, by decide⟩] at B2
        have ML := B2.lt
        replace B2 := B2.on (World.grownBy_alloc _ (.cells ZZ 50) none)
        replace B2 := B2.store 17 (.slice (some ⟨yd.heap.size, 0, none⟩) 401 401)
        rw [Wr.G.set17_box (G.num 0 3) (some ⟨yd.heap.size, 0, none⟩, 401, 401)] at B2
        have G4 := hide (show w.grownBy (((((((yd).setCell ⟨M, 0, none⟩ (.int .i64 3))).alloc (.cells ZZ 50))).setCell ⟨M, 17, none⟩ (.slice (some ⟨yd.heap.size, 0, none⟩) 401 401))) none from grown_store ((grown_alloc (grown_store (unhide HG4) ⟨M, 0, none⟩ (show w.heap.size ≤ M by have := unhide HM; omega) _) (.cells ZZ 50))) ⟨M, 17, none⟩ (show w.heap.size ≤ M by have := unhide HM; omega) _)
        have T4 := hide (show Turn (fun b => b = M) yd (((((((yd).setCell ⟨M, 0, none⟩ (.int .i64 3))).alloc (.cells ZZ 50))).setCell ⟨M, 17, none⟩ (.slice (some ⟨yd.heap.size, 0, none⟩) 401 401))) from ((((Turn.refl (fun b => b = M) yd).store M 0 _ rfl).then (World.grownBy_alloc _ (.cells ZZ 50) none)).store M 17 _ rfl))
        obtain ⟨y1, hy1⟩ : ∃ q, ((((((yd).setCell ⟨M, 0, none⟩ (.int .i64 3))).alloc (.cells ZZ 50))).setCell ⟨M, 17, none⟩ (.slice (some ⟨yd.heap.size, 0, none⟩) 401 401)) = q := ⟨_, rfl⟩
        have MDn := Wr.made (((yd).setCell ⟨M, 0, none⟩ (.int .i64 3))) (((((((yd).setCell ⟨M, 0, none⟩ (.int .i64 3))).alloc (.cells ZZ 50))).setCell ⟨M, 17, none⟩ (.slice (some ⟨yd.heap.size, 0, none⟩) 401 401))) ZZ 50 M 2005 (.int .i64 0) (unhide HZZ) ((Turn.refl (fun b => b = M) _).store M 17 _ rfl) ML
        rw [show (((yd).setCell ⟨M, 0, none⟩ (.int .i64 3))).heap.size = yd.heap.size from by simp] at MDn
        have MD := hide MDn
        clear MDn ML
        rw [hy1] at B2 G4 T4 MD ⊢
        have G1 := hide ((unhide GD).turn (unhide T4) (unhide HMX) (unhide G4))
        have LI := hide ((unhide G1).lists (unhide HI))
        have HN2 := hide (show ∀ k, -9223372036854775808 ≤ ((G.num 0 3).set17 (some ⟨yd.heap.size, 0, none⟩, 401, 401)).n k ∧ ((G.num 0 3).set17 (some ⟨yd.heap.size, 0, none⟩, 401, 401)).n k ≤ 9223372036854775807 from fun k => by
          have h := unhide HN k
          show -9223372036854775808 ≤ (if k = 0 then (3 : Int) else G.n k) ∧ (if k = 0 then (3 : Int) else G.n k) ≤ 9223372036854775807
          repeat' split
          all_goals omega)
        obtain ⟨CG2, hCG2⟩ : ∃ CG2, Wr.G.cells ((G.num 0 3).set17 (some ⟨yd.heap.size, 0, none⟩, 401, 401)) = CG2 := ⟨_, rfl⟩
        have hiCG2 : (Try.prog.info? 29).map (·.size) = some CG2.toList.length := by
          rw [Array.length_toList, ← hCG2]
          exact unhide IN1
        have hrg : y1.rangeAt M 0 CG2.toList := by rw [← hCG2]; exact B2.rangeG
        clear hy1 c0 c17 fM fA fB hmk hde d0 d17 e17
        have ce := wEncode_down ((G.num 0 3).set17 (some ⟨yd.heap.size, 0, none⟩, 401, 401)) (fun _ _ => 0) (fun j t => z (1 + j) t % 11) y1 rfl (unhide HN2) ⟨by show 401 ≤ 1048576; omega, fun e => (by cases e), fun i hi => ⟨yd.heap.size, 0, rfl, (unhide MD).1, fun j hj => by rw [Nat.zero_add]; exact (unhide MD).2 (i * 5 + j) (by have h : i < 401 := hi; omega)⟩, fun i j _ => ⟨show (-9223372036854775808 : Int) ≤ 0 by decide, show (0 : Int) ≤ 9223372036854775807 by decide⟩⟩ (fun i hi => (unhide LI).1 (1 + i) (by omega))
        have hp := hide (Wr.downS_long (Wr.headS Wr.encS ([((G.num 0 3).set17 (some ⟨yd.heap.size, 0, none⟩, 401, 401)).n 0 % 256], 0) ((G.num 0 3).set17 (some ⟨yd.heap.size, 0, none⟩, 401, 401))).1 (Wr.headG ((G.num 0 3).set17 (some ⟨yd.heap.size, 0, none⟩, 401, 401)) (Wr.headS Wr.encS ([((G.num 0 3).set17 (some ⟨yd.heap.size, 0, none⟩, 401, 401)).n 0 % 256], 0) ((G.num 0 3).set17 (some ⟨yd.heap.size, 0, none⟩, 401, 401)))) (fun _ _ => 0) (fun j t => z (1 + j) t % 11) (show 400 < 401 by omega))
        rw [hCG2] at ce
        have CE := hide ce
        clear ce hCG2
        go_wp2_with (refine wpList_load_mid rfl 29 (.tmp 2) rfl M 0 rfl CG2.toList _ hrg Try.underlying29 rfl hiCG2 ?_)
        refine (unhide CE).mono ?_
        rintro e y2 hw
        obtain ⟨rfl, hy2⟩ := Wr.written_bad hw (unhide hp)
        have HG5 := hide (grown_trans (unhide G4) hy2)
        clear hw hy2 CE hp hrg B2
        go_wp2
        go_ret
        exact ⟨rfl, none_below (unhide HG5)⟩
    · have c0 : (y).cell? ⟨M, 0, none⟩ = some (.int .i64 (G.n 0)) := (unhide HB4).cell (i := 0) (by omega)
      have c13 : (y).cell? ⟨M, 13, none⟩ = some (.int .i64 (G.n 13)) := (unhide HB4).cell (i := 13) (by omega)
      go_upto_region 26 with fail
      have B2 := unhide HB4
      replace B2 := B2.store 0 (.int .i64 3)
      rw [Wr.G.num_box G 0 3 ⟨by decide, by decide, by decide, by decide, by decide, by decide, by decide, by decide, by decide⟩] at B2
      replace B2 := B2.store 13 (.int .i64 8)
      rw [Wr.G.num_box (G.num 0 3) 13 8 ⟨by decide, by decide, by decide, by decide, by decide, by decide, by decide, by decide, by decide⟩] at B2
      have G4 := hide (show w.grownBy (((((y).setCell ⟨M, 0, none⟩ (.int .i64 3))).setCell ⟨M, 13, none⟩ (.int .i64 8))) none from grown_store (grown_store (unhide HG4) ⟨M, 0, none⟩ (show w.heap.size ≤ M by have := unhide HM; omega) _) ⟨M, 13, none⟩ (show w.heap.size ≤ M by have := unhide HM; omega) _)
      have T4 := hide (show Turn (fun b => b = M) y (((((y).setCell ⟨M, 0, none⟩ (.int .i64 3))).setCell ⟨M, 13, none⟩ (.int .i64 8))) from (((Turn.refl (fun b => b = M) y).store M 0 _ rfl).store M 13 _ rfl))
      obtain ⟨y1, hy1⟩ : ∃ q, ((((y).setCell ⟨M, 0, none⟩ (.int .i64 3))).setCell ⟨M, 13, none⟩ (.int .i64 8)) = q := ⟨_, rfl⟩
      rw [hy1] at B2 G4 T4 ⊢
      have G1 := hide ((unhide GD).turn (unhide T4) (unhide HMX) (unhide G4))
      have LI := hide ((unhide G1).lists (unhide HI))
      have HN2 := hide (show ∀ k, -9223372036854775808 ≤ ((G.num 0 3).num 13 8).n k ∧ ((G.num 0 3).num 13 8).n k ≤ 9223372036854775807 from fun k => by
        have h := unhide HN k
        show -9223372036854775808 ≤ (if k = 13 then (8 : Int) else (if k = 0 then (3 : Int) else G.n k)) ∧ (if k = 13 then (8 : Int) else (if k = 0 then (3 : Int) else G.n k)) ≤ 9223372036854775807
        repeat' split
        all_goals omega)
      obtain ⟨CG2, hCG2⟩ : ∃ CG2, Wr.G.cells ((G.num 0 3).num 13 8) = CG2 := ⟨_, rfl⟩
      have hiCG2 : (Try.prog.info? 29).map (·.size) = some CG2.toList.length := by
        rw [Array.length_toList, ← hCG2]
        exact unhide IN1
      have hrg : y1.rangeAt M 0 CG2.toList := by rw [← hCG2]; exact B2.rangeG
      clear hy1 c0 c13 fM
      have ce := wEncode_down ((G.num 0 3).num 13 8) (fun i => Wr.okRec (zr i)) (fun j t => z (1 + j) t % 11) y1 rfl (unhide HN2) (unhide LI).2.1 (fun i hi => (unhide LI).1 (1 + i) (by omega))
      have hp := hide (Wr.downS_stage (Wr.headS Wr.encS ([((G.num 0 3).num 13 8).n 0 % 256], 0) ((G.num 0 3).num 13 8)).1 (Wr.headG ((G.num 0 3).num 13 8) (Wr.headS Wr.encS ([((G.num 0 3).num 13 8).n 0 % 256], 0) ((G.num 0 3).num 13 8))) (fun i => Wr.okRec (zr i)) (fun j t => z (1 + j) t % 11) rfl)
      rw [hCG2] at ce
      have CE := hide ce
      clear ce hCG2
      go_wp2_with (refine wpList_load_mid rfl 29 (.tmp 2) rfl M 0 rfl CG2.toList _ hrg Try.underlying29 rfl hiCG2 ?_)
      refine (unhide CE).mono ?_
      rintro e y2 hw
      obtain ⟨rfl, hy2⟩ := Wr.written_bad hw (unhide hp)
      have HG5 := hide (grown_trans (unhide G4) hy2)
      clear hw hy2 CE hp hrg B2
      go_wp2
      go_ret
      exact ⟨rfl, none_below (unhide HG5)⟩
    · have c0 : (y).cell? ⟨M, 0, none⟩ = some (.int .i64 (G.n 0)) := (unhide HB4).cell (i := 0) (by omega)
      have c14 : (y).cell? ⟨M, 14, none⟩ = some (.int .i64 (G.n 14)) := (unhide HB4).cell (i := 14) (by omega)
      go_upto_region 26 with fail
      have B2 := unhide HB4
      replace B2 := B2.store 0 (.int .i64 3)
      rw [Wr.G.num_box G 0 3 ⟨by decide, by decide, by decide, by decide, by decide, by decide, by decide, by decide, by decide⟩] at B2
      replace B2 := B2.store 14 (.int .i64 4)
      rw [Wr.G.num_box (G.num 0 3) 14 4 ⟨by decide, by decide, by decide, by decide, by decide, by decide, by decide, by decide, by decide⟩] at B2
      have G4 := hide (show w.grownBy (((((y).setCell ⟨M, 0, none⟩ (.int .i64 3))).setCell ⟨M, 14, none⟩ (.int .i64 4))) none from grown_store (grown_store (unhide HG4) ⟨M, 0, none⟩ (show w.heap.size ≤ M by have := unhide HM; omega) _) ⟨M, 14, none⟩ (show w.heap.size ≤ M by have := unhide HM; omega) _)
      have T4 := hide (show Turn (fun b => b = M) y (((((y).setCell ⟨M, 0, none⟩ (.int .i64 3))).setCell ⟨M, 14, none⟩ (.int .i64 4))) from (((Turn.refl (fun b => b = M) y).store M 0 _ rfl).store M 14 _ rfl))
      obtain ⟨y1, hy1⟩ : ∃ q, ((((y).setCell ⟨M, 0, none⟩ (.int .i64 3))).setCell ⟨M, 14, none⟩ (.int .i64 4)) = q := ⟨_, rfl⟩
      rw [hy1] at B2 G4 T4 ⊢
      have G1 := hide ((unhide GD).turn (unhide T4) (unhide HMX) (unhide G4))
      have LI := hide ((unhide G1).lists (unhide HI))
      have HN2 := hide (show ∀ k, -9223372036854775808 ≤ ((G.num 0 3).num 14 4).n k ∧ ((G.num 0 3).num 14 4).n k ≤ 9223372036854775807 from fun k => by
        have h := unhide HN k
        show -9223372036854775808 ≤ (if k = 14 then (4 : Int) else (if k = 0 then (3 : Int) else G.n k)) ∧ (if k = 14 then (4 : Int) else (if k = 0 then (3 : Int) else G.n k)) ≤ 9223372036854775807
        repeat' split
        all_goals omega)
      obtain ⟨CG2, hCG2⟩ : ∃ CG2, Wr.G.cells ((G.num 0 3).num 14 4) = CG2 := ⟨_, rfl⟩
      have hiCG2 : (Try.prog.info? 29).map (·.size) = some CG2.toList.length := by
        rw [Array.length_toList, ← hCG2]
        exact unhide IN1
      have hrg : y1.rangeAt M 0 CG2.toList := by rw [← hCG2]; exact B2.rangeG
      clear hy1 c0 c14 fM
      have ce := wEncode_down ((G.num 0 3).num 14 4) (fun i => Wr.okRec (zr i)) (fun j t => z (1 + j) t % 11) y1 rfl (unhide HN2) (unhide LI).2.1 (fun i hi => (unhide LI).1 (1 + i) (by omega))
      have hp := hide (Wr.downS_seat (Wr.headS Wr.encS ([((G.num 0 3).num 14 4).n 0 % 256], 0) ((G.num 0 3).num 14 4)).1 (Wr.headG ((G.num 0 3).num 14 4) (Wr.headS Wr.encS ([((G.num 0 3).num 14 4).n 0 % 256], 0) ((G.num 0 3).num 14 4))) (fun i => Wr.okRec (zr i)) (fun j t => z (1 + j) t % 11) rfl)
      rw [hCG2] at ce
      have CE := hide ce
      clear ce hCG2
      go_wp2_with (refine wpList_load_mid rfl 29 (.tmp 2) rfl M 0 rfl CG2.toList _ hrg Try.underlying29 rfl hiCG2 ?_)
      refine (unhide CE).mono ?_
      rintro e y2 hw
      obtain ⟨rfl, hy2⟩ := Wr.written_bad hw (unhide hp)
      have HG5 := hide (grown_trans (unhide G4) hy2)
      clear hw hy2 CE hp hrg B2
      go_wp2
      go_ret
      exact ⟨rfl, none_below (unhide HG5)⟩
    · have c0 : (y).cell? ⟨M, 0, none⟩ = some (.int .i64 (G.n 0)) := (unhide HB4).cell (i := 0) (by omega)
      have c27 : (y).cell? ⟨M, 27, none⟩ = some (.int .i64 (G.n 27)) := (unhide HB4).cell (i := 27) (by omega)
      have c28 : (y).cell? ⟨M, 28, none⟩ = some (.int .i64 (G.n 28)) := (unhide HB4).cell (i := 28) (by omega)
      go_upto_region 26 with fail
      have B2 := unhide HB4
      replace B2 := B2.store 0 (.int .i64 4)
      rw [Wr.G.num_box G 0 4 ⟨by decide, by decide, by decide, by decide, by decide, by decide, by decide, by decide, by decide⟩] at B2
      replace B2 := B2.store 27 (.int .i64 3)
      rw [Wr.G.num_box (G.num 0 4) 27 3 ⟨by decide, by decide, by decide, by decide, by decide, by decide, by decide, by decide, by decide⟩] at B2
      replace B2 := B2.store 28 (.int .i64 3)
      rw [Wr.G.num_box ((G.num 0 4).num 27 3) 28 3 ⟨by decide, by decide, by decide, by decide, by decide, by decide, by decide, by decide, by decide⟩] at B2
      have G4 := hide (show w.grownBy (((((((y).setCell ⟨M, 0, none⟩ (.int .i64 4))).setCell ⟨M, 27, none⟩ (.int .i64 3))).setCell ⟨M, 28, none⟩ (.int .i64 3))) none from grown_store (grown_store (grown_store (unhide HG4) ⟨M, 0, none⟩ (show w.heap.size ≤ M by have := unhide HM; omega) _) ⟨M, 27, none⟩ (show w.heap.size ≤ M by have := unhide HM; omega) _) ⟨M, 28, none⟩ (show w.heap.size ≤ M by have := unhide HM; omega) _)
      have T4 := hide (show Turn (fun b => b = M) y (((((((y).setCell ⟨M, 0, none⟩ (.int .i64 4))).setCell ⟨M, 27, none⟩ (.int .i64 3))).setCell ⟨M, 28, none⟩ (.int .i64 3))) from ((((Turn.refl (fun b => b = M) y).store M 0 _ rfl).store M 27 _ rfl).store M 28 _ rfl))
      obtain ⟨y1, hy1⟩ : ∃ q, ((((((y).setCell ⟨M, 0, none⟩ (.int .i64 4))).setCell ⟨M, 27, none⟩ (.int .i64 3))).setCell ⟨M, 28, none⟩ (.int .i64 3)) = q := ⟨_, rfl⟩
      rw [hy1] at B2 G4 T4 ⊢
      have G1 := hide ((unhide GD).turn (unhide T4) (unhide HMX) (unhide G4))
      have LI := hide ((unhide G1).lists (unhide HI))
      have HN2 := hide (show ∀ k, -9223372036854775808 ≤ (((G.num 0 4).num 27 3).num 28 3).n k ∧ (((G.num 0 4).num 27 3).num 28 3).n k ≤ 9223372036854775807 from fun k => by
        have h := unhide HN k
        show -9223372036854775808 ≤ (if k = 28 then (3 : Int) else (if k = 27 then (3 : Int) else (if k = 0 then (4 : Int) else G.n k))) ∧ (if k = 28 then (3 : Int) else (if k = 27 then (3 : Int) else (if k = 0 then (4 : Int) else G.n k))) ≤ 9223372036854775807
        repeat' split
        all_goals omega)
      obtain ⟨CG2, hCG2⟩ : ∃ CG2, Wr.G.cells (((G.num 0 4).num 27 3).num 28 3) = CG2 := ⟨_, rfl⟩
      have hiCG2 : (Try.prog.info? 29).map (·.size) = some CG2.toList.length := by
        rw [Array.length_toList, ← hCG2]
        exact unhide IN1
      have hrg : y1.rangeAt M 0 CG2.toList := by rw [← hCG2]; exact B2.rangeG
      clear hy1 c0 c27 c28 fM
      have ce := wEncode_chunk (((G.num 0 4).num 27 3).num 28 3) zd y1 rfl (unhide HN2) (unhide LI).2.2
      have hp := hide (Wr.chunkS_index (Wr.headS Wr.encS ([(((G.num 0 4).num 27 3).num 28 3).n 0 % 256], 0) (((G.num 0 4).num 27 3).num 28 3)).1 (Wr.headG (((G.num 0 4).num 27 3).num 28 3) (Wr.headS Wr.encS ([(((G.num 0 4).num 27 3).num 28 3).n 0 % 256], 0) (((G.num 0 4).num 27 3).num 28 3))) zd rfl rfl)
      rw [hCG2] at ce
      have CE := hide ce
      clear ce hCG2
      go_wp2_with (refine wpList_load_mid rfl 29 (.tmp 2) rfl M 0 rfl CG2.toList _ hrg Try.underlying29 rfl hiCG2 ?_)
      refine (unhide CE).mono ?_
      rintro e y2 hw
      obtain ⟨rfl, hy2⟩ := Wr.written_bad hw (unhide hp)
      have HG5 := hide (grown_trans (unhide G4) hy2)
      clear hw hy2 CE hp hrg B2
      go_wp2
      go_ret
      exact ⟨rfl, none_below (unhide HG5)⟩
    · go_upto_region 25 with fail
      have hde : y.drew = y.drewN 1 := rfl
      have HGd := hide (grown_drew (World.grownBy.refl y none) 1)
      obtain ⟨yd, hyd⟩ : ∃ q, y.drewN 1 = q := ⟨_, rfl⟩
      rw [hyd] at hde HGd
      clear hyd fM
      replace HB4 := hide ((unhide HB4).on (unhide HGd))
      replace GD := hide ((unhide GD).turn (Turn.new (B := fun b => b = M) (unhide HGd)) (unhide HMX) (grown_trans (unhide HG4) (unhide HGd)))
      replace HG4 := hide (grown_trans (unhide HG4) (unhide HGd))
      obtain ⟨ZZ, hmk, hZZ⟩ := Wr.make_bytes
      have HZZ := hide hZZ
      clear hZZ
      have B3 := (unhide HB4).on (World.grownBy_alloc yd (.cells ZZ 5) none)
      have c0 : (yd).cell? ⟨M, 0, none⟩ = some (.int .i64 (G.n 0)) := (unhide HB4).cell (i := 0) (by omega)
      have c29 : (yd).cell? ⟨M, 29, none⟩ = some (.slice G.data.1 G.data.2.1 G.data.2.2) := (unhide HB4).cell (i := 29) (by omega)
      have d0 : (yd.alloc (.cells ZZ 5)).cell? ⟨M, 0, none⟩ = some (.int .i64 (G.n 0)) := B3.cell (i := 0) (by omega)
      have d29 : (yd.alloc (.cells ZZ 5)).cell? ⟨M, 29, none⟩ = some (.slice G.data.1 G.data.2.1 G.data.2.2) := B3.cell (i := 29) (by omega)
      have fA := B3.free
      have fM := (unhide HB4).free
      clear B3
      have B4 := ((unhide HB4).store 0 (.int .i64 4)).on (World.grownBy_alloc (yd.setCell ⟨M, 0, none⟩ (.int .i64 4)) (.cells ZZ 5) none)
      have e29 : ((yd.setCell ⟨M, 0, none⟩ (.int .i64 4)).alloc (.cells ZZ 5)).cell? ⟨M, 29, none⟩ = some (.slice G.data.1 G.data.2.1 G.data.2.2) := B4.cell (i := 29) (by omega)
      have fB := B4.free
      clear B4
      refine wp_region_till (h := 4) (S := fun _ => True) (by kernel_rfl) ?_
      rw [hde]
      refine wpTill_take (i := 1) (v := ?_) [4] rfl (by kernel_rfl) (by kernel_rfl) (by kernel_rfl) (by kernel_rfl) (fun _ _ _ h => h) trivial (Or.inl ⟨by rfl, ?_⟩) ?_
      rotate_left
      · intro x hSx
        clear hSx
        go_simp
        try with_reducible rfl
      simp only [Act.put, List.getElem_toArray, List.getElem_cons_zero, List.getElem_cons_succ, List.setIfInBounds_toArray, List.set_cons_succ, List.set_cons_zero]
      refine wpTill_pair (i := 0) (j := 2) (by kernel_rfl) rfl rfl (fun K hK => ?_) (fun K hK => ?_)
      · go_simp
        refine hK.out _ _ (fun _ => trivial) ?_
        clear hK K
        refine wpTill_only (j := 2) (by kernel_rfl) rfl (fun K hK => ?_)
        go_simp
        refine hK.out _ _ (fun _ => trivial) ?_
        clear hK K
        refine wpTill_only (j := 3) (by kernel_rfl) rfl (fun K hK => ?_)
        go_simp
        refine hK.out _ _ (fun _ => trivial) ?_
        clear hK K
        refine wpTill_only (j := 4) (by kernel_rfl) rfl (fun K hK => ?_)
        go_simp
        refine hK.out _ _ (fun hx => absurd (hx.symm.trans (by kernel_rfl)) Bool.false_ne_true) ?_
        clear hK K
        refine wpTill_done (by kernel_rfl) ?_ _
        go_upto_region 26 with fail
        have B2 := unhide HB4
        have ML := B2.lt
        replace B2 := B2.on (World.grownBy_alloc _ (.cells ZZ 5) none)
        replace B2 := B2.store 0 (.int .i64 4)
        rw [Wr.G.num_box G 0 4 ⟨by decide, by decide, by decide, by decide, by decide, by decide, by decide, by decide, by decide⟩] at B2
        replace B2 := B2.store 29 (.slice (some ⟨yd.heap.size, 0, none⟩) 65 65)
        rw [Wr.G.set29_box (G.num 0 4) (some ⟨yd.heap.size, 0, none⟩, 65, 65)] at B2
        have G4 := hide (show w.grownBy (((((((yd).alloc (.cells ZZ 5))).setCell ⟨M, 0, none⟩ (.int .i64 4))).setCell ⟨M, 29, none⟩ (.slice (some ⟨yd.heap.size, 0, none⟩) 65 65))) none from grown_store (grown_store ((grown_alloc (unhide HG4) (.cells ZZ 5))) ⟨M, 0, none⟩ (show w.heap.size ≤ M by have := unhide HM; omega) _) ⟨M, 29, none⟩ (show w.heap.size ≤ M by have := unhide HM; omega) _)
        have T4 := hide (show Turn (fun b => b = M) yd (((((((yd).alloc (.cells ZZ 5))).setCell ⟨M, 0, none⟩ (.int .i64 4))).setCell ⟨M, 29, none⟩ (.slice (some ⟨yd.heap.size, 0, none⟩) 65 65))) from ((((Turn.refl (fun b => b = M) yd).then (World.grownBy_alloc _ (.cells ZZ 5) none)).store M 0 _ rfl).store M 29 _ rfl))
        obtain ⟨y1, hy1⟩ : ∃ q, ((((((yd).alloc (.cells ZZ 5))).setCell ⟨M, 0, none⟩ (.int .i64 4))).setCell ⟨M, 29, none⟩ (.slice (some ⟨yd.heap.size, 0, none⟩) 65 65)) = q := ⟨_, rfl⟩
        have MDn := Wr.made (yd) (((((((yd).alloc (.cells ZZ 5))).setCell ⟨M, 0, none⟩ (.int .i64 4))).setCell ⟨M, 29, none⟩ (.slice (some ⟨yd.heap.size, 0, none⟩) 65 65))) ZZ 5 M 65 (.int .u8 0) (unhide HZZ) (((Turn.refl (fun b => b = M) _).store M 0 _ rfl).store M 29 _ rfl) ML
        rw [show (yd).heap.size = yd.heap.size from by simp] at MDn
        have MD := hide MDn
        clear MDn ML
        rw [hy1] at B2 G4 T4 MD ⊢
        have G1 := hide ((unhide GD).turn (unhide T4) (unhide HMX) (unhide G4))
        have LI := hide ((unhide G1).lists (unhide HI))
        have HN2 := hide (show ∀ k, -9223372036854775808 ≤ ((G.num 0 4).set29 (some ⟨yd.heap.size, 0, none⟩, 65, 65)).n k ∧ ((G.num 0 4).set29 (some ⟨yd.heap.size, 0, none⟩, 65, 65)).n k ≤ 9223372036854775807 from fun k => by
          have h := unhide HN k
          show -9223372036854775808 ≤ (if k = 0 then (4 : Int) else G.n k) ∧ (if k = 0 then (4 : Int) else G.n k) ≤ 9223372036854775807
          repeat' split
          all_goals omega)
        obtain ⟨CG2, hCG2⟩ : ∃ CG2, Wr.G.cells ((G.num 0 4).set29 (some ⟨yd.heap.size, 0, none⟩, 65, 65)) = CG2 := ⟨_, rfl⟩
        have hiCG2 : (Try.prog.info? 29).map (·.size) = some CG2.toList.length := by
          rw [Array.length_toList, ← hCG2]
          exact unhide IN1
        have hrg : y1.rangeAt M 0 CG2.toList := by rw [← hCG2]; exact B2.rangeG
        clear hy1 c0 c29 fM fA fB hmk hde d0 d29 e29
        have ce := wEncode_chunk ((G.num 0 4).set29 (some ⟨yd.heap.size, 0, none⟩, 65, 65)) (fun _ => 0) y1 rfl (unhide HN2) ⟨by show 65 ≤ 1048576; omega, fun i hi => ⟨yd.heap.size, 0, rfl, (unhide MD).1, by rw [Nat.zero_add]; exact (unhide MD).2 i hi, show (0 : Int) ≤ 0 by decide, show (0 : Int) ≤ 255 by decide⟩⟩
        have hp := hide (Wr.chunkS_long (Wr.headS Wr.encS ([((G.num 0 4).set29 (some ⟨yd.heap.size, 0, none⟩, 65, 65)).n 0 % 256], 0) ((G.num 0 4).set29 (some ⟨yd.heap.size, 0, none⟩, 65, 65))).1 (Wr.headG ((G.num 0 4).set29 (some ⟨yd.heap.size, 0, none⟩, 65, 65)) (Wr.headS Wr.encS ([((G.num 0 4).set29 (some ⟨yd.heap.size, 0, none⟩, 65, 65)).n 0 % 256], 0) ((G.num 0 4).set29 (some ⟨yd.heap.size, 0, none⟩, 65, 65)))) (fun _ => 0) (show 64 < 65 by omega))
        rw [hCG2] at ce
        have CE := hide ce
        clear ce hCG2
        go_wp2_with (refine wpList_load_mid rfl 29 (.tmp 2) rfl M 0 rfl CG2.toList _ hrg Try.underlying29 rfl hiCG2 ?_)
        refine (unhide CE).mono ?_
        rintro e y2 hw
        obtain ⟨rfl, hy2⟩ := Wr.written_bad hw (unhide hp)
        have HG5 := hide (grown_trans (unhide G4) hy2)
        clear hw hy2 CE hp hrg B2
        go_wp2
        go_ret
        exact ⟨rfl, none_below (unhide HG5)⟩
      · go_simp
        refine hK.out _ _ (fun _ => trivial) ?_
        clear hK K
        refine wpTill_only (j := 0) (by kernel_rfl) rfl (fun K hK => ?_)
        go_simp
        refine hK.out _ _ (fun _ => trivial) ?_
        clear hK K
        refine wpTill_only (j := 3) (by kernel_rfl) rfl (fun K hK => ?_)
        go_simp
        refine hK.out _ _ (fun _ => trivial) ?_
        clear hK K
        refine wpTill_only (j := 4) (by kernel_rfl) rfl (fun K hK => ?_)
        go_simp
        refine hK.out _ _ (fun hx => absurd (hx.symm.trans (by kernel_rfl)) Bool.false_ne_true) ?_
        clear hK K
        refine wpTill_done (by kernel_rfl) ?_ _
        go_upto_region 26 with fail
        have B2 := unhide HB4
        replace B2 := B2.store 0 (.int .i64 4)
        rw [Wr.G.num_box G 0 4 ⟨by decide, by decide, by decide, by decide, by decide, by decide, by decide, by decide, by decide⟩] at B2
        have ML := B2.lt
        replace B2 := B2.on (World.grownBy_alloc _ (.cells ZZ 5) none)
        replace B2 := B2.store 29 (.slice (some ⟨yd.heap.size, 0, none⟩) 65 65)
        rw [Wr.G.set29_box (G.num 0 4) (some ⟨yd.heap.size, 0, none⟩, 65, 65)] at B2
        have G4 := hide (show w.grownBy (((((((yd).setCell ⟨M, 0, none⟩ (.int .i64 4))).alloc (.cells ZZ 5))).setCell ⟨M, 29, none⟩ (.slice (some ⟨yd.heap.size, 0, none⟩) 65 65))) none from grown_store ((grown_alloc (grown_store (unhide HG4) ⟨M, 0, none⟩ (show w.heap.size ≤ M by have := unhide HM; omega) _) (.cells ZZ 5))) ⟨M, 29, none⟩ (show w.heap.size ≤ M by have := unhide HM; omega) _)
        have T4 := hide (show Turn (fun b => b = M) yd (((((((yd).setCell ⟨M, 0, none⟩ (.int .i64 4))).alloc (.cells ZZ 5))).setCell ⟨M, 29, none⟩ (.slice (some ⟨yd.heap.size, 0, none⟩) 65 65))) from ((((Turn.refl (fun b => b = M) yd).store M 0 _ rfl).then (World.grownBy_alloc _ (.cells ZZ 5) none)).store M 29 _ rfl))
        obtain ⟨y1, hy1⟩ : ∃ q, ((((((yd).setCell ⟨M, 0, none⟩ (.int .i64 4))).alloc (.cells ZZ 5))).setCell ⟨M, 29, none⟩ (.slice (some ⟨yd.heap.size, 0, none⟩) 65 65)) = q := ⟨_, rfl⟩
        have MDn := Wr.made (((yd).setCell ⟨M, 0, none⟩ (.int .i64 4))) (((((((yd).setCell ⟨M, 0, none⟩ (.int .i64 4))).alloc (.cells ZZ 5))).setCell ⟨M, 29, none⟩ (.slice (some ⟨yd.heap.size, 0, none⟩) 65 65))) ZZ 5 M 65 (.int .u8 0) (unhide HZZ) ((Turn.refl (fun b => b = M) _).store M 29 _ rfl) ML
        rw [show (((yd).setCell ⟨M, 0, none⟩ (.int .i64 4))).heap.size = yd.heap.size from by simp] at MDn
        have MD := hide MDn
        clear MDn ML
        rw [hy1] at B2 G4 T4 MD ⊢
        have G1 := hide ((unhide GD).turn (unhide T4) (unhide HMX) (unhide G4))
        have LI := hide ((unhide G1).lists (unhide HI))
        have HN2 := hide (show ∀ k, -9223372036854775808 ≤ ((G.num 0 4).set29 (some ⟨yd.heap.size, 0, none⟩, 65, 65)).n k ∧ ((G.num 0 4).set29 (some ⟨yd.heap.size, 0, none⟩, 65, 65)).n k ≤ 9223372036854775807 from fun k => by
          have h := unhide HN k
          show -9223372036854775808 ≤ (if k = 0 then (4 : Int) else G.n k) ∧ (if k = 0 then (4 : Int) else G.n k) ≤ 9223372036854775807
          repeat' split
          all_goals omega)
        obtain ⟨CG2, hCG2⟩ : ∃ CG2, Wr.G.cells ((G.num 0 4).set29 (some ⟨yd.heap.size, 0, none⟩, 65, 65)) = CG2 := ⟨_, rfl⟩
        have hiCG2 : (Try.prog.info? 29).map (·.size) = some CG2.toList.length := by
          rw [Array.length_toList, ← hCG2]
          exact unhide IN1
        have hrg : y1.rangeAt M 0 CG2.toList := by rw [← hCG2]; exact B2.rangeG
        clear hy1 c0 c29 fM fA fB hmk hde d0 d29 e29
        have ce := wEncode_chunk ((G.num 0 4).set29 (some ⟨yd.heap.size, 0, none⟩, 65, 65)) (fun _ => 0) y1 rfl (unhide HN2) ⟨by show 65 ≤ 1048576; omega, fun i hi => ⟨yd.heap.size, 0, rfl, (unhide MD).1, by rw [Nat.zero_add]; exact (unhide MD).2 i hi, show (0 : Int) ≤ 0 by decide, show (0 : Int) ≤ 255 by decide⟩⟩
        have hp := hide (Wr.chunkS_long (Wr.headS Wr.encS ([((G.num 0 4).set29 (some ⟨yd.heap.size, 0, none⟩, 65, 65)).n 0 % 256], 0) ((G.num 0 4).set29 (some ⟨yd.heap.size, 0, none⟩, 65, 65))).1 (Wr.headG ((G.num 0 4).set29 (some ⟨yd.heap.size, 0, none⟩, 65, 65)) (Wr.headS Wr.encS ([((G.num 0 4).set29 (some ⟨yd.heap.size, 0, none⟩, 65, 65)).n 0 % 256], 0) ((G.num 0 4).set29 (some ⟨yd.heap.size, 0, none⟩, 65, 65)))) (fun _ => 0) (show 64 < 65 by omega))
        rw [hCG2] at ce
        have CE := hide ce
        clear ce hCG2
        go_wp2_with (refine wpList_load_mid rfl 29 (.tmp 2) rfl M 0 rfl CG2.toList _ hrg Try.underlying29 rfl hiCG2 ?_)
        refine (unhide CE).mono ?_
        rintro e y2 hw
        obtain ⟨rfl, hy2⟩ := Wr.written_bad hw (unhide hp)
        have HG5 := hide (grown_trans (unhide G4) hy2)
        clear hw hy2 CE hp hrg B2
        go_wp2
        go_ret
        exact ⟨rfl, none_below (unhide HG5)⟩

end Go.Proofs.Ytiegccdgoemamaa
