/-
  WireSizes, walked.
-/
import Derived.Test.YtiegccdgoemamaaWireFit
import Derived.ChangeOld
import Derived.Below
namespace Go.Proofs.Ytiegccdgoemamaa
open Go.RowKit

theorem Wr.written_ok {y y2 : World} {R : List Int × Int} {e : Ending} {k : Int} {m n : Nat} (h : Wr.Written y R e y2) (hp : Wr.Pre ([k], 0) R m) (hn : n = 1 + m) :
    ∃ a cap, e = .returned (.tuple #[.slice (some ⟨a, 0, none⟩) n cap, .int .i64 0]) ∧ y2.cell? ⟨a, 0, none⟩ = some (.int .u8 k) ∧ n ≤ cap ∧ y.grownBy y2 none := by
  obtain ⟨⟨l, h1⟩, h2, h3⟩ := hp
  obtain ⟨ht, hw⟩ := h
  have e0 : R.2 = 0 := h3
  rw [if_pos e0] at hw
  obtain ⟨v, he, ho, -⟩ := hw
  have hl : R.1.length = n := by rw [h2, hn]; rfl
  rw [hl] at ho
  rcases ho.2 with ⟨_, h0⟩ | ⟨a, cap, cur, rfl, _, _, h4, _⟩
  · omega
  · refine ⟨a, cap, he, ?_, h4, ⟨ht.os, ht.tape, ht.output, ht.size, fun k hk _ => ht.block k hk (fun q => q)⟩⟩
    rw [ho.cellAt 0 (by omega), h1]
    rfl

theorem Wr.sum_le {c : Nat → Nat} {m : Nat} (h : ∀ i, c i ≤ m) : ∀ n, Wr.sum c n ≤ m * n
  | 0 => Nat.zero_le _
  | n + 1 => by
    have h1 := Wr.sum_le h n
    have h2 := h n
    show Wr.sum c n + c n ≤ _
    rw [Nat.mul_succ]
    omega

set_option maxRecDepth 16000 in
set_option maxHeartbeats 25600000 in
theorem wireSizes_any (g : Wr.G) (z zr : Nat → Nat → Int) (zd : Nat → Int) (w : World) (hi : Wr.Inp w g z zr zd) (hr : ∀ k, -9223372036854775808 ≤ g.n k ∧ g.n k ≤ 9223372036854775807) :
    Calls Try.prog 6 #[.agg g.cells] w fun e w' => e = .returned (.bool true) ∧ Below w.heap.size w w' := by
  obtain ⟨x, hx⟩ : ∃ x, x = w.alloc (.cells g.cells 29) := ⟨_, rfl⟩
  have hg : w.grownBy x none := by rw [hx]; exact World.grownBy_alloc _ _ _
  have hb : Wr.Bx x w.heap.size 29 30 g.box := by rw [hx]; exact Wr.msgBox w g
  obtain ⟨M, hM⟩ : ∃ M, w.heap.size = M := ⟨_, rfl⟩
  rw [hM] at hb
  have HM := hide hM
  have HG := hide hg
  have HB := hide hb
  have HI := hide hi
  have HR := hide hr
  have IN1 := hide (show (Try.prog.info? 29).map (·.size) = some 30 from by kernel_rfl)
  obtain ⟨CM, hCM⟩ : ∃ CM, g.cells = CM := ⟨_, rfl⟩
  have HCM := hide hCM
  have hiCM : (Try.prog.info? 29).map (·.size) = some CM.toList.length := by
    rw [Array.length_toList, ← hCM]
    exact unhide IN1
  have hsCM := hide (show CM.size = 30 from by rw [← hCM]; rfl)
  have cfew := hide fun x => few15_any g x hi.low
  have cgood := hide fun x (h : Wr.Inp x g z zr zd) => good15_any g z zr x h.rows h.recs ⟨h.data.1, h.room⟩
  rw [hCM] at cfew cgood
  clear hg hb hi hr
  unfold Wr.G.cells at hx
  go_enter Try.func6, Try.ntmps6
  unfold Wr.G.cells
  go_upto_region 1 with fail
  rw [← hx]
  clear hx hM hCM
  go_wp2_with fail
  refine (known15_any _).mono ?_
  rintro e x1 ⟨rfl, ht⟩
  have HG1 := hide (grown_trans (unhide HG) (show x.grownBy x1 none from ⟨ht.os, ht.tape, ht.output, ht.size, fun k hk _ => ht.block k hk (fun q => q)⟩))
  have HB1 := hide ((unhide HB).turn ht (fun q => q))
  have hrg : x1.rangeAt M 0 CM.toList := by rw [← unhide HCM]; exact (unhide HB1).rangeG
  clear ht HG HB
  go_wp2_with (refine wpList_load_mid rfl 29 (.tmp 1) rfl M 0 rfl CM.toList _ hrg Try.underlying29 rfl hiCM ?_)
  refine (unhide cfew _).mono ?_
  rintro e x2 ⟨rfl, hx2⟩
  have HG2 := hide (grown_trans (unhide HG1) hx2)
  have HB2 := hide ((unhide HB1).on hx2)
  clear hrg HG1 HB1 hx2 cfew
  cases hfew : decide (Wr.bulk g + Wr.seatsLen g 4 < 2000) with
  | false =>
    go_wp2
    go_ret
    exact ⟨rfl, none_below (unhide HG2)⟩
  | true =>
    clear hfew
    have hrg : x2.rangeAt M 0 CM.toList := by rw [← unhide HCM]; exact (unhide HB2).rangeG
    go_wp2_with (refine wpList_load_mid rfl 29 (.tmp 1) rfl M 0 rfl CM.toList _ hrg Try.underlying29 rfl hiCM ?_)
    refine (unhide cgood x2 ((unhide HI).on (unhide HG2))).mono ?_
    rintro e x3 ⟨G, rfl, hgd⟩
    have HGD := hide hgd
    have HG3 := hide (grown_trans (unhide HG2) hgd.grown)
    have hB3 := (unhide HB2).on hgd.grown
    obtain ⟨CG, hCG⟩ : ∃ CG, G.cells = CG := ⟨_, rfl⟩
    have HCG := hide hCG
    have hiCG : (Try.prog.info? 29).map (·.size) = some CG.toList.length := by
      rw [Array.length_toList, ← hCG]
      exact unhide IN1
    have hiC2 : (Try.prog.info? 29).map (·.size) = some CG.size := by
      rw [← hCG]
      exact unhide IN1
    have hth : x3.there M 0 CG.size := by rw [← hCG]; exact hB3.thereG G
    have hone : CG.all (·.oneCell') = true := by rw [← hCG]; exact Wr.G.one G
    have HB4 : Hid (Wr.Bx (x3.setCells M 0 CG.toList) M 29 30 G.box) := (show Wr.Bx _ _ _ _ _ by rw [← hCG]; exact hB3.over G)
    rw [hCG]
    clear hrg cgood hgd HB2 hB3 hCG hiCM
    go_upto_region 6 with (refine wpList_store_mid rfl 29 (.tmp 1) (.tmp 14) rfl M 0 CG rfl rfl hth hiC2 hone ?_)
    have hMx : M < x2.heap.size + 2 := by have := unhide HM; have := (unhide HG2).size; omega
    have TM := hide (Wr.turn_cells M CG.toList 0 x3)
    have HG4 := hide (own_sets (g := M) (by have := unhide HM; omega) CG.toList 0 x3 (unhide HG3))
    obtain ⟨y, hy⟩ : ∃ y, x3.setCells M 0 CG.toList = y := ⟨_, rfl⟩
    rw [hy] at HB4 TM HG4 ⊢
    have GD := hide (show Wr.Goods w y (x2.heap.size + 2) (Wr.gb g) g G z zr from ⟨unhide HG4, (unhide HGD).n, (unhide HGD).watch, (unhide HGD).bits, fun j hj => ((unhide HGD).rows j hj).turn (unhide TM) (fun b e => by rw [e]; exact hMx), ⟨(unhide HGD).recs.1, Wr.owns_turn (unhide HGD).recs.2 (unhide TM) (fun b e q => by have := ((unhide HGD).recs.2.lt b q).1; omega)⟩, (unhide HGD).data⟩)
    have FT := hide ((unhide GD).fit (unhide HI).bits)
    have HN := hide ((unhide GD).num (unhide HR))
    have ROW := hide (show ∀ j, j < 5 → Wr.RowIn y (G.row j) (fun t => z j t % 11) ∧ ∀ t, t < (G.row j).2.1 → 0 ≤ z j t % 11 ∧ z j t % 11 ≤ 10 from fun j hj => ⟨((unhide GD).rows j hj).rowIn (by omega) (fun t _ => by omega), fun t _ => by omega⟩)
    have REC := hide (unhide GD).recsIn
    have DAT := hide (show Wr.BytesIn y G.data zd from by
      rw [(unhide GD).data]
      exact ((unhide HI).on (unhide HG4)).data.cut)
    have hrg : y.rangeAt M 0 CG.toList := by rw [← unhide HCG]; exact (unhide HB4).rangeG
    have hhead := hide (Wr.head_self ([G.n 0 % 256], 0) G ((unhide FT).num 1 (by omega)) ((unhide FT).num 2 (by omega)))
    have hpre := hide (Wr.headS_fits ([G.n 0 % 256], 0) G ((unhide FT).num 1 (by omega)) ((unhide FT).num 2 (by omega))).1
    have LTM := hide (unhide HB4).lt
    clear hth hone hiC2 hy TM hMx HGD HG3 HR
    rcases (show G.n 0 = 1 ∨ G.n 0 = 2 ∨ G.n 0 = 3 ∨ G.n 0 = 4 by have := (unhide FT).k0; omega) with hk | hk | hk | hk
    · have ce := wEncode_join G y hk (unhide HN)
      try rw [unhide hhead] at ce
      have hp := hide ((Wr.joinS_fits ([G.n 0 % 256], 0) G ((unhide FT).num 2 (by omega))))
      rw [unhide HCG] at ce
      have CE := hide ce
      clear ce
      go_wp2_with (refine wpList_load_mid rfl 29 (.tmp 1) rfl M 0 rfl CG.toList _ hrg Try.underlying29 rfl hiCG ?_)
      refine (unhide CE).mono ?_
      rintro e y2 hw
      obtain ⟨a, cap, rfl, hca, hcap, hy2⟩ := Wr.written_ok (n := 6) hw (unhide hp) (by omega)
      rw [hk] at hca
      have hca' : y2.cell? ⟨a, 0, none⟩ = some (.int .u8 1) := hca
      have hcap' : (((6) : Nat) : Int) ≤ (cap : Int) := by omega
      have HG5 := hide (grown_trans (unhide HG4) hy2)
      have HY2 := hide hy2
      have HB5 := hide ((unhide HB4).on hy2)
      have c0 : y2.cell? ⟨M, 0, none⟩ = some (.int .i64 1) := by
        rw [(unhide HB5).cell (i := 0) (by omega)]
        show some (Value.int .i64 (G.n 0)) = _
        rw [hk]
      clear hw hca hcap hy2 CE hp hrg
      go_wp2_with fail
      go_quiet (fail)
      generalize hzz : World.drewN y2 _ = ye
      have hye := hide (show w.grownBy ye none from by rw [← hzz]; exact grown_drew (unhide HG5) _)
      clear hzz
      go_wp2
      go_ret
      exact ⟨rfl, none_below (unhide hye)⟩

    · have ce := wEncode_up G (fun t => z 0 t % 11) y hk (unhide HN) (unhide FT).bits (unhide ROW 0 (by omega)).1
      try rw [unhide hhead] at ce
      have hp := hide ((unhide hpre).trans (Wr.upS_fits _ G (fun t => z 0 t % 11) (unhide FT).bits ((unhide FT).num 5 (by omega)) (fun i hi => (unhide FT).num (6 + i) (by omega)) ((unhide FT).num 10 (by omega)) ((unhide FT).num 11 (by omega)) ((unhide FT).rows 0 (by omega)) (unhide ROW 0 (by omega)).2))
      rw [unhide HCG] at ce
      have CE := hide ce
      clear ce
      go_wp2_with (refine wpList_load_mid rfl 29 (.tmp 1) rfl M 0 rfl CG.toList _ hrg Try.underlying29 rfl hiCG ?_)
      refine (unhide CE).mono ?_
      rintro e y2 hw
      obtain ⟨a, cap, rfl, hca, hcap, hy2⟩ := Wr.written_ok (n := 42 + (G.row 0).2.1) hw (unhide hp) (by omega)
      rw [hk] at hca
      have hca' : y2.cell? ⟨a, 0, none⟩ = some (.int .u8 2) := hca
      have hcap' : (((42 + (G.row 0).2.1) : Nat) : Int) ≤ (cap : Int) := by omega
      have HG5 := hide (grown_trans (unhide HG4) hy2)
      have HY2 := hide hy2
      have HB5 := hide ((unhide HB4).on hy2)
      have c0 : y2.cell? ⟨M, 0, none⟩ = some (.int .i64 2) := by
        rw [(unhide HB5).cell (i := 0) (by omega)]
        show some (Value.int .i64 (G.n 0)) = _
        rw [hk]
      clear hw hca hcap hy2 CE hp hrg
      have c12 : y2.cell? ⟨M, 12, none⟩ = some (.slice (G.row 0).1 (G.row 0).2.1 (G.row 0).2.2) := (unhide HB5).cell (i := 12) (by omega)
      have hl : ((G.row 0).2.1 : Int) ≤ 255 := by have := (unhide FT).rows 0 (by omega); omega
      have heq : (((42 + (G.row 0).2.1 : Nat) : Int) == 42 + ((G.row 0).2.1 : Int)) = true := by simp
      have hpos : (0 : Int) < ((42 + (G.row 0).2.1 : Nat) : Int) := by omega
      go_wp2_with fail
      go_quiet (fail)
      generalize hzz : World.drewN y2 _ = ye
      have hye := hide (show w.grownBy ye none from by rw [← hzz]; exact grown_drew (unhide HG5) _)
      clear hzz
      go_wp2
      go_ret
      exact ⟨rfl, none_below (unhide hye)⟩

    · have ce := wEncode_down G (fun i => Wr.okRec (zr i)) (fun j t => z (1 + j) t % 11) y hk (unhide HN) (unhide REC) (fun i hi => (unhide ROW (1 + i) (by omega)).1)
      try rw [unhide hhead] at ce
      have hp := hide ((unhide hpre).trans (Wr.downS_fits _ G (fun i => Wr.okRec (zr i)) (fun j t => z (1 + j) t % 11) (unhide FT).k13 (unhide FT).k14 ((unhide FT).num 15 (by omega)) ((unhide FT).num 16 (by omega)) ((unhide FT).num 26 (by omega)) (unhide FT).recs (fun s i hi => Wr.okRec_fits (zr i) s) (fun i hi => ⟨(unhide FT).num (18 + i) (by omega), (unhide FT).rows (1 + i) (by omega), (unhide ROW (1 + i) (by omega)).2⟩)))
      rw [unhide HCG] at ce
      have CE := hide ce
      clear ce
      go_wp2_with (refine wpList_load_mid rfl 29 (.tmp 1) rfl M 0 rfl CG.toList _ hrg Try.underlying29 rfl hiCG ?_)
      refine (unhide CE).mono ?_
      rintro e y2 hw
      obtain ⟨a, cap, rfl, hca, hcap, hy2⟩ := Wr.written_ok (n := 25 + Wr.sum (fun i => Wr.recLen (Wr.okRec (zr i) 0)) G.recs.2.1 + Wr.sum (fun i => 5 + (G.row (1 + i)).2.1) 4) hw (unhide hp) (by omega)
      rw [hk] at hca
      have hca' : y2.cell? ⟨a, 0, none⟩ = some (.int .u8 3) := hca
      have hcap' : (((25 + Wr.sum (fun i => Wr.recLen (Wr.okRec (zr i) 0)) G.recs.2.1 + Wr.sum (fun i => 5 + (G.row (1 + i)).2.1) 4) : Nat) : Int) ≤ (cap : Int) := by omega
      have HG5 := hide (grown_trans (unhide HG4) hy2)
      have HY2 := hide hy2
      have HB5 := hide ((unhide HB4).on hy2)
      have c0 : y2.cell? ⟨M, 0, none⟩ = some (.int .i64 3) := by
        rw [(unhide HB5).cell (i := 0) (by omega)]
        show some (Value.int .i64 (G.n 0)) = _
        rw [hk]
      clear hw hca hcap hy2 CE hp hrg
      have HC17 := hide (show ∀ x, y2.grownBy x none → x.cell? ⟨M, 17, none⟩ = some (.slice G.recs.1 G.recs.2.1 G.recs.2.2) from fun x hg => ((unhide HB5).on hg).cell (i := 17) (by omega))
      have HC22 := hide (show ∀ x, y2.grownBy x none → ∀ i : Nat, i < 4 → x.cell? ⟨M, 22 + i, none⟩ = some (.slice (G.row (1 + i)).1 (G.row (1 + i)).2.1 (G.row (1 + i)).2.2) from fun x hg i hi => by
        rw [((unhide HB5).on hg).cell (i := 22 + i) (by omega)]
        rcases (show i = 0 ∨ i = 1 ∨ i = 2 ∨ i = 3 by omega) with rfl | rfl | rfl | rfl <;> rfl)
      have HC0 := hide (show ∀ x, y2.grownBy x none → x.cell? ⟨M, 0, none⟩ = some (.int .i64 3) from fun x hg => (grown_cell hg M 0 (unhide HB5).lt (by simp)).trans c0)
      have HCA := hide (show ∀ x, y2.grownBy x none → x.cell? ⟨a, 0, none⟩ = some (.int .u8 3) from fun x hg => (grown_cell hg a 0 (Go.block_lt_of_cell hca') (by simp)).trans hca')
      obtain ⟨RL, hRL⟩ : ∃ RL, (fun i => Wr.recLen (Wr.okRec (zr i) 0)) = RL := ⟨_, rfl⟩
      obtain ⟨TL, hTL⟩ : ∃ TL, (fun i => 5 + (G.row (1 + i)).2.1) = TL := ⟨_, rfl⟩
      have HRL := hide hRL
      have HTL := hide hTL
      rw [hRL, hTL] at hcap' ⊢
      have HREC2 := hide (show ∀ i, i < G.recs.2.1 → ∃ b o, G.recs.1 = some ⟨b, o, none⟩ ∧ (∀ x, y2.grownBy x none → x.cell? ⟨b, o + i * 5, none⟩ = some (.int .i64 (Wr.okRec (zr i) 0))) ∧ (Wr.okRec (zr i) 0 = 1 ∨ Wr.okRec (zr i) 0 = 2 ∨ Wr.okRec (zr i) 0 = 3) from fun i hi => by
        obtain ⟨b, o, q1, q2, q3⟩ := (unhide REC).2.2.1 i hi
        refine ⟨b, o, q1, fun x hg => (grown_cell (grown_trans (unhide HY2) hg) b _ q2 (by simp)).trans (q3 0 (by omega)), ?_⟩
        show 1 + zr i 0 % 3 = 1 ∨ 1 + zr i 0 % 3 = 2 ∨ 1 + zr i 0 % 3 = 3
        omega)
      have HR400 := hide (unhide FT).recs
      have HTLE := hide (show ∀ i, i < 4 → (G.row (1 + i)).2.1 ≤ 255 from fun i hi => (unhide FT).rows (1 + i) (by omega))
      have HRB := hide (show ∀ n, Wr.sum RL n ≤ 10 * n from fun n => by
        rw [← hRL]
        exact Wr.sum_le (fun i => by unfold Wr.recLen; split; omega; split <;> omega) n)
      have HTB := hide (show ∀ s, s ≤ 4 → Wr.sum TL s ≤ 260 * s from fun s => by
        rw [← hTL]
        induction s with
        | zero => intro _; exact Nat.zero_le _
        | succ s ih =>
          intro h
          have h1 := ih (by omega)
          have h2 := unhide HTLE s (by omega)
          show Wr.sum (fun i => 5 + (G.row (1 + i)).2.1) s + (5 + (G.row (1 + s)).2.1) ≤ _
          omega)
      have hrn : (G.recs.2.1 : Int) ≤ 400 := by have := unhide HR400; omega
      clear hRL hTL FT REC ROW DAT HN GD HB5 HB4 hhead hpre LTM
      go_wp2_with fail
      clear c0 hca'
      go_loopw [5, 6] (fun v5 v6 wr => ∃ i : Nat, i ≤ G.recs.2.1 ∧ v6 = .int .i64 (i : Int) ∧ v5 = .int .i64 ((25 + Wr.sum RL i : Nat) : Int) ∧ Hid (y2.grownBy wr none)) (fun _ v6 _ => 500 - (intOf v6).toNat)
      case atStart => exact ⟨0, by omega, rfl, rfl, World.grownBy.refl _ _⟩
      case round =>
        obtain ⟨i, hi, rfl, rfl, hgr⟩ := hrel
        have c17 := unhide HC17 wr (unhide hgr)
        by_cases hlt : i < G.recs.2.1
        · have hlt' : (i : Int) < (G.recs.2.1 : Int) := by omega
          have HI2 := hide (And.intro hlt (unhide HR400))
          obtain ⟨b, o, hbo, hcell, hk3⟩ := unhide HREC2 i hlt
          have hga := World.grownBy_alloc wr (.cells #[.int .i64 0, .int .i64 2, .int .i64 6, .int .i64 10] 3) none
          have a17 := unhide HC17 _ (grown_trans (unhide hgr) hga)
          have ar := hcell _ (grown_trans (unhide hgr) hga)
          have hA := Arr.lit (heap_alloc_new wr (.cells #[.int .i64 0, .int .i64 2, .int .i64 6, .int .i64 10] 3))
          have HGA := hide (grown_trans (unhide hgr) hga)
          have hs1 : ((25 + Wr.sum RL i : Nat) : Int) ≤ 5000 := by have := unhide HRB i; have := (unhide HI2).2; omega
          have hnx : Wr.sum RL (i + 1) = Wr.sum RL i + Wr.recLen (Wr.okRec (zr i) 0) := by rw [← unhide HRL]; rfl
          rw [hbo] at c17 a17
          clear hcell hga hi hlt
          rcases hk3 with hk3 | hk3 | hk3
          all_goals
            rw [hk3] at ar hnx
            clear hk3
          · have an : (wr.alloc (.cells #[.int .i64 0, .int .i64 2, .int .i64 6, .int .i64 10] 3)).cell? ⟨wr.heap.size, 1, none⟩ = some (.int .i64 2) := hA.cell (i := 1) (by simp)
            have hnx' := hide (show Wr.sum RL (i + 1) = Wr.sum RL i + 2 from hnx)
            clear hA hnx
            go_wp2
            go_roundw
            case rel => exact ⟨i + 1, by have := unhide HI2; omega, by go_num, by (have h := unhide hnx'; simp only [Value.int.injEq, true_and]; omega), unhide HGA⟩
            case measure => simp [intOf]; have := unhide HI2; omega
          · have an : (wr.alloc (.cells #[.int .i64 0, .int .i64 2, .int .i64 6, .int .i64 10] 3)).cell? ⟨wr.heap.size, 2, none⟩ = some (.int .i64 6) := hA.cell (i := 2) (by simp)
            have hnx' := hide (show Wr.sum RL (i + 1) = Wr.sum RL i + 6 from hnx)
            clear hA hnx
            go_wp2
            go_roundw
            case rel => exact ⟨i + 1, by have := unhide HI2; omega, by go_num, by (have h := unhide hnx'; simp only [Value.int.injEq, true_and]; omega), unhide HGA⟩
            case measure => simp [intOf]; have := unhide HI2; omega
          · have an : (wr.alloc (.cells #[.int .i64 0, .int .i64 2, .int .i64 6, .int .i64 10] 3)).cell? ⟨wr.heap.size, 3, none⟩ = some (.int .i64 10) := hA.cell (i := 3) (by simp)
            have hnx' := hide (show Wr.sum RL (i + 1) = Wr.sum RL i + 10 from hnx)
            clear hA hnx
            go_wp2
            go_roundw
            case rel => exact ⟨i + 1, by have := unhide HI2; omega, by go_num, by (have h := unhide hnx'; simp only [Value.int.injEq, true_and]; omega), unhide HGA⟩
            case measure => simp [intOf]; have := unhide HI2; omega
        · obtain rfl : i = G.recs.2.1 := by omega
          have hge : ¬ ((G.recs.2.1 : Nat) : Int) < (G.recs.2.1 : Int) := by omega
          have hS : Hid (Wr.sum RL G.recs.2.1 ≤ 4000) := (show _ ≤ _ by have := unhide HRB G.recs.2.1; have := unhide HR400; omega)
          obtain ⟨S, hSS⟩ : ∃ S, Wr.sum RL G.recs.2.1 = S := ⟨_, rfl⟩
          rw [hSS] at hS hcap' ⊢
          clear hi hlt hSS
          go_wp2_with fail
          clear c17
          go_loopw [5, 7] (fun v5 v7 wq => ∃ i : Nat, i ≤ 4 ∧ v7 = .int .i64 (i : Int) ∧ v5 = .int .i64 ((25 + S + Wr.sum TL i : Nat) : Int) ∧ Hid (y2.grownBy wq none)) (fun _ v7 _ => 10 - (intOf v7).toNat)
          case atStart => exact ⟨0, by omega, rfl, rfl, unhide hgr⟩
          case round =>
            clear hgr
            obtain ⟨i, hi, rfl, rfl, hgr⟩ := hrel
            by_cases hlt : i < 4
            · have hlt' : (i : Int) < 4 := by omega
              have hl0 : (0 : Int) ≤ (i : Int) := by omega
              have c22 := unhide HC22 wr (unhide hgr) i hlt
              have HI2 := hide hlt
              have hs1 : ((25 + S + Wr.sum TL i : Nat) : Int) ≤ 8000 := by have := unhide HTB i (by omega); have := unhide hS; omega
              have hs2 : ((G.row (1 + i)).2.1 : Int) ≤ 255 := by have := unhide HTLE i hlt; omega
              have hnx := hide (show Wr.sum TL (i + 1) = Wr.sum TL i + (5 + (G.row (1 + i)).2.1) from by rw [← unhide HTL]; rfl)
              clear hi hlt
              go_wp2
              go_roundw
              case rel => exact ⟨i + 1, by have := unhide HI2; omega, by go_num, by (have h := unhide hnx; simp only [Value.int.injEq, true_and]; omega), unhide hgr⟩
              case measure => simp [intOf]; have := unhide HI2; omega
            · obtain rfl : i = 4 := by omega
              have hge : ¬ ((4 : Nat) : Int) < 4 := by omega
              have c0 := unhide HC0 wr (unhide hgr)
              have hca' := unhide HCA wr (unhide hgr)
              have HG6 := hide (grown_trans (unhide HG5) (unhide hgr))
              obtain ⟨L, hL⟩ : ∃ L, 25 + S + Wr.sum TL 4 = L := ⟨_, rfl⟩
              rw [hL] at hcap' ⊢
              have hpos : (0 : Int) < (L : Int) := by omega
              have heq : ((L : Int) == (L : Int)) = true := by simp
              clear hi hlt hL
              go_wp2_with fail
              go_quiet (fail)
              generalize hzz : World.drewN wr _ = ye
              have hye := hide (show w.grownBy ye none from by rw [← hzz]; exact grown_drew (unhide HG6) _)
              clear hzz
              go_wp2
              go_ret
              exact ⟨rfl, none_below (unhide hye)⟩

    · have ce := wEncode_chunk G zd y hk (unhide HN) (unhide DAT)
      try rw [unhide hhead] at ce
      have hp := hide ((unhide hpre).trans (Wr.chunkS_fits _ G zd ((unhide FT).num 15 (by omega)) (unhide FT).k28 (unhide FT).k27 (unhide FT).data (fun i hi => by obtain ⟨b, o, -, -, -, h⟩ := (unhide DAT).2 i hi; exact h)))
      rw [unhide HCG] at ce
      have CE := hide ce
      clear ce
      go_wp2_with (refine wpList_load_mid rfl 29 (.tmp 1) rfl M 0 rfl CG.toList _ hrg Try.underlying29 rfl hiCG ?_)
      refine (unhide CE).mono ?_
      rintro e y2 hw
      obtain ⟨a, cap, rfl, hca, hcap, hy2⟩ := Wr.written_ok (n := 16 + G.data.2.1) hw (unhide hp) (by omega)
      rw [hk] at hca
      have hca' : y2.cell? ⟨a, 0, none⟩ = some (.int .u8 4) := hca
      have hcap' : (((16 + G.data.2.1) : Nat) : Int) ≤ (cap : Int) := by omega
      have HG5 := hide (grown_trans (unhide HG4) hy2)
      have HY2 := hide hy2
      have HB5 := hide ((unhide HB4).on hy2)
      have c0 : y2.cell? ⟨M, 0, none⟩ = some (.int .i64 4) := by
        rw [(unhide HB5).cell (i := 0) (by omega)]
        show some (Value.int .i64 (G.n 0)) = _
        rw [hk]
      clear hw hca hcap hy2 CE hp hrg
      have c29 : y2.cell? ⟨M, 29, none⟩ = some (.slice G.data.1 G.data.2.1 G.data.2.2) := (unhide HB5).cell (i := 29) (by omega)
      have hl : (G.data.2.1 : Int) ≤ 64 := by have := (unhide FT).data; omega
      have heq : (((16 + G.data.2.1 : Nat) : Int) == 16 + (G.data.2.1 : Int)) = true := by simp
      have hpos : (0 : Int) < ((16 + G.data.2.1 : Nat) : Int) := by omega
      go_wp2_with fail
      go_quiet (fail)
      generalize hzz : World.drewN y2 _ = ye
      have hye := hide (show w.grownBy ye none from by rw [← hzz]; exact grown_drew (unhide HG5) _)
      clear hzz
      go_wp2
      go_ret
      exact ⟨rfl, none_below (unhide hye)⟩

end Go.Proofs.Ytiegccdgoemamaa
