/-
  GoodsAt GoodsBag GoodsWant
-/
import Derived.Test.YtbanjoflgoiegaaGreatPart17
namespace Go.Proofs.YtbanjoflgoiegaaGreat
open Go.RowKit

theorem Gd.inQ_no {I : Nat → Nat → Int} {p a q : Int} {k : Nat} (h : ¬ (I k 1 = p ∧ I k 2 = a ∧ I k 3 = q)) : Gd.inQ I p a q k = false := by
  simp only [Gd.inQ, Bool.and_eq_false_iff, decide_eq_false_iff_not]
  by_cases h1 : I k 1 = p
  · by_cases h2 : I k 2 = a
    · exact .inr (.inr fun h3 => h ⟨h1, h2, h3⟩)
    · exact .inr (.inl h2)
  · exact .inl h1

theorem Gd.inQ_yes {I : Nat → Nat → Int} {p a q : Int} {k : Nat} (h1 : I k 1 = p) (h2 : I k 2 = a) (h3 : I k 3 = q) : Gd.inQ I p a q k = true := by
  simp [Gd.inQ, h1, h2, h3]

set_option maxHeartbeats 1600000 in
theorem goodsAt_any (b n c : Nat) (I : Nat → Nat → Int) (p a q : Int) (w : World) (hI : Its w b 0 n I) :
    Calls Tryz.prog 189 #[.slice (some ⟨b, 0, none⟩) n c, .agg #[.int .i64 p, .int .i64 a, .int .i64 q]] w (Says w (.int .i64 (Gd.find I n p a q))) := by
  have hn := hI.1
  have hI' := hide hI
  clear hI
  go_enter Tryz.func189, Tryz.ntmps189
  go_wp2_with fail
  go_loopw [9] (fun i wr => ∃ k : Nat, k ≤ n ∧ i = .int .i64 (k : Int) ∧ (∀ j, j < k → Gd.inQ I p a q j = false) ∧ Arr wr w.heap.size 189 3 (fun j => #[Value.int .i64 p, .int .i64 a, .int .i64 q][j]?.getD undef) ∧ w.grownBy wr none) (fun i _ => 200 - (intOf i).toNat)
  case atStart => exact ⟨0, by omega, rfl, fun j hj => by omega, Arr.lit (heap_alloc_new w _), World.grownBy_alloc _ _ _⟩
  case round =>
    obtain ⟨k, hk, rfl, hno, hp, hgr⟩ := hrel
    have hno' := hide hno
    have hgr' := hide hgr
    have hp' := hide hp
    have p0 : wr.cell? ⟨w.heap.size, 0, none⟩ = some (.int .i64 p) := hp.cell (i := 0) (by omega)
    have p1 : wr.cell? ⟨w.heap.size, 1, none⟩ = some (.int .i64 a) := hp.cell (i := 1) (by omega)
    have p2 : wr.cell? ⟨w.heap.size, 2, none⟩ = some (.int .i64 q) := hp.cell (i := 2) (by omega)
    have hlw := hp.lt
    clear hno hgr hp
    by_cases hlt : k < n
    · obtain ⟨u0, u1, u2, u3⟩ := ((unhide hI').on (unhide hgr')).row hlt
      have hlt' : (k : Int) < (n : Int) := by omega
      have HL := hide hlt
      clear hlt
      go_wp2_with fail
      obtain ⟨wb, hwb⟩ : ∃ wb, wr.alloc (.cells #[.int .i64 (I k 0), .int .i64 (I k 1), .int .i64 (I k 2), .int .i64 (I k 3)] 62) = wb := ⟨_, rfl⟩
      have hga : wr.grownBy wb none := by rw [← hwb]; exact World.grownBy_alloc _ _ _
      have hnew := fun j (hj : j < 4) => (Arr.lit (heap_alloc_new wr (.cells #[.int .i64 (I k 0), .int .i64 (I k 1), .int .i64 (I k 2), .int .i64 (I k 3)] 62))).cell (i := j) hj
      rw [hwb] at hnew ⊢
      have hsz : wr.heap.size < wb.heap.size := by rw [← hwb]; simp
      refine wp_region_grown (by kernel_rfl) (by kernel_rfl) ?_
      intro St hN W hI hx
      have c0 : ∀ σ, (W σ).cell? ⟨wr.heap.size, 0, none⟩ = some (.int .i64 (I k 0)) := fun σ => (grown_cell (hI σ) _ 0 hsz (by simp)).trans (hnew 0 (by omega))
      have c1 : ∀ σ, (W σ).cell? ⟨wr.heap.size, 1, none⟩ = some (.int .i64 (I k 1)) := fun σ => (grown_cell (hI σ) _ 1 hsz (by simp)).trans (hnew 1 (by omega))
      have c2 : ∀ σ, (W σ).cell? ⟨wr.heap.size, 2, none⟩ = some (.int .i64 (I k 2)) := fun σ => (grown_cell (hI σ) _ 2 hsz (by simp)).trans (hnew 2 (by omega))
      have c3 : ∀ σ, (W σ).cell? ⟨wr.heap.size, 3, none⟩ = some (.int .i64 (I k 3)) := fun σ => (grown_cell (hI σ) _ 3 hsz (by simp)).trans (hnew 3 (by omega))
      have d0 : ∀ σ, (W σ).cell? ⟨w.heap.size, 0, none⟩ = some (.int .i64 p) := fun σ => (grown_cell (grown_trans hga (hI σ)) _ 0 hlw (by simp)).trans p0
      have d1 : ∀ σ, (W σ).cell? ⟨w.heap.size, 1, none⟩ = some (.int .i64 a) := fun σ => (grown_cell (grown_trans hga (hI σ)) _ 1 hlw (by simp)).trans p1
      have d2 : ∀ σ, (W σ).cell? ⟨w.heap.size, 2, none⟩ = some (.int .i64 q) := fun σ => (grown_cell (grown_trans hga (hI σ)) _ 2 hlw (by simp)).trans p2
      have cp : ∀ σ, Calls Tryz.prog 192 #[.agg #[.int .i64 (I k 0), .int .i64 (I k 1), .int .i64 (I k 2), .int .i64 (I k 3)]] (W σ) fun e w'' => e = .returned (.agg #[.int .i64 (I k 1), .int .i64 (I k 2), .int .i64 (I k 3)]) ∧ ∃ σ', w'' = W σ' := fun σ => calls_class hI hx (goodsPlace_any _ _ _ _ _)
      have hI2 := hide hI
      have hga' := hide hga
      clear hI hx p0 p1 p2 u0 u1 u2 u3 hnew hwb hsz hga
      by_cases hq : I k 1 = p ∧ I k 2 = a ∧ I k 3 = q
      · have hqt := hide (Gd.inQ_yes hq.1 hq.2.1 hq.2.2)
        obtain ⟨h1, h2, h3⟩ := hq
        rw [h1, h2, h3] at cp
        rw [h1] at c1
        rw [h2] at c2
        rw [h3] at c3
        clear h1 h2 h3
        repeat (go_big_quiet_step ((go_at_call 192; exact cp _)))
        refine wpQuiet_nil ?_
        rintro _ ⟨σ, rfl⟩
        obtain ⟨wq, hwq⟩ : ∃ wq, W σ = wq := ⟨_, rfl⟩
        have hgq := hide (unhide hI2 σ)
        rw [hwq] at hgq ⊢
        clear c0 c1 c2 c3 d0 d1 d2 cp hI2 hwq
        clear σ W hN St
        have he := hide (En.first_hit (unhide hno') (unhide hqt) (unhide HL))
        have hfin := hide (grown_trans (unhide hgr') (grown_trans (unhide hga') (unhide hgq)))
        go_wp2
        go_ret
        exact ⟨ret_int (unhide he).symm, unhide hfin⟩
      · have hqf := hide (Gd.inQ_no hq)
        have hcmp : ∀ wx : World, (binOp .eql 189 (.agg #[.int .i64 (I k 1), .int .i64 (I k 2), .int .i64 (I k 3)]) (.agg #[.int .i64 p, .int .i64 a, .int .i64 q])).run Tryz.prog wx = .ok (.bool false) wx := fun wx => by rw [run_eq_place]; exact congrArg (fun z => Result.ok (Value.bool z) wx) (unhide hqf)
        clear hq
        repeat (go_big_quiet_step ((go_at_call 192; exact cp _)))
        refine wpQuiet_nil ?_
        rintro _ ⟨σ, rfl⟩
        obtain ⟨wq, hwq⟩ : ∃ wq, W σ = wq := ⟨_, rfl⟩
        have hgq := hide (unhide hI2 σ)
        rw [hwq] at hgq ⊢
        clear c0 c1 c2 c3 d0 d1 d2 cp hI2 hwq
        clear σ W hN St
        have hfin := hide (grown_trans (unhide hgr') (grown_trans (unhide hga') (unhide hgq)))
        have hpq := hide ((unhide hp').grown (grown_trans (unhide hga') (unhide hgq)) (by simp))
        clear hcmp
        go_wp2
        go_roundw
        case rel => exact ⟨k + 1, by have := unhide HL; omega, by go_num, fun j hj => by
          by_cases e : j = k
          · rw [e]; exact unhide hqf
          · exact unhide hno' j (by omega), unhide hpq, unhide hfin⟩
        case measure => simp [intOf]; omega
    · have hge : ¬ (k : Int) < (n : Int) := by omega
      have he := hide (En.first_none (n := n) (fun j hj => unhide hno' j (by omega)))
      go_wp2
      go_ret
      exact ⟨ret_int (unhide he).symm, unhide hgr'⟩

end Go.Proofs.YtbanjoflgoiegaaGreat

namespace Go.Proofs.YtbanjoflgoiegaaGreat
open Go.RowKit

def Gd.carQ (I : Nat → Nat → Int) (n : Nat) (seat : Int) (t : Int → Bool) : Nat → Bool := fun b => decide (0 ≤ Gd.find I n 2 seat (b : Int)) && t (I (Gd.find I n 2 seat (b : Int)).toNat 0)

def Gd.car (I : Nat → Nat → Int) (n : Nat) (seat : Int) (t : Int → Bool) : Int := if 0 ≤ En.first (Gd.carQ I n seat t) 4 then Gd.find I n 2 seat (En.first (Gd.carQ I n seat t) 4) else -1

theorem Gd.has_car (I : Nat → Nat → Int) (n : Nat) (seat lo hi : Int) : Gd.has I n seat lo hi = Gd.car I n seat (fun k => decide (lo ≤ k) && decide (k ≤ hi)) := rfl

theorem Gd.car_hit {I : Nat → Nat → Int} {n : Nat} {seat : Int} {t : Int → Bool} {k : Nat} (hno : ∀ j, j < k → Gd.carQ I n seat t j = false) (hk : Gd.carQ I n seat t k = true) (h4 : k < 4) : Gd.car I n seat t = Gd.find I n 2 seat (k : Int) := by
  unfold Gd.car
  rw [En.first_hit hno hk h4, if_pos (by omega)]

theorem Gd.car_none {I : Nat → Nat → Int} {n : Nat} {seat : Int} {t : Int → Bool} (hno : ∀ j, j < 4 → Gd.carQ I n seat t j = false) : Gd.car I n seat t = -1 := by
  unfold Gd.car
  rw [En.first_none hno, if_neg (by omega)]

theorem Gd.car_congr {I : Nat → Nat → Int} {n : Nat} {seat : Int} {t u : Int → Bool} (h : ∀ k, k < n → I k 1 = 2 → t (I k 0) = u (I k 0)) : Gd.car I n seat t = Gd.car I n seat u := by
  have e : ∀ b, b < 4 → Gd.carQ I n seat t b = Gd.carQ I n seat u b := fun b _ => by
    unfold Gd.carQ
    by_cases hf : 0 ≤ Gd.find I n 2 seat (b : Int)
    · obtain ⟨k, hk, ek, h1, _⟩ := Gd.find_pos hf
      rw [ek, Int.toNat_natCast, h k hk h1]
    · rw [decide_eq_false hf, Bool.false_and, Bool.false_and]
  unfold Gd.car
  rw [En.first_congr e]

theorem Gd.find_lt {I : Nat → Nat → Int} {n : Nat} {p a q : Int} (h : 0 ≤ Gd.find I n p a q) : (Gd.find I n p a q).toNat < n ∧ Gd.find I n p a q = ((Gd.find I n p a q).toNat : Int) := by
  obtain ⟨k, hk, e, _⟩ := Gd.find_pos h
  rw [e]
  simp [hk]

set_option maxHeartbeats 800000 in
theorem freeSlot_any (b n c : Nat) (I : Nat → Nat → Int) (seat : Int) (w : World) (hI : Its w b 0 n I) :
    Calls Tryz.prog 181 #[.slice (some ⟨b, 0, none⟩) n c, .int .i64 seat] w (Says w (.int .i64 (Gd.slot I n seat))) := by
  have hI' := hide hI
  clear hI
  go_enter Tryz.func181, Tryz.ntmps181
  go_wp2_with fail
  go_loopw [6] (fun i wr => ∃ k : Nat, k ≤ 4 ∧ i = .int .i64 (k : Int) ∧ (∀ j : Nat, j < k → decide (Gd.find I n 2 seat (j : Int) < 0) = false) ∧ w.grownBy wr none) (fun i _ => 200 - (intOf i).toNat)
  case atStart => exact ⟨0, by omega, rfl, fun j hj => by omega, World.grownBy.refl _ _⟩
  case round =>
    obtain ⟨k, hk, rfl, hno, hgr⟩ := hrel
    have hno' := hide hno
    have hgr' := hide hgr
    clear hno hgr
    by_cases hlt : k < 4
    · have hlt' : (k : Int) < 4 := by omega
      have HL := hide hlt
      have cat := hide (goodsAt_any b n c I 2 seat (k : Int) wr ((unhide hI').on (unhide hgr')))
      obtain ⟨f, hf⟩ : ∃ f, Gd.find I n 2 seat (k : Int) = f := ⟨_, rfl⟩
      rw [hf] at cat
      have hf' := hide hf
      clear hlt hf
      go_wp2_with fail
      refine (unhide cat).mono ?_
      rintro e w1 ⟨rfl, hg1⟩
      have hg2 := hide (grown_trans (unhide hgr') hg1)
      clear hg1 cat
      by_cases hneg : f < 0
      · have he := hide (En.first_hit (q := fun b : Nat => decide (Gd.find I n 2 seat (b : Int) < 0)) (unhide hno') (by show decide _ = true; rw [unhide hf']; exact decide_eq_true hneg) (unhide HL))
        go_wp2
        go_ret
        exact ⟨ret_int (unhide he).symm, unhide hg2⟩
      · have hq := hide (show decide (Gd.find I n 2 seat (k : Int) < 0) = false by rw [unhide hf']; exact decide_eq_false hneg)
        go_wp2
        go_roundw
        case rel => exact ⟨k + 1, by have := unhide HL; omega, by go_num, fun j hj => by
          by_cases e : j = k
          · rw [e]; exact unhide hq
          · exact unhide hno' j (by omega), unhide hg2⟩
        case measure => simp [intOf]; omega
    · have hge : ¬ (k : Int) < 4 := by omega
      have he := hide (En.first_none (n := 4) (q := fun b : Nat => decide (Gd.find I n 2 seat (b : Int) < 0)) (fun j hj => unhide hno' j (by omega)))
      go_wp2
      go_ret
      exact ⟨ret_int (unhide he).symm, unhide hgr'⟩

set_option maxHeartbeats 800000 in
theorem carried_any (b n c : Nat) (I : Nat → Nat → Int) (seat input : Int) (w : World) (hI : Its w b 0 n I) :
    Calls Tryz.prog 191 #[.slice (some ⟨b, 0, none⟩) n c, .int .i64 seat, .int .i64 input] w (Says w (.int .i64 (Gd.car I n seat (fun k => Gd.serves k input)))) := by
  have hI' := hide hI
  clear hI
  go_enter Tryz.func191, Tryz.ntmps191
  go_wp2_with fail
  go_loopw [9] (fun i wr => ∃ k : Nat, k ≤ 4 ∧ i = .int .i64 (k : Int) ∧ (∀ j : Nat, j < k → Gd.carQ I n seat (fun k => Gd.serves k input) j = false) ∧ w.grownBy wr none) (fun i _ => 200 - (intOf i).toNat)
  case atStart => exact ⟨0, by omega, rfl, fun j hj => by omega, World.grownBy.refl _ _⟩
  case round =>
    obtain ⟨k, hk, rfl, hno, hgr⟩ := hrel
    have hno' := hide hno
    have hgr' := hide hgr
    clear hno hgr
    by_cases hlt : k < 4
    · have hlt' : (k : Int) < 4 := by omega
      have HL := hide hlt
      have cat := hide (goodsAt_any b n c I 2 seat (k : Int) wr ((unhide hI').on (unhide hgr')))
      have hfl := hide (Gd.find_lt (I := I) (n := n) (p := 2) (a := seat) (q := (k : Int)))
      have hqd := hide (show Gd.carQ I n seat (fun k => Gd.serves k input) k = (decide (0 ≤ Gd.find I n 2 seat (k : Int)) && Gd.serves (I (Gd.find I n 2 seat (k : Int)).toNat 0) input) from rfl)
      obtain ⟨f, hf⟩ : ∃ f, Gd.find I n 2 seat (k : Int) = f := ⟨_, rfl⟩
      have hf' := hide hf
      rw [hf] at cat hfl hqd
      clear hlt hf
      go_wp2_with fail
      refine (unhide cat).mono ?_
      rintro e w1 ⟨rfl, hg1⟩
      have hg2 := hide (grown_trans (unhide hgr') hg1)
      clear hg1 cat
      by_cases hpos : 0 ≤ f
      · obtain ⟨m, hm, rfl⟩ : ∃ m : Nat, m < n ∧ f = (m : Int) := ⟨f.toNat, (unhide hfl hpos).1, (unhide hfl hpos).2⟩
        have u0 := (((unhide hI').on (unhide hg2)).row hm).1
        have hm' : (m : Int) < (n : Int) := by omega
        have hb := hide hm
        have hqd2 : Hid (Gd.carQ I n seat (fun k => Gd.serves k input) k = Gd.serves (I m 0) input) := by
          show _ = _
          rw [unhide hqd, decide_eq_true hpos, Bool.true_and, Int.toNat_natCast]
        clear hfl hqd hm
        have cs : Hid (∀ wx, Calls Tryz.prog 194 #[.int .i64 (I m 0), .int .i64 input] wx fun e w' => e = .returned (.bool (Gd.serves (I m 0) input)) ∧ w' = wx) := fun wx => serves_any _ _ wx
        obtain ⟨r, hr⟩ : ∃ r : Bool, Gd.serves (I m 0) input = r := ⟨_, rfl⟩
        rw [hr] at cs hqd2
        clear hr
        go_wp2_with fail
        refine (unhide cs _).mono ?_
        rintro e w2 ⟨rfl, hw⟩
        subst w2
        clear cs u0
        cases r
        · go_wp2
          go_roundw
          case rel => exact ⟨k + 1, by have := unhide HL; omega, by go_num, fun j hj => by
            by_cases e : j = k
            · rw [e]; exact unhide hqd2
            · exact unhide hno' j (by omega), unhide hg2⟩
          case measure => simp [intOf]; omega
        · have he := hide ((Gd.car_hit (unhide hno') (unhide hqd2) (unhide HL)).trans (unhide hf'))
          go_wp2
          go_ret
          exact ⟨ret_int (unhide he).symm, unhide hg2⟩
      · have hqf : Hid (Gd.carQ I n seat (fun k => Gd.serves k input) k = false) := by
          show _ = _
          rw [unhide hqd, decide_eq_false hpos, Bool.false_and]
        have hneg : f < 0 := by omega
        clear hfl hqd
        go_wp2
        go_roundw
        case rel => exact ⟨k + 1, by have := unhide HL; omega, by go_num, fun j hj => by
          by_cases e : j = k
          · rw [e]; exact unhide hqf
          · exact unhide hno' j (by omega), unhide hg2⟩
        case measure => simp [intOf]; omega
    · have hge : ¬ (k : Int) < 4 := by omega
      have he := hide (Gd.car_none (fun j hj => unhide hno' j (by omega)))
      go_wp2
      go_ret
      exact ⟨ret_int (unhide he).symm, unhide hgr'⟩

end Go.Proofs.YtbanjoflgoiegaaGreat

namespace Go.Proofs.YtbanjoflgoiegaaGreat
open Go.RowKit

theorem Gd.ware_hit {I : Nat → Nat → Int} {n k : Nat} (hno : ∀ j : Nat, j < k → decide (0 ≤ Gd.find I n 4 (j : Int) 0) = false) (hk : 0 ≤ Gd.find I n 4 (k : Int) 0) (h3 : k < 3) : Gd.ware I n = Gd.find I n 4 (k : Int) 0 := by
  unfold Gd.ware
  rw [En.first_hit (q := fun k : Nat => decide (0 ≤ Gd.find I n 4 (k : Int) 0)) hno (decide_eq_true hk) h3, if_pos (by omega)]

theorem Gd.ware_none {I : Nat → Nat → Int} {n : Nat} (hno : ∀ j : Nat, j < 3 → decide (0 ≤ Gd.find I n 4 (j : Int) 0) = false) : Gd.ware I n = -1 := by
  unfold Gd.ware
  rw [En.first_none (q := fun k : Nat => decide (0 ≤ Gd.find I n 4 (k : Int) 0)) hno, if_neg (by omega)]

structure Gd.Near (x : World) (B gC gE gI cC cI k s : Nat) (X Y G : Int) : Prop where
  lB : B < x.heap.size
  lE : gE < x.heap.size
  k32 : k < 32
  s4 : s < 4
  b4 : x.cell? ⟨B, 4, none⟩ = some (.slice (some ⟨gC, 0, none⟩) 384 cC)
  b6 : x.cell? ⟨B, 6, none⟩ = some (.slice (some ⟨gI, 0, none⟩) 40 cI)
  b7 : x.cell? ⟨B, 7 + s, none⟩ = some (.int .i64 G)
  e2 : x.cell? ⟨gE, k * 11 + 2, none⟩ = some (.int .i64 (s : Int))
  e3 : x.cell? ⟨gE, k * 11 + 3, none⟩ = some (.int .i64 X)
  e4 : x.cell? ⟨gE, k * 11 + 4, none⟩ = some (.int .i64 Y)

theorem Gd.Near.on {x y : World} {B gC gE gI cC cI k s : Nat} {X Y G : Int} (h : Gd.Near x B gC gE gI cC cI k s X Y G) (hg : x.grownBy y none) : Gd.Near y B gC gE gI cC cI k s X Y G :=
  have t := fun (b i : Nat) (hb : b < x.heap.size) => grown_cell hg b i hb (by simp)
  { lB := Nat.lt_of_lt_of_le h.lB hg.size, lE := Nat.lt_of_lt_of_le h.lE hg.size, k32 := h.k32, s4 := h.s4, b4 := (t _ _ h.lB).trans h.b4, b6 := (t _ _ h.lB).trans h.b6, b7 := (t _ _ h.lB).trans h.b7, e2 := (t _ _ h.lE).trans h.e2, e3 := (t _ _ h.lE).trans h.e3, e4 := (t _ _ h.lE).trans h.e4 }

theorem Gd.Hold.near {x : World} {B gC gE gI cC cE cI : Nat} {s g c : Nat → Int} {E I : Nat → Nat → Int} (h : Gd.Hold x B gC gE gI cC cE cI s g c E I) {k t : Nat} (hk : k < 32) (ht : t < 4) (he : E k 2 = (t : Int)) : Gd.Near x B gC gE gI cC cI k t (E k 3) (E k 4) (g t) :=
  have r := h.lists.own.ents.row hk
  { lB := h.box.lt, lE := h.lists.ents.lt, k32 := hk, s4 := ht, b4 := h.box.cell (c := 4) (by omega), b6 := h.box.cell (c := 6) (by omega), b7 := by rw [h.box.cell (c := 7 + t) (by omega), Gd.box_gold _ _ _ _ _ _ _ _ t ht], e2 := by rw [← he]; exact r.2.2.1, e3 := r.2.2.2.1, e4 := r.2.2.2.2.1 }

set_option maxHeartbeats 1600000 in
theorem ware_not (B gC gE gI cC cI k s : Nat) (X Y G A : Int) (w : World) (hN : Gd.Near w B gC gE gI cC cI k s X Y G) (cA : ∀ m, Calls Tryz.prog 116 #[.slice (some ⟨gC, 0, none⟩) 384 cC, .int .i64 X, .int .i64 Y] (w.drewN m) fun e w' => e = .returned (.int .i64 A) ∧ w' = w.drewN m) (hA : ¬ A = 5) :
    Calls Tryz.prog 190 #[.pointer (some ⟨B, 0, none⟩), .pointer (some ⟨gE, k * 11, none⟩)] w (Says w (.int .i64 (-1))) := by
  obtain ⟨lB, lE, k32, s4, b4, b6, b7, e2, e3, e4⟩ := hN
  have s4' : (s : Int) < 4 := by omega
  have hA' : (A == 5) = false := by simp [hA]
  have hdr : Hid (∀ m, w.grownBy (w.drewN m) none) := fun m => grown_drew (World.grownBy.refl _ _) m
  go_enter Tryz.func190, Tryz.ntmps190
  go_wp2_with fail
  go_quiet ((go_at_call 116; exact Calls.quiet_of_same (cA _)))
  go_wp2
  go_ret
  exact ⟨rfl, unhide hdr _⟩

set_option maxHeartbeats 1600000 in
theorem ware_poor (B gC gE gI cC cI k s : Nat) (X Y G : Int) (w : World) (hN : Gd.Near w B gC gE gI cC cI k s X Y G) (cA : ∀ m, Calls Tryz.prog 116 #[.slice (some ⟨gC, 0, none⟩) 384 cC, .int .i64 X, .int .i64 Y] (w.drewN m) fun e w' => e = .returned (.int .i64 5) ∧ w' = w.drewN m) (hG : G < 5) :
    Calls Tryz.prog 190 #[.pointer (some ⟨B, 0, none⟩), .pointer (some ⟨gE, k * 11, none⟩)] w (Says w (.int .i64 (-1))) := by
  obtain ⟨lB, lE, k32, s4, b4, b6, b7, e2, e3, e4⟩ := hN
  have s4' : (s : Int) < 4 := by omega
  have hdr : Hid (∀ m, w.grownBy (w.drewN m) none) := fun m => grown_drew (World.grownBy.refl _ _) m
  go_enter Tryz.func190, Tryz.ntmps190
  go_wp2_with fail
  go_quiet ((go_at_call 116; exact Calls.quiet_of_same (cA _)))
  go_wp2
  go_ret
  exact ⟨rfl, unhide hdr _⟩

set_option maxHeartbeats 1600000 in
theorem ware_shop (B gC gE gI cC cI k s : Nat) (X Y G : Int) (w : World) (hN : Gd.Near w B gC gE gI cC cI k s X Y G) (cA : ∀ m, Calls Tryz.prog 116 #[.slice (some ⟨gC, 0, none⟩) 384 cC, .int .i64 X, .int .i64 Y] (w.drewN m) fun e w' => e = .returned (.int .i64 5) ∧ w' = w.drewN m) (hG : ¬ G < 5) (I : Nat → Nat → Int) (hI : Its w gI 0 40 I) :
    Calls Tryz.prog 190 #[.pointer (some ⟨B, 0, none⟩), .pointer (some ⟨gE, k * 11, none⟩)] w (Says w (.int .i64 (Gd.ware I 40))) := by
  have hN' := hide hN
  have hI' := hide hI
  obtain ⟨lB, lE, k32, s4, b4, b6, b7, e2, e3, e4⟩ := hN
  have s4' : (s : Int) < 4 := by omega
  have hdr : Hid (∀ m, w.grownBy (w.drewN m) none) := fun m => grown_drew (World.grownBy.refl _ _) m
  clear hI
  go_enter Tryz.func190, Tryz.ntmps190
  go_wp2_with fail
  go_quiet ((go_at_call 116; exact Calls.quiet_of_same (cA _)))
  obtain ⟨wq, hwq⟩ : ∃ wq, w.drewN nq = wq := ⟨_, rfl⟩
  have hgq := hide (unhide hdr nq)
  rw [hwq] at hgq ⊢
  clear b4 b6 b7 e2 e3 e4 cA hdr hwq
  go_wp2_with fail
  go_loopw [33] (fun i wr => ∃ j : Nat, j ≤ 3 ∧ i = .int .i64 (j : Int) ∧ (∀ t : Nat, t < j → decide (0 ≤ Gd.find I 40 4 (t : Int) 0) = false) ∧ w.grownBy wr none) (fun i _ => 200 - (intOf i).toNat)
  case atStart => exact ⟨0, by omega, rfl, fun j hj => by omega, unhide hgq⟩
  case round =>
    obtain ⟨j, hj, rfl, hno, hgr⟩ := hrel
    have hno' := hide hno
    have hgr' := hide hgr
    clear hno hgr
    by_cases hlt : j < 3
    · have hlt' : (j : Int) < 3 := by omega
      have HL := hide hlt
      have b6 := ((unhide hN').on (unhide hgr')).b6
      have cat := hide (goodsAt_any gI 40 cI I 4 (j : Int) 0 wr ((unhide hI').on (unhide hgr')))
      obtain ⟨f, hf⟩ : ∃ f, Gd.find I 40 4 (j : Int) 0 = f := ⟨_, rfl⟩
      rw [hf] at cat
      have hf' := hide hf
      clear hlt hf
      go_wp2_with fail
      refine (unhide cat).mono ?_
      rintro e w1 ⟨rfl, hg1⟩
      have hg2 := hide (grown_trans (unhide hgr') hg1)
      clear hg1 cat b6
      by_cases hpos : 0 ≤ f
      · have he := hide ((Gd.ware_hit (unhide hno') (by rw [unhide hf']; exact hpos) (unhide HL)).trans (unhide hf'))
        go_wp2
        go_ret
        exact ⟨ret_int (unhide he).symm, unhide hg2⟩
      · have hq := hide (show decide (0 ≤ Gd.find I 40 4 (j : Int) 0) = false by rw [unhide hf']; exact decide_eq_false hpos)
        have hneg : f < 0 := by omega
        go_wp2
        go_roundw
        case rel => exact ⟨j + 1, by have := unhide HL; omega, by go_num, fun t ht => by
          by_cases e : t = j
          · rw [e]; exact unhide hq
          · exact unhide hno' t (by omega), unhide hg2⟩
        case measure => simp [intOf]; omega
    · have hge : ¬ (j : Int) < 3 := by omega
      have he := hide (Gd.ware_none (I := I) (n := 40) (fun t ht => unhide hno' t (by omega)))
      go_wp2
      go_ret
      exact ⟨ret_int (unhide he).symm, unhide hgr'⟩

def Gd.want (I : Nat → Nat → Int) (s X Y : Int) (shop : Bool) (G input : Int) : Int :=
  if input = 5 then Gd.find I 40 1 X Y
  else if input = 10 then (if shop = true ∧ 5 ≤ G then Gd.ware I 40 else -1)
  else if input = 8 then (if 0 ≤ Gd.find I 40 1 X Y then -1 else Gd.car I 40 s (fun k => Gd.serves k 8))
  else if input = 6 then Gd.car I 40 s (fun k => Gd.serves k 6)
  else if input = 7 then Gd.car I 40 s (fun k => Gd.serves k 7)
  else -1

theorem wareSays_any (B gC gE gI cC cI k s : Nat) (X Y G : Int) (c : Nat → Int) (I : Nat → Nat → Int) (w : World) (hN : Gd.Near w B gC gE gI cC cI k s X Y G) (hC : Vec w.heap.size w (some ⟨gC, 0, none⟩) 384 (Byts c)) (hc : ∀ i, 0 ≤ c i ∧ c i ≤ 255) (hI : Its w gI 0 40 I) :
    Calls Tryz.prog 190 #[.pointer (some ⟨B, 0, none⟩), .pointer (some ⟨gE, k * 11, none⟩)] w (Says w (.int .i64 (if decide (Gr.at 384 c X Y = 5) = true ∧ 5 ≤ G then Gd.ware I 40 else -1))) := by
  have cA := fun m => at_any w.heap.size (some ⟨gC, 0, none⟩) 384 cC c X Y (w.drewN m) (hC.drew m) hc
  by_cases hA : Gr.at 384 c X Y = 5
  · rw [hA] at cA
    by_cases hG : G < 5
    · rw [if_neg (by omega)]
      exact ware_poor B gC gE gI cC cI k s X Y G w hN cA hG
    · rw [if_pos ⟨by simp [hA], by omega⟩]
      exact ware_shop B gC gE gI cC cI k s X Y G w hN cA hG I hI
  · rw [if_neg (by simp [hA])]
    exact ware_not B gC gE gI cC cI k s X Y G _ w hN cA hA

end Go.Proofs.YtbanjoflgoiegaaGreat
