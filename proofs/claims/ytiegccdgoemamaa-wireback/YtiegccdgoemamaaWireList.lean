/-
  Many fields, one behind the other.
-/
import Derived.Test.YtiegccdgoemamaaWireSide
import Derived.Laws.CopyOwn
import Derived.Laws.MakeOwn
namespace Go.Proofs.Ytiegccdgoemamaa
open Go.RowKit

/-- Each is gone past. -/
def Wr.mapS {σ : Type} (each : σ → Int → σ × Int) : σ → List Int → σ × List Int
  | s, [] => (s, [])
  | s, a :: l => ((Wr.mapS each (each s a).1 l).1, (each s a).2 :: (Wr.mapS each (each s a).1 l).2)

def Wr.input {σ : Type} (step : σ → Int → Int → Int → Int → σ × Int) (s : σ) (n : Int) : σ × Int := step s n 1 0 10
def Wr.datum {σ : Type} (step : σ → Int → Int → Int → Int → σ × Int) (s : σ) (n : Int) : σ × Int := ((step s n 1 0 255).1, (step s n 1 0 255).2 % 256)

/-- So many of a list, zeros behind. -/
def Wr.fit (n m : Nat) (z : Nat → Int) : List Int := (List.range m).map fun i => if i < n then z i else 0

/-- How many, and each. -/
def Wr.listS {σ : Type} (step : σ → Int → Int → Int → Int → σ × Int) (each : σ → Int → σ × Int) (s : σ) (n : Nat) (k most : Int) (z : Nat → Int) : σ × List Int :=
  Wr.mapS each (step s n k 0 most).1 (Wr.fit n (step s n k 0 most).2.toNat z)

theorem info_num : (Try.prog.info? 3).map (fun i => (i.zero, i.size, i.bytes)) = some (some (.int .i64 0), 1, 8) := by kernel_rfl
theorem info_oct : (Try.prog.info? 5).map (fun i => (i.zero, i.size, i.bytes)) = some (some (.int .u8 0), 1, 1) := by kernel_rfl

section
variable {T : TypeId} {v : Value} {f : FuncId} {σ : Type} {step : σ → Int → Int → Int → Int → σ × Int} {H : World → σ → (Nat → Prop) → Prop} {Lv : σ → Prop} {w x y : World} {s : σ} {B : Nat → Prop}

theorem Wr.mapS_back {each : σ → Int → σ × Int} (hb : ∀ s a, Lv (each s a).1 → Lv s) : ∀ (l : List Int) (s : σ), Lv (Wr.mapS each s l).1 → Lv s
  | [], _, q => q
  | a :: l, s, q => hb s a (Wr.mapS_back hb l _ q)

theorem Wr.listS_back (h : Wr.Side T v f step H Lv) {each : σ → Int → σ × Int} (hb : ∀ s a, Lv (each s a).1 → Lv s) (n : Nat) (k most : Int) (z : Nat → Int) (q : Lv (Wr.listS step each s n k most z).1) : Lv s :=
  h.back s n k 0 most (Wr.mapS_back hb _ _ q)

theorem Wr.input_back (h : Wr.Side T v f step H Lv) (s : σ) (a : Int) (q : Lv (Wr.input step s a).1) : Lv s := h.back s a _ _ _ q
theorem Wr.datum_back (h : Wr.Side T v f step H Lv) (s : σ) (a : Int) (q : Lv (Wr.datum step s a).1) : Lv s := h.back s a _ _ _ q

/-- What stands in the loop. -/
def Wr.Loop (H : World → σ → (Nat → Prop) → Prop) (w : World) (B : Nat → Prop) (O : Nat) (cells : List Int → List Value) (ty : TypeId) (lo hi : Int) (m i : Nat) (fin : σ × List Int) (each : σ → Int → σ × Int) (x : World) : Prop :=
  ∃ D l s' B', D.length = i ∧ l.length + i = m ∧ (fin.1 = (Wr.mapS each s' l).1 ∧ fin.2 = D ++ (Wr.mapS each s' l).2) ∧ x.heap[O]? = some (.cells (cells (D ++ l)).toArray ty (0, 0)) ∧ H x s' B' ∧ ¬ B' O ∧ Wr.K w B x B' ∧ ∀ a ∈ l, lo ≤ a ∧ a ≤ hi

/-- A list that is nobody else's is handed back. -/
def Wr.Lists (H : World → σ → (Nat → Prop) → Prop) (w : World) (B : Nat → Prop) (cells : List Int → List Value) (ty : TypeId) (r : σ × List Int) (e : Ending) (w' : World) : Prop :=
  ∃ B' O, e = .returned (.slice (some ⟨O, 0, none⟩) r.2.length r.2.length) ∧ w.heap.size ≤ O ∧ ¬ B' O ∧ w'.heap[O]? = some (.cells (cells r.2).toArray ty (0, 0)) ∧ H w' r.1 B' ∧ Wr.K w B w' B'

set_option maxRecDepth 8000 in
set_option maxHeartbeats 3200000 in
theorem wListInt_any (h : Wr.Side T v f step H Lv) (a : Option Addr) (n c : Nat) (k most : Int) (hk : k = 1 ∨ k = 2 ∨ k = 4) (z : Nat → Int) (hn : n ≤ 1048576) (hmost : most ≤ 1048576)
    (hz : ∀ i, i < n → ∃ b o, a = some ⟨b, o, none⟩ ∧ b < w.heap.size ∧ ¬ B b ∧ w.cell? ⟨b, o + i, none⟩ = some (.int .i64 (z i)) ∧ -9223372036854775808 ≤ z i ∧ z i ≤ 9223372036854775807) (hs : H w s B) (hl : Lv (Wr.listS step (Wr.input step) s n k most z).1) :
    Calls Try.prog 70 #[.agg #[.iface T v], .slice a n c, .int .i64 k, .int .i64 most, .func (.func 71) #[.agg #[.iface T v]] #[]] w (Wr.Lists H w B (fun l => l.map (Value.int .i64)) 3 (Wr.listS step (Wr.input step) s n k most z)) := by
  have hm := h.meth
  have hc := h.call
  obtain ⟨x, hx⟩ : ∃ x, x = w.alloc (.cells #[.iface T v] 73) := ⟨_, rfl⟩
  have hg : w.grownBy x none := by rw [hx]; exact World.grownBy_alloc _ _ _
  have u0 : x.cell? ⟨w.heap.size, 0, none⟩ = some (.iface T v) := by rw [hx]; exact Wr.row_cell w T v
  obtain ⟨R, hR⟩ : ∃ R, w.heap.size = R := ⟨_, rfl⟩
  have HE := hide (show ∀ s a, Lv (Wr.input step s a).1 → Lv s from fun s a q => h.back s a _ _ _ q)
  have cf := hide (h.field x s B n k 0 most (by omega) (by omega) hk (h.on hs hg) (Wr.mapS_back (unhide HE) _ _ hl))
  have HG := hide hg
  have HZ := hide hz
  have HB := hide (h.lt hs)
  have ha := h.ans s n k 0 most
  rw [hR] at u0
  obtain ⟨r, hr⟩ : ∃ r, step s n k 0 most = r := ⟨_, rfl⟩
  rw [hr] at cf ha
  have HR := hide hr
  obtain ⟨m, hm0⟩ : ∃ m : Nat, r.2 = (m : Int) := ⟨r.2.toNat, by omega⟩
  have hmm : m ≤ 1048576 := by omega
  rw [hm0] at cf
  have HM := hide hm0
  obtain ⟨fin, hfin⟩ : ∃ q, Wr.listS step (Wr.input step) s n k most z = q := ⟨_, rfl⟩
  rw [hfin] at hl ⊢
  have HLV := hide hl
  have HF := hide hfin
  clear hg hs hz ha hr hm0 hk hfin hl
  go_enter Try.func70, Try.ntmps70
  go_upto_region 1 with fail
  rw [← hx]
  clear hx
  obtain ⟨i0, hi, hz0, hz1, hz2⟩ := info_parts info_num
  go_wp2_with fail
  refine (unhide cf).mono ?_
  rintro e y ⟨B1, rfl, hs1, hk1⟩
  have hmk := run_make (P := Try.prog) y 24 3 i0 (.int .i64 0) Try.underlying24 hi hz0 .i64 .i64 m m (by omega) (by omega) (by rw [hz2]; omega) (by omega)
  rw [hz1, Nat.mul_one, Int.toNat_natCast] at hmk
  obtain ⟨O, hO⟩ : ∃ O, y.heap.size = O := ⟨_, rfl⟩
  have hZ : madeCells (Value.int .i64 0).cells m = (List.replicate m (Value.int .i64 0)).toArray := by
    rw [← toList_madeCells_one]
    rfl
  rw [hO, hZ] at hmk
  obtain ⟨y1, hy1⟩ : ∃ y1, y.alloc (.cells (List.replicate m (Value.int .i64 0)).toArray 3) = y1 := ⟨_, rfl⟩
  rw [hy1] at hmk
  have hrow : Hid (y1.heap[O]? = some (.cells (List.replicate m (Value.int .i64 0)).toArray 3 (0, 0))) := by
    show _ = _
    rw [← hy1, ← hO]
    exact heap_alloc_new y _
  have hgy : Hid (y.grownBy y1 none) := by
    show y.grownBy y1 none
    rw [← hy1]
    exact World.grownBy_alloc _ _ _
  have HO := hide hO
  have HS1 := hide hs1
  have HK1 := hide (hk1.after (unhide HG))
  obtain ⟨cs, hcs⟩ : ∃ cs, cs = ((List.range (min n m)).map z).map (Value.int .i64) := ⟨_, rfl⟩
  have hcl : cs.length = Nat.min n m := by
    rw [hcs, List.length_map, List.length_map, List.length_range]
  have hsrc : Hid (0 < cs.length → ∃ ad, a = some ad ∧ ∀ j u, cs[j]? = some u → y1.cell? (ad.add j) = some u) := by
    intro h0
    have hmin : Nat.min n m ≤ n := Nat.min_le_left _ _
    obtain ⟨b, o, rfl, _⟩ := unhide HZ 0 (by omega)
    refine ⟨_, rfl, fun j u hj => ?_⟩
    have hjl : j < Nat.min n m := by
      rw [← hcl]
      exact (List.getElem?_eq_some_iff.1 hj).1
    obtain ⟨b', o', e, hb, hB, hcell, _⟩ := unhide HZ j (by omega)
    simp only [Option.some.injEq, Addr.mk.injEq, and_true] at e
    obtain ⟨rfl, rfl⟩ := e
    rw [Go.WideShapes.add_plain]
    have e1 : cs[j]? = some (.int .i64 (z j)) := by
      have hjm : j < min n m := hjl
      rw [hcs]
      simp [hjm]
    rw [e1] at hj
    cases hj
    have h1 := (unhide HK1).turn.block b hb hB
    exact (grown_cell (unhide hgy) b _ (Nat.lt_of_lt_of_le hb (unhide HK1).turn.size) (by simp)).trans ((World.cell?_of_block (a := ⟨b, o + j, none⟩) h1).trans hcell)
  have hone : Hid (∀ u ∈ cs, u.oneCell' = true) := fun u hu => by
    rw [hcs] at hu
    obtain ⟨q, _, rfl⟩ := List.mem_map.1 hu
    rfl
  have HCS := hide hcs
  have hxs : Hid (splice (List.replicate m (Value.int .i64 0)) 0 cs = (Wr.fit n m z).map (Value.int .i64)) := by
    show _ = _
    rw [hcs]
    unfold splice Wr.fit
    refine List.ext_getElem? fun j => ?_
    by_cases hj : j < m
    · by_cases hn : j < n
      · have hjm : j < min n m := by omega
        simp [hj, hn, List.getElem?_append, hjm]
      · have hjm : min n m = n := by omega
        rw [hjm]
        have hj2 : j - n < m - n := by omega
        simp [hj, hn, List.getElem?_append, hj2]
    · have hjm : ¬ j < min n m := by omega
      have hj2 : ¬ j - min n m < m - min n m := by omega
      simp [hj, List.getElem?_append, hjm, hj2]
  clear hs1 hk1 hO hy1 hcs HG
  go_upto_region 2 with fail
  go_wp2_with (refine wpList_copy_splice rfl _ _ 24 24 rfl 3 Try.underlying24 (by kernel_rfl) (some ⟨O, 0, none⟩) a m m n c rfl rfl O 0 (List.replicate m (Value.int .i64 0)) 3 (unhide hrow) cs hcl (fun h0 => ⟨rfl, unhide hsrc h0⟩) ?_ (unhide hone) y.heap.size y ?_ ?_ ?_)
  · have hmin : Nat.min n m ≤ m := Nat.min_le_right _ _
    rw [hcl, List.length_replicate]
    omega
  · exact none_below (unhide hgy)
  · have := unhide HO
    omega
  intro y2 hrow2 hb2
  have hg2 : y.grownBy y2 none := ⟨hb2.os, hb2.tape, hb2.output, hb2.size, fun k hk _ => hb2.block k hk⟩
  have hL0 : Hid (Wr.Loop H w B O (fun l => l.map (Value.int .i64)) 3 (-9223372036854775808) (9223372036854775807) m 0 fin (Wr.input step) y2) := by
    refine ⟨[], Wr.fit n m z, r.1, B1, rfl, by unfold Wr.fit; simp, ?_, ?_, h.on (unhide HS1) hg2, fun q => ?_, (unhide HK1).then (Turn.new (B := fun _ => False) hg2) (fun _ q => q.elim), fun u hu => ?_⟩
    · rw [← unhide HF]
      unfold Wr.listS
      rw [unhide HR, unhide HM, Int.toNat_natCast]
      exact ⟨rfl, rfl⟩
    · rw [unhide hrow2, unhide hxs]
      rfl
    · have := h.lt (unhide HS1) O q
      have := unhide HO
      omega
    · unfold Wr.fit at hu
      obtain ⟨j, _, rfl⟩ := List.mem_map.1 hu
      by_cases hj : j < n
      · obtain ⟨_, _, _, _, _, _, k1, k2⟩ := unhide HZ j hj
        rw [if_pos hj]
        exact ⟨k1, k2⟩
      · rw [if_neg hj]
        exact ⟨by decide, by decide⟩
  have hOw : Hid (w.heap.size ≤ O) := (show w.heap.size ≤ O by rw [← unhide HO]; exact (unhide HK1).turn.size)
  clear hb2 hg2 HF hrow2 hxs hone hsrc hcl HCS cs HK1 HS1 HO hrow hgy HZ HB HR HM hmk hZ hm hc u0 cf hi hz0 hz1 hz2 i0
  go_wp2_with fail
  go_loopw [26] (fun v26 wr => ∃ i : Nat, i ≤ m ∧ v26 = .int .i64 (i : Int) ∧ Hid (Wr.Loop H w B O (fun l => l.map (Value.int .i64)) 3 (-9223372036854775808) (9223372036854775807) m i fin (Wr.input step) wr)) (fun v26 _ => m - (intOf v26).toNat)
  case atStart => exact ⟨0, Nat.zero_le _, rfl, hL0⟩
  case round =>
    clear hL0
    obtain ⟨i, hi, rfl, hX⟩ := hrel
    obtain ⟨D, l, s', B', hD, hl, hq, hrow, hs', hBO, hK, hrg⟩ := unhide hX
    clear hX
    by_cases hlt : i < m
    · obtain ⟨q, l', rfl⟩ : ∃ q l', l = q :: l' := by
        cases l with
        | nil => simp at hl; omega
        | cons q l' => exact ⟨q, l', rfl⟩
      have hqr := hrg q (List.mem_cons_self)
      have HL := hide hlt
      have hlt' : (i : Int) < (m : Int) := by omega
      have hi0 : (0 : Int) ≤ (i : Int) := by omega
      have u1 : wr.cell? ⟨O, i, none⟩ = some (.int .i64 q) := by
        rw [cell_of_row _ _ i _ _ (0, 0) hrow]
        simp [← hD]
      have hlv : Lv (Wr.input step s' q).1 := Wr.mapS_back (unhide HE) l' _ (by have q := unhide HLV; rw [hq.1] at q; exact q)
      have cf := hide (wInput_any h q hqr.1 hqr.2 hs' hlv)
      have HN := hide hq
      have HD := hide hD
      have Hl := hide hl
      have HR := hide hrow
      have HBO := hide hBO
      have HK := hide hK
      have Hrg := hide hrg
      have Hlt := hide (Array.getElem?_eq_some_iff.1 hrow).1
      clear hlt hi hD hl hq hrow hs' hBO hK hrg hqr hlv
      go_wp2_with fail
      refine (unhide cf).mono ?_
      rintro e y3 ⟨B2, rfl, hs2, hk2⟩
      have hr3 : y3.heap[O]? = some (.cells ((D ++ q :: l').map (Value.int .i64)).toArray 3 (0, 0)) := (hk2.turn.block O (unhide Hlt) (unhide HBO)).trans (unhide HR)
      have u3 : y3.cell? ⟨O, i, none⟩ = some (.int .i64 q) := by
        rw [cell_of_row _ _ i _ _ (0, 0) hr3]
        simp [← unhide HD]
      have f3 : y3.frozen? ⟨O, i, none⟩ = false := frozen_of_row y3 O i _ _ hr3
      obtain ⟨ans, hans⟩ : ∃ q', (Wr.input step s' q).2 = q' := ⟨_, rfl⟩
      have hB2 : ¬ B2 O := fun e => by
        rcases hk2.own O e with e | e
        · exact unhide HBO e
        · have := unhide Hlt
          omega
      have hn : Hid (Wr.Loop H w B O (fun l => l.map (Value.int .i64)) 3 (-9223372036854775808) (9223372036854775807) m (i + 1) fin (Wr.input step) (y3.setCell ⟨O, i, none⟩ (.int .i64 ans))) := by
        refine ⟨D ++ [ans], l', (Wr.input step s' q).1, B2, by simp [unhide HD], by have := unhide Hl; simp at this; omega, ?_, ?_, h.turned hs2 ((Turn.refl (fun k => k = O) y3).store O i _ rfl) (fun b hb e => hB2 (e ▸ hb)), hB2, ((unhide HK).trans hk2).then ((Turn.refl (fun k => k = O) y3).store O i _ rfl) (fun b e => by rw [e]; exact unhide hOw), fun u hu => unhide Hrg u (List.mem_cons_of_mem _ hu)⟩
        · obtain ⟨q1, q2⟩ := unhide HN
          rw [← hans, List.append_assoc]
          exact ⟨q1, q2⟩
        · rw [heap_setCell_same y3 O i _ _ _ hr3, List.setIfInBounds_toArray]
          congr 3
          rw [← unhide HD]
          simp
      have e1 : ((Wr.num (step s' q 1 0 10)).2) = .int .i64 ans := by
        rw [← hans]
        rfl
      clear cf hs2 hk2 hr3 hB2 HR HBO HK HN HD Hl Hrg Hlt hans
      rw [e1]
      go_wp2
      go_roundw
      case rel => exact ⟨i + 1, by have := unhide HL; omega, by go_num, hn⟩
      case measure => simp [intOf]; have := unhide HL; omega
    · obtain rfl : i = m := by omega
      obtain rfl : l = [] := by
        cases l with
        | nil => rfl
        | cons q l' => simp at hl
      have hge : ¬ ((i : Nat) : Int) < (i : Int) := by omega
      obtain ⟨q1, q2⟩ := hq
      have e2 : fin.2 = D := by
        rw [q2]
        exact List.append_nil D
      have hfin : Hid (∃ B', w.heap.size ≤ O ∧ ¬ B' O ∧ wr.heap[O]? = some (.cells (fin.2.map (Value.int .i64)).toArray 3 (0, 0)) ∧ H wr fin.1 B' ∧ Wr.K w B wr B') := ⟨B', unhide hOw, hBO, by rw [e2]; rw [List.append_nil] at hrow; exact hrow, by rw [q1]; exact hs', hK⟩
      have hlen : Hid (fin.2.length = i) := (show _ = _ by rw [e2, hD])
      clear hlt hi hD hl q1 q2 e2 hrow hs' hBO hK hrg
      go_wp2
      go_ret
      obtain ⟨B', h1, h2, h3, h4, h5⟩ := unhide hfin
      exact ⟨B', O, by rw [unhide hlen]; rfl, h1, h2, h3, h4, h5⟩

set_option maxRecDepth 8000 in
set_option maxHeartbeats 3200000 in
theorem wListByte_any (h : Wr.Side T v f step H Lv) (a : Option Addr) (n c : Nat) (k most : Int) (hk : k = 1 ∨ k = 2 ∨ k = 4) (z : Nat → Int) (hn : n ≤ 1048576) (hmost : most ≤ 1048576)
    (hz : ∀ i, i < n → ∃ b o, a = some ⟨b, o, none⟩ ∧ b < w.heap.size ∧ ¬ B b ∧ w.cell? ⟨b, o + i, none⟩ = some (.int .u8 (z i)) ∧ 0 ≤ z i ∧ z i ≤ 255) (hs : H w s B) (hl : Lv (Wr.listS step (Wr.datum step) s n k most z).1) :
    Calls Try.prog 68 #[.agg #[.iface T v], .slice a n c, .int .i64 k, .int .i64 most, .func (.func 69) #[.agg #[.iface T v]] #[]] w (Wr.Lists H w B (fun l => l.map (Value.int .u8)) 5 (Wr.listS step (Wr.datum step) s n k most z)) := by
  have hm := h.meth
  have hc := h.call
  obtain ⟨x, hx⟩ : ∃ x, x = w.alloc (.cells #[.iface T v] 73) := ⟨_, rfl⟩
  have hg : w.grownBy x none := by rw [hx]; exact World.grownBy_alloc _ _ _
  have u0 : x.cell? ⟨w.heap.size, 0, none⟩ = some (.iface T v) := by rw [hx]; exact Wr.row_cell w T v
  obtain ⟨R, hR⟩ : ∃ R, w.heap.size = R := ⟨_, rfl⟩
  have HE := hide (show ∀ s a, Lv (Wr.datum step s a).1 → Lv s from fun s a q => h.back s a _ _ _ q)
  have cf := hide (h.field x s B n k 0 most (by omega) (by omega) hk (h.on hs hg) (Wr.mapS_back (unhide HE) _ _ hl))
  have HG := hide hg
  have HZ := hide hz
  have HB := hide (h.lt hs)
  have ha := h.ans s n k 0 most
  rw [hR] at u0
  obtain ⟨r, hr⟩ : ∃ r, step s n k 0 most = r := ⟨_, rfl⟩
  rw [hr] at cf ha
  have HR := hide hr
  obtain ⟨m, hm0⟩ : ∃ m : Nat, r.2 = (m : Int) := ⟨r.2.toNat, by omega⟩
  have hmm : m ≤ 1048576 := by omega
  rw [hm0] at cf
  have HM := hide hm0
  obtain ⟨fin, hfin⟩ : ∃ q, Wr.listS step (Wr.datum step) s n k most z = q := ⟨_, rfl⟩
  rw [hfin] at hl ⊢
  have HLV := hide hl
  have HF := hide hfin
  clear hg hs hz ha hr hm0 hk hfin hl
  go_enter Try.func68, Try.ntmps68
  go_upto_region 1 with fail
  rw [← hx]
  clear hx
  obtain ⟨i0, hi, hz0, hz1, hz2⟩ := info_parts info_oct
  go_wp2_with fail
  refine (unhide cf).mono ?_
  rintro e y ⟨B1, rfl, hs1, hk1⟩
  have hmk := run_make (P := Try.prog) y 27 5 i0 (.int .u8 0) Try.underlying27 hi hz0 .i64 .i64 m m (by omega) (by omega) (by rw [hz2]; omega) (by omega)
  rw [hz1, Nat.mul_one, Int.toNat_natCast] at hmk
  obtain ⟨O, hO⟩ : ∃ O, y.heap.size = O := ⟨_, rfl⟩
  have hZ : madeCells (Value.int .u8 0).cells m = (List.replicate m (Value.int .u8 0)).toArray := by
    rw [← toList_madeCells_one]
    rfl
  rw [hO, hZ] at hmk
  obtain ⟨y1, hy1⟩ : ∃ y1, y.alloc (.cells (List.replicate m (Value.int .u8 0)).toArray 5) = y1 := ⟨_, rfl⟩
  rw [hy1] at hmk
  have hrow : Hid (y1.heap[O]? = some (.cells (List.replicate m (Value.int .u8 0)).toArray 5 (0, 0))) := by
    show _ = _
    rw [← hy1, ← hO]
    exact heap_alloc_new y _
  have hgy : Hid (y.grownBy y1 none) := by
    show y.grownBy y1 none
    rw [← hy1]
    exact World.grownBy_alloc _ _ _
  have HO := hide hO
  have HS1 := hide hs1
  have HK1 := hide (hk1.after (unhide HG))
  obtain ⟨cs, hcs⟩ : ∃ cs, cs = ((List.range (min n m)).map z).map (Value.int .u8) := ⟨_, rfl⟩
  have hcl : cs.length = Nat.min n m := by
    rw [hcs, List.length_map, List.length_map, List.length_range]
  have hsrc : Hid (0 < cs.length → ∃ ad, a = some ad ∧ ∀ j u, cs[j]? = some u → y1.cell? (ad.add j) = some u) := by
    intro h0
    have hmin : Nat.min n m ≤ n := Nat.min_le_left _ _
    obtain ⟨b, o, rfl, _⟩ := unhide HZ 0 (by omega)
    refine ⟨_, rfl, fun j u hj => ?_⟩
    have hjl : j < Nat.min n m := by
      rw [← hcl]
      exact (List.getElem?_eq_some_iff.1 hj).1
    obtain ⟨b', o', e, hb, hB, hcell, _⟩ := unhide HZ j (by omega)
    simp only [Option.some.injEq, Addr.mk.injEq, and_true] at e
    obtain ⟨rfl, rfl⟩ := e
    rw [Go.WideShapes.add_plain]
    have e1 : cs[j]? = some (.int .u8 (z j)) := by
      have hjm : j < min n m := hjl
      rw [hcs]
      simp [hjm]
    rw [e1] at hj
    cases hj
    have h1 := (unhide HK1).turn.block b hb hB
    exact (grown_cell (unhide hgy) b _ (Nat.lt_of_lt_of_le hb (unhide HK1).turn.size) (by simp)).trans ((World.cell?_of_block (a := ⟨b, o + j, none⟩) h1).trans hcell)
  have hone : Hid (∀ u ∈ cs, u.oneCell' = true) := fun u hu => by
    rw [hcs] at hu
    obtain ⟨q, _, rfl⟩ := List.mem_map.1 hu
    rfl
  have HCS := hide hcs
  have hxs : Hid (splice (List.replicate m (Value.int .u8 0)) 0 cs = (Wr.fit n m z).map (Value.int .u8)) := by
    show _ = _
    rw [hcs]
    unfold splice Wr.fit
    refine List.ext_getElem? fun j => ?_
    by_cases hj : j < m
    · by_cases hn : j < n
      · have hjm : j < min n m := by omega
        simp [hj, hn, List.getElem?_append, hjm]
      · have hjm : min n m = n := by omega
        rw [hjm]
        have hj2 : j - n < m - n := by omega
        simp [hj, hn, List.getElem?_append, hj2]
    · have hjm : ¬ j < min n m := by omega
      have hj2 : ¬ j - min n m < m - min n m := by omega
      simp [hj, List.getElem?_append, hjm, hj2]
  clear hs1 hk1 hO hy1 hcs HG
  go_upto_region 2 with fail
  go_wp2_with (refine wpList_copy_splice rfl _ _ 27 27 rfl 5 Try.underlying27 (by kernel_rfl) (some ⟨O, 0, none⟩) a m m n c rfl rfl O 0 (List.replicate m (Value.int .u8 0)) 5 (unhide hrow) cs hcl (fun h0 => ⟨rfl, unhide hsrc h0⟩) ?_ (unhide hone) y.heap.size y ?_ ?_ ?_)
  · have hmin : Nat.min n m ≤ m := Nat.min_le_right _ _
    rw [hcl, List.length_replicate]
    omega
  · exact none_below (unhide hgy)
  · have := unhide HO
    omega
  intro y2 hrow2 hb2
  have hg2 : y.grownBy y2 none := ⟨hb2.os, hb2.tape, hb2.output, hb2.size, fun k hk _ => hb2.block k hk⟩
  have hL0 : Hid (Wr.Loop H w B O (fun l => l.map (Value.int .u8)) 5 (0) (255) m 0 fin (Wr.datum step) y2) := by
    refine ⟨[], Wr.fit n m z, r.1, B1, rfl, by unfold Wr.fit; simp, ?_, ?_, h.on (unhide HS1) hg2, fun q => ?_, (unhide HK1).then (Turn.new (B := fun _ => False) hg2) (fun _ q => q.elim), fun u hu => ?_⟩
    · rw [← unhide HF]
      unfold Wr.listS
      rw [unhide HR, unhide HM, Int.toNat_natCast]
      exact ⟨rfl, rfl⟩
    · rw [unhide hrow2, unhide hxs]
      rfl
    · have := h.lt (unhide HS1) O q
      have := unhide HO
      omega
    · unfold Wr.fit at hu
      obtain ⟨j, _, rfl⟩ := List.mem_map.1 hu
      by_cases hj : j < n
      · obtain ⟨_, _, _, _, _, _, k1, k2⟩ := unhide HZ j hj
        rw [if_pos hj]
        exact ⟨k1, k2⟩
      · rw [if_neg hj]
        exact ⟨by decide, by decide⟩
  have hOw : Hid (w.heap.size ≤ O) := (show w.heap.size ≤ O by rw [← unhide HO]; exact (unhide HK1).turn.size)
  clear hb2 hg2 HF hrow2 hxs hone hsrc hcl HCS cs HK1 HS1 HO hrow hgy HZ HB HR HM hmk hZ hm hc u0 cf hi hz0 hz1 hz2 i0
  go_wp2_with fail
  go_loopw [26] (fun v26 wr => ∃ i : Nat, i ≤ m ∧ v26 = .int .i64 (i : Int) ∧ Hid (Wr.Loop H w B O (fun l => l.map (Value.int .u8)) 5 (0) (255) m i fin (Wr.datum step) wr)) (fun v26 _ => m - (intOf v26).toNat)
  case atStart => exact ⟨0, Nat.zero_le _, rfl, hL0⟩
  case round =>
    clear hL0
    obtain ⟨i, hi, rfl, hX⟩ := hrel
    obtain ⟨D, l, s', B', hD, hl, hq, hrow, hs', hBO, hK, hrg⟩ := unhide hX
    clear hX
    by_cases hlt : i < m
    · obtain ⟨q, l', rfl⟩ : ∃ q l', l = q :: l' := by
        cases l with
        | nil => simp at hl; omega
        | cons q l' => exact ⟨q, l', rfl⟩
      have hqr := hrg q (List.mem_cons_self)
      have HL := hide hlt
      have hlt' : (i : Int) < (m : Int) := by omega
      have hi0 : (0 : Int) ≤ (i : Int) := by omega
      have u1 : wr.cell? ⟨O, i, none⟩ = some (.int .u8 q) := by
        rw [cell_of_row _ _ i _ _ (0, 0) hrow]
        simp [← hD]
      have hlv : Lv (Wr.datum step s' q).1 := Wr.mapS_back (unhide HE) l' _ (by have q := unhide HLV; rw [hq.1] at q; exact q)
      have cf := hide (wDatum_any h q hqr.1 hqr.2 hs' hlv)
      have HN := hide hq
      have HD := hide hD
      have Hl := hide hl
      have HR := hide hrow
      have HBO := hide hBO
      have HK := hide hK
      have Hrg := hide hrg
      have Hlt := hide (Array.getElem?_eq_some_iff.1 hrow).1
      clear hlt hi hD hl hq hrow hs' hBO hK hrg hqr hlv
      go_wp2_with fail
      refine (unhide cf).mono ?_
      rintro e y3 ⟨B2, rfl, hs2, hk2⟩
      have hr3 : y3.heap[O]? = some (.cells ((D ++ q :: l').map (Value.int .u8)).toArray 5 (0, 0)) := (hk2.turn.block O (unhide Hlt) (unhide HBO)).trans (unhide HR)
      have u3 : y3.cell? ⟨O, i, none⟩ = some (.int .u8 q) := by
        rw [cell_of_row _ _ i _ _ (0, 0) hr3]
        simp [← unhide HD]
      have f3 : y3.frozen? ⟨O, i, none⟩ = false := frozen_of_row y3 O i _ _ hr3
      obtain ⟨ans, hans⟩ : ∃ q', (Wr.datum step s' q).2 = q' := ⟨_, rfl⟩
      have hB2 : ¬ B2 O := fun e => by
        rcases hk2.own O e with e | e
        · exact unhide HBO e
        · have := unhide Hlt
          omega
      have hn : Hid (Wr.Loop H w B O (fun l => l.map (Value.int .u8)) 5 (0) (255) m (i + 1) fin (Wr.datum step) (y3.setCell ⟨O, i, none⟩ (.int .u8 ans))) := by
        refine ⟨D ++ [ans], l', (Wr.datum step s' q).1, B2, by simp [unhide HD], by have := unhide Hl; simp at this; omega, ?_, ?_, h.turned hs2 ((Turn.refl (fun k => k = O) y3).store O i _ rfl) (fun b hb e => hB2 (e ▸ hb)), hB2, ((unhide HK).trans hk2).then ((Turn.refl (fun k => k = O) y3).store O i _ rfl) (fun b e => by rw [e]; exact unhide hOw), fun u hu => unhide Hrg u (List.mem_cons_of_mem _ hu)⟩
        · obtain ⟨q1, q2⟩ := unhide HN
          rw [← hans, List.append_assoc]
          exact ⟨q1, q2⟩
        · rw [heap_setCell_same y3 O i _ _ _ hr3, List.setIfInBounds_toArray]
          congr 3
          rw [← unhide HD]
          simp
      have e1 : (((step s' q 1 0 255).1, Value.int .u8 ((step s' q 1 0 255).2 % 256)).2) = .int .u8 ans := by
        rw [← hans]
        rfl
      clear cf hs2 hk2 hr3 hB2 HR HBO HK HN HD Hl Hrg Hlt hans
      rw [e1]
      go_wp2
      go_roundw
      case rel => exact ⟨i + 1, by have := unhide HL; omega, by go_num, hn⟩
      case measure => simp [intOf]; have := unhide HL; omega
    · obtain rfl : i = m := by omega
      obtain rfl : l = [] := by
        cases l with
        | nil => rfl
        | cons q l' => simp at hl
      have hge : ¬ ((i : Nat) : Int) < (i : Int) := by omega
      obtain ⟨q1, q2⟩ := hq
      have e2 : fin.2 = D := by
        rw [q2]
        exact List.append_nil D
      have hfin : Hid (∃ B', w.heap.size ≤ O ∧ ¬ B' O ∧ wr.heap[O]? = some (.cells (fin.2.map (Value.int .u8)).toArray 5 (0, 0)) ∧ H wr fin.1 B' ∧ Wr.K w B wr B') := ⟨B', unhide hOw, hBO, by rw [e2]; rw [List.append_nil] at hrow; exact hrow, by rw [q1]; exact hs', hK⟩
      have hlen : Hid (fin.2.length = i) := (show _ = _ by rw [e2, hD])
      clear hlt hi hD hl q1 q2 e2 hrow hs' hBO hK hrg
      go_wp2
      go_ret
      obtain ⟨B', h1, h2, h3, h4, h5⟩ := unhide hfin
      exact ⟨B', O, by rw [unhide hlen]; rfl, h1, h2, h3, h4, h5⟩

end

end Go.Proofs.Ytiegccdgoemamaa
