/-
  A list of records gone through with a side.
-/
import Derived.Test.YtiegccdgoemamaaWireRecs
import Derived.Laws.MakeOwn
namespace Go.Proofs.Ytiegccdgoemamaa
open Go.RowKit

theorem Wr.madeZero (m : Nat) : ∀ i, i < m * 5 → (madeCells (Value.agg #[.int .i64 0, .int .i64 0, .int .i64 0, .int .i64 0, .int .i64 0]).cells (m * 5))[i]? = some (.int .i64 0) := by
  intro i hi
  unfold madeCells
  rw [Array.getElem?_map, Array.getElem?_range, if_pos hi]
  simp only [Option.map_some, Option.some.injEq]
  have h5 : i % 5 < 5 := Nat.mod_lt _ (by decide)
  show (#[Value.int .i64 0, .int .i64 0, .int .i64 0, .int .i64 0, .int .i64 0] : Array Value)[i % 5]! = _
  rcases (show i % 5 = 0 ∨ i % 5 = 1 ∨ i % 5 = 2 ∨ i % 5 = 3 ∨ i % 5 = 4 by omega) with e | e | e | e | e <;> rw [e] <;> rfl

theorem Wr.at5 {x : World} {O m : Nat} {ty : TypeId} {z : Nat → Nat → Int} (h : Wr.Bx x O ty (m * 5) (Wr.flat z)) (i j : Nat) (hi : i < m) (hj : j < 5) : x.cell? ⟨O, i * 5 + j, none⟩ = some (.int .i64 (z i j)) := by
  rw [h.cell (i := i * 5 + j) (by omega)]
  unfold Wr.flat
  rw [show (i * 5 + j) / 5 = i by omega, show (i * 5 + j) % 5 = j by omega]

/-- A row of a list is laid over. -/
def Wr.put5 (x : World) (O i : Nat) (r : Nat → Int) : World := ((((x.setCell ⟨O, i * 5, none⟩ (.int .i64 (r 0))).setCell ⟨O, i * 5 + 1, none⟩ (.int .i64 (r 1))).setCell ⟨O, i * 5 + 2, none⟩ (.int .i64 (r 2))).setCell ⟨O, i * 5 + 3, none⟩ (.int .i64 (r 3))).setCell ⟨O, i * 5 + 4, none⟩ (.int .i64 (r 4))

theorem Wr.put5_bx {x : World} {O m i : Nat} {ty : TypeId} {z : Nat → Nat → Int} (h : Wr.Bx x O ty (m * 5) (Wr.flat z)) (r : Nat → Int) : Wr.Bx (Wr.put5 x O i r) O ty (m * 5) (Wr.flat fun k => if k = i then r else z k) ∧ Turn (fun b => b = O) x (Wr.put5 x O i r) := by
  refine ⟨(((((h.store (i * 5) (.int .i64 (r 0))).store (i * 5 + 1) (.int .i64 (r 1))).store (i * 5 + 2) (.int .i64 (r 2))).store (i * 5 + 3) (.int .i64 (r 3))).store (i * 5 + 4) (.int .i64 (r 4))).congr fun c _ => ?_, (((((Turn.refl (fun b => b = O) x).store O _ _ rfl).store O _ _ rfl).store O _ _ rfl).store O _ _ rfl).store O _ _ rfl⟩
  unfold Wr.flat
  show _ = Value.int .i64 ((if c / 5 = i then r else z (c / 5)) (c % 5))
  by_cases e : c / 5 = i
  · rcases (show c = i * 5 ∨ c = i * 5 + 1 ∨ c = i * 5 + 2 ∨ c = i * 5 + 3 ∨ c = i * 5 + 4 by omega) with q | q | q | q | q
    · have hm : c % 5 = 0 := by omega
      rw [if_pos e, hm]
      simp [q]
    · have hm : c % 5 = 1 := by omega
      rw [if_pos e, hm]
      simp [q]
    · have hm : c % 5 = 2 := by omega
      rw [if_pos e, hm]
      simp [q]
    · have hm : c % 5 = 3 := by omega
      rw [if_pos e, hm]
      simp [q]
    · have hm : c % 5 = 4 := by omega
      rw [if_pos e, hm]
      simp [q]
  · have q0 : c ≠ i * 5 := by omega
    have q1 : c ≠ i * 5 + 1 := by omega
    have q2 : c ≠ i * 5 + 2 := by omega
    have q3 : c ≠ i * 5 + 3 := by omega
    have q4 : c ≠ i * 5 + 4 := by omega
    simp [e, q0, q1, q2, q3, q4]

section
variable {T : TypeId} {v : Value} {f : FuncId} {σ : Type} {step : σ → Int → Int → Int → Int → σ × Int} {H : World → σ → (Nat → Prop) → Prop} {Lv : σ → Prop} {w x y : World} {s : σ} {B : Nat → Prop}

/-- The list as it is told: the side behind it, how many, and each. -/
def Wr.listR (step : σ → Int → Int → Int → Int → σ × Int) (s : σ) (n : Nat) (z : Nat → Nat → Int) : σ × Nat × (Nat → Nat → Int) :=
  let p := step s n 2 0 400
  (Wr.st (Wr.recS step) p.1 (Wr.pad n z) p.2.toNat, p.2.toNat, Wr.ou (Wr.recS step) p.1 (Wr.pad n z))

/-- A list of records that is nobody else's is handed back. -/
def Wr.ListsR (H : World → σ → (Nat → Prop) → Prop) (w : World) (B : Nat → Prop) (r : σ × Nat × (Nat → Nat → Int)) (e : Ending) (w' : World) : Prop :=
  ∃ B' O, e = .returned (.slice (some ⟨O, 0, none⟩) r.2.1 r.2.1) ∧ w.heap.size ≤ O ∧ ¬ B' O ∧ Wr.Bx w' O 50 (r.2.1 * 5) (Wr.flat r.2.2) ∧ H w' r.1 B' ∧ Wr.K w B w' B'

theorem Wr.st_back {α : Type} {each : σ → α → σ × α} (hb : ∀ s a, Lv (each s a).1 → Lv s) (xs : Nat → α) (j : Nat) : ∀ i, j ≤ i → Lv (Wr.st each s xs i) → Lv (Wr.st each s xs j)
  | 0, h, q => by obtain rfl : j = 0 := by omega
                  exact q
  | i + 1, h, q => by
    by_cases e : j = i + 1
    · subst e; exact q
    · exact Wr.st_back hb xs j i (by omega) (hb _ _ q)

theorem Wr.listR_first (h : Wr.Side T v f step H Lv) {n : Nat} {z : Nat → Nat → Int} (q : Lv (Wr.listR step s n z).1) : Lv (step s n 2 0 400).1 :=
  Wr.st_back (Wr.recS_back h) (Wr.pad n z) 0 _ (Nat.zero_le _) (show Lv (Wr.st (Wr.recS step) (step s n 2 0 400).1 (Wr.pad n z) _) from q)

theorem Wr.listR_back (h : Wr.Side T v f step H Lv) {n : Nat} {z : Nat → Nat → Int} (q : Lv (Wr.listR step s n z).1) : Lv s := h.back _ _ _ _ _ (Wr.listR_first h q)

set_option maxRecDepth 16000 in
set_option maxHeartbeats 6400000 in
theorem wListRec_any (h : Wr.Side T v f step H Lv) (a : Option Addr) (n c : Nat) (z : Nat → Nat → Int) (hn : n ≤ 1048576) (ha : a = none → n = 0)
    (hz : ∀ i, i < n → ∃ b o, a = some ⟨b, o, none⟩ ∧ b < w.heap.size ∧ ¬ B b ∧ ∀ j, j < 5 → w.cell? ⟨b, o + i * 5 + j, none⟩ = some (.int .i64 (z i j))) (hzr : ∀ i j, i < n → -9223372036854775808 ≤ z i j ∧ z i j ≤ 9223372036854775807) (hs : H w s B) (hl : Lv (Wr.listR step s n z).1) :
    Calls Try.prog 66 #[.agg #[.iface T v], .slice a n c, .int .i64 2, .int .i64 400, .func (.func 67) #[.agg #[.iface T v]] #[]] w (Wr.ListsR H w B (Wr.listR step s n z)) := by
  have hm := h.meth
  have hc := h.call
  obtain ⟨x, hx⟩ : ∃ x, x = w.alloc (.cells #[.iface T v] 73) := ⟨_, rfl⟩
  have hg : w.grownBy x none := by rw [hx]; exact World.grownBy_alloc _ _ _
  have u0 : x.cell? ⟨w.heap.size, 0, none⟩ = some (.iface T v) := by rw [hx]; exact Wr.row_cell w T v
  obtain ⟨R, hR⟩ : ∃ R, w.heap.size = R := ⟨_, rfl⟩
  have cf := hide (h.field x s B n 2 0 400 (by omega) (by omega) (.inr (.inl rfl)) (h.on hs hg) (Wr.listR_first h hl))
  have HG := hide hg
  have HZ := hide hz
  have HA := hide ha
  have hans := h.ans s n 2 0 400
  rw [hR] at u0
  obtain ⟨r, hr⟩ : ∃ r, step s n 2 0 400 = r := ⟨_, rfl⟩
  rw [hr] at cf hans
  obtain ⟨m, hm0⟩ : ∃ m : Nat, r.2 = (m : Int) := ⟨r.2.toNat, by omega⟩
  have hmm : m ≤ 1048576 := by omega
  rw [hm0] at cf
  have hF : Wr.listR step s n z = (Wr.st (Wr.recS step) r.1 (Wr.pad n z) m, m, Wr.ou (Wr.recS step) r.1 (Wr.pad n z)) := by
    unfold Wr.listR
    rw [hr]
    dsimp only
    rw [hm0, Int.toNat_natCast]
  rw [hF]
  have HXR : Hid (∀ i j, -9223372036854775808 ≤ Wr.pad n z i j ∧ Wr.pad n z i j ≤ 9223372036854775807) := fun i j => by
    unfold Wr.pad
    by_cases q : i < n
    · rw [if_pos q]; exact hzr i j q
    · rw [if_neg q]; exact ⟨by decide, by decide⟩
  obtain ⟨xs, hxs⟩ : ∃ xs, Wr.pad n z = xs := ⟨_, rfl⟩
  rw [hxs] at HXR ⊢
  have HXS := hide hxs
  have HLV : Hid (Lv (Wr.st (Wr.recS step) r.1 xs m)) := (show Lv _ by rw [hF, hxs] at hl; exact hl)
  clear hg hs hz hans hr hm0 hF hxs hzr ha hl
  go_enter Try.func66, Try.ntmps66
  go_upto_region 1 with fail
  rw [← hx]
  clear hx
  obtain ⟨i0, hi, hz0, hz1, hz2⟩ := info_parts info_rec
  go_wp2_with fail
  refine (unhide cf).mono ?_
  rintro e y ⟨B1, rfl, hs1, hk1⟩
  have hmk := run_make (P := Try.prog) y 25 50 i0 (.agg #[.int .i64 0, .int .i64 0, .int .i64 0, .int .i64 0, .int .i64 0]) Try.underlying25 hi hz0 .i64 .i64 m m (by omega) (by omega) (by rw [hz2]; omega) (by omega)
  rw [hz1, Int.toNat_natCast] at hmk
  obtain ⟨O, hO⟩ : ∃ O, y.heap.size = O := ⟨_, rfl⟩
  obtain ⟨y1, hy1⟩ : ∃ y1, y.alloc (.cells (madeCells (Value.agg #[.int .i64 0, .int .i64 0, .int .i64 0, .int .i64 0, .int .i64 0]).cells (m * 5)) 50) = y1 := ⟨_, rfl⟩
  have hrow : Wr.Bx y1 O 50 (m * 5) (fun _ => .int .i64 0) := by
    rw [← hy1, ← hO]
    exact Wr.Bx.new y _ _ (size_madeCells _ _) (Wr.madeZero m)
  have hgy : y.grownBy y1 none := by rw [← hy1]; exact World.grownBy_alloc _ _ _
  rw [hO, hy1] at hmk
  have hK1 := hk1.after (unhide HG)
  obtain ⟨u, y2, hcopy, hrow2, hg2⟩ := Wr.copied y1 O m n c a z hrow (fun i hi => by
    obtain ⟨b, o, h1, h2, h3, h4⟩ := unhide HZ i hi
    refine ⟨b, o, h1, fun j hj => ?_⟩
    have hb := hK1.turn.block b h2 h3
    exact (grown_cell hgy b _ (Nat.lt_of_lt_of_le h2 hK1.turn.size) (by simp)).trans ((World.cell?_of_block (a := ⟨b, o + i * 5 + j, none⟩) hb).trans (h4 j hj))) (unhide HA) 3
  have hlow : w.heap.size ≤ O := by rw [← hO]; exact hK1.turn.size
  have hBO : ¬ B1 O := fun q => by have := h.lt hs1 O q; omega
  have ht2 : Turn (fun b => b = O) y y2 := (Turn.new (B := fun b => b = O) hgy).trans (Turn.grown hg2 (fun k e => by cases e; rfl)) (fun _ _ q => q)
  rw [unhide HXS] at hrow2
  have hL0 : Hid (∃ B', H y2 (Wr.st (Wr.recS step) r.1 xs 0) B' ∧ ¬ B' O ∧ Wr.K w B y2 B' ∧ Wr.Bx y2 O 50 (m * 5) (Wr.flat (Wr.mid (Wr.ou (Wr.recS step) r.1 xs) xs 0))) := by
    refine ⟨B1, h.turned hs1 ht2 (fun b hb e => hBO (e ▸ hb)), hBO, hK1.then ht2 (fun b e => by rw [e]; exact hlow), hrow2.congr fun k _ => ?_⟩
    unfold Wr.flat Wr.mid
    rw [if_neg (by omega)]
  have HOw := hide hlow
  have HCP := hide hcopy
  clear hs1 hk1 hK1 hO hy1 hrow hgy hrow2 hg2 ht2 hBO hlow hcopy HG HZ HA HXS cf hi hz0 hz1 hz2 i0 hm hc u0
  go_upto_region 2 with fail
  go_wp2_with (refine wpList_copy_run rfl _ _ 25 25 rfl _ _ _ rfl rfl (unhide HCP) ?_)
  clear hmk HCP y1 y
  go_wp2_with fail
  go_loopw [26] (fun v26 wr => ∃ i : Nat, i ≤ m ∧ v26 = .int .i64 (i : Int) ∧ Hid (∃ B', H wr (Wr.st (Wr.recS step) r.1 xs i) B' ∧ ¬ B' O ∧ Wr.K w B wr B' ∧ Wr.Bx wr O 50 (m * 5) (Wr.flat (Wr.mid (Wr.ou (Wr.recS step) r.1 xs) xs i)))) (fun v26 _ => m - (intOf v26).toNat)
  case atStart => exact ⟨0, Nat.zero_le _, rfl, hL0⟩
  case round =>
    clear hL0
    obtain ⟨i, hi, rfl, hX⟩ := hrel
    obtain ⟨B', hs', hBO, hK, hrow⟩ := unhide hX
    clear hX
    by_cases hlt : i < m
    · have HL := hide hlt
      have hlt' : (i : Int) < (m : Int) := by omega
      have hi0 : (0 : Int) ≤ (i : Int) := by omega
      have q5 : ∀ j, j < 5 → wr.cell? ⟨O, i * 5 + j, none⟩ = some (.int .i64 (xs i j)) := fun j hj => by
        rw [Wr.at5 hrow i j hlt hj]
        unfold Wr.mid
        rw [if_neg (by omega)]
      have q0 : wr.cell? ⟨O, i * 5, none⟩ = some (.int .i64 (xs i 0)) := q5 0 (by omega)
      have q1 := q5 1 (by omega)
      have q2 := q5 2 (by omega)
      have q3 := q5 3 (by omega)
      have q4 := q5 4 (by omega)
      have cf := hide (wRecord_any h (xs i) (unhide HXR i) hs' (Wr.st_back (Wr.recS_back h) xs (i + 1) m (by omega) (unhide HLV)))
      have HBO := hide hBO
      have HK := hide hK
      have HRW := hide hrow
      obtain ⟨ans, hans⟩ : ∃ q, (Wr.recS step (Wr.st (Wr.recS step) r.1 xs i) (xs i)).2 = q := ⟨_, rfl⟩
      rw [hans] at cf
      have HAN := hide hans
      unfold Wr.rcd at cf
      clear hlt hi hs' hBO hK hrow hans q5
      go_wp2_with fail
      refine (unhide cf).mono ?_
      rintro e y3 ⟨B2, rfl, hs2, hk2⟩
      have hr3 := (unhide HRW).turn hk2.turn (unhide HBO)
      have p5 := fun j hj => Wr.at5 hr3 i j (unhide HL) hj
      have p0 : y3.cell? ⟨O, i * 5, none⟩ = _ := p5 0 (by omega)
      have p1 := p5 1 (by omega)
      have p2 := p5 2 (by omega)
      have p3 := p5 3 (by omega)
      have p4 := p5 4 (by omega)
      have f3 := hr3.free
      have hB2 : ¬ B2 O := fun e => by
        rcases hk2.own O e with e | e
        · exact unhide HBO e
        · have := (unhide HRW).lt
          omega
      obtain ⟨n1, n2⟩ := Wr.put5_bx (i := i) hr3 ans
      have hn : Hid (∃ B', H (Wr.put5 y3 O i ans) (Wr.st (Wr.recS step) r.1 xs (i + 1)) B' ∧ ¬ B' O ∧ Wr.K w B (Wr.put5 y3 O i ans) B' ∧ Wr.Bx (Wr.put5 y3 O i ans) O 50 (m * 5) (Wr.flat (Wr.mid (Wr.ou (Wr.recS step) r.1 xs) xs (i + 1)))) := by
        refine ⟨B2, h.turned hs2 n2 (fun b hb e => hB2 (e ▸ hb)), hB2, ((unhide HK).trans hk2).then n2 (fun b e => by rw [e]; exact unhide HOw), n1.congr fun k _ => ?_⟩
        dsimp only [Wr.flat, Wr.mid]
        by_cases e : k / 5 = i
        · rw [if_pos e, if_pos (by omega), e, ← unhide HAN]
          rfl
        · by_cases e2 : k / 5 < i
          · rw [if_neg e, if_pos e2, if_pos (by omega)]
          · rw [if_neg e, if_neg e2, if_neg (by omega)]
      clear cf hs2 hk2 hr3 hB2 HRW HBO HK HAN n1 n2 p5 q0 q1 q2 q3 q4
      unfold Wr.put5 at hn
      go_wp2
      go_roundw
      case rel => exact ⟨i + 1, by have := unhide HL; omega, by go_num, hn⟩
      case measure => simp [intOf]; have := unhide HL; omega
    · obtain rfl : i = m := by omega
      have hge : ¬ ((i : Nat) : Int) < (i : Int) := by omega
      have hfin : Hid (∃ B', w.heap.size ≤ O ∧ ¬ B' O ∧ Wr.Bx wr O 50 (i * 5) (Wr.flat (Wr.ou (Wr.recS step) r.1 xs)) ∧ H wr (Wr.st (Wr.recS step) r.1 xs i) B' ∧ Wr.K w B wr B') := ⟨B', unhide HOw, hBO, hrow.congr fun k hk => by
        unfold Wr.flat Wr.mid
        rw [if_pos (by omega)], hs', hK⟩
      clear hlt hi hs' hBO hK hrow
      go_wp2
      go_ret
      obtain ⟨B', h1, h2, h3, h4, h5⟩ := unhide hfin
      exact ⟨B', O, rfl, h1, h2, h3, h4, h5⟩

end

end Go.Proofs.Ytiegccdgoemamaa
