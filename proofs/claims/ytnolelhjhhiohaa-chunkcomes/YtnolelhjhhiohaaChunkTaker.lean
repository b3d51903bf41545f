/-
  The project's taker: NewTaker, Bits, Put.
-/
import Derived.Test.YtnolelhjhhiohaaChunkSmall
namespace Go.Proofs.Ytnolelhjhhiohaa
open Go.RowKit

theorem Ck.own_off {x : World} {base p n m : Nat} {T U : TypeId} {z : Nat} {F : Nat → Value} {v : Value} {xs : List Value} (hA : Arr x p T n F) (h : x.ownsRow base U z v m xs) (hT : T ≠ U) : ∀ k, v.ownBlock = some k → k ≠ p := by
  rintro k e rfl
  obtain ⟨cur, hc, _⟩ := hA
  rcases h.2 with ⟨rfl, _⟩ | ⟨g, cap, cur', rfl, _, hc', _⟩
  · cases e
  · simp [Value.ownBlock] at e
    subst e
    rw [hc] at hc'
    simp only [Option.some.injEq, Obj.cells.injEq] at hc'
    exact hT hc'.2.1

/-- The project's taker as it lies at p; L: the bytes of the pieces that are there, V their slices. -/
structure Ck.Mkr (x : World) (base p : Nat) (tot : Nat) (has : Nat → Bool) (L : Nat → List Int) (V : Nat → Value) : Prop where
  box : Arr x p 74 18 (fun j => if j = 0 then .int .i64 (tot : Int) else if j = 1 then .int .u32 (Ck.num has 16) else V (j - 2))
  low : base ≤ p
  most : tot ≤ 16
  nil : tot = 0 → ∀ i, i < 16 → has i = false
  some_ : 0 < tot → ∃ i, i < tot ∧ has i = true
  past : ∀ i, tot ≤ i → i < 16 → has i = false
  piece : ∀ i, i < 16 → has i = true → x.ownsRow base 5 1 (V i) (L i).length (Ck.bys (L i)) ∧ (L i).length ≤ 64 ∧ V i ≠ .slice none 0 0
  none_ : ∀ i, i < 16 → has i = false → V i = .slice none 0 0

theorem Ck.Mkr.turn {x y : World} {base p tot : Nat} {has : Nat → Bool} {L : Nat → List Int} {V : Nat → Value} {B : Nat → Prop} (H : Ck.Mkr x base p tot has L V) (ht : Turn B x y) (hp : ¬ B p) (hb : ∀ i, i < 16 → has i = true → ∀ k, (V i).ownBlock = some k → ¬ B k) : Ck.Mkr y base p tot has L V :=
  { H with box := H.box.turn ht hp, piece := fun i hi q => ⟨owns_turned (H.piece i hi q).1 ht (hb i hi q), (H.piece i hi q).2⟩ }

theorem Ck.Mkr.on {x y : World} {base p tot : Nat} {has : Nat → Bool} {L : Nat → List Int} {V : Nat → Value} (H : Ck.Mkr x base p tot has L V) (hg : x.grownBy y none) : Ck.Mkr y base p tot has L V :=
  H.turn (B := fun _ => False) (Turn.new hg) (fun q => q) (fun _ _ _ _ _ q => q)

theorem Ck.Mkr.off {x : World} {base p tot : Nat} {has : Nat → Bool} {L : Nat → List Int} {V : Nat → Value} (H : Ck.Mkr x base p tot has L V) : ∀ i, i < 16 → has i = true → ∀ k, (V i).ownBlock = some k → k ≠ p :=
  fun i hi q => Ck.own_off H.box (H.piece i hi q).1 (by decide)

theorem Ck.Mkr.cells {x : World} {base p tot : Nat} {has : Nat → Bool} {L : Nat → List Int} {V : Nat → Value} (H : Ck.Mkr x base p tot has L V) : x.cell? ⟨p, 0, none⟩ = some (.int .i64 (tot : Int)) ∧ x.cell? ⟨p, 1, none⟩ = some (.int .u32 (Ck.num has 16)) ∧ (∀ i, x.frozen? ⟨p, i, none⟩ = false) :=
  ⟨H.box.cell (i := 0) (by omega), H.box.cell (i := 1) (by omega), fun i => H.box.free i⟩

theorem Ck.Mkr.slot {x : World} {base p tot : Nat} {has : Nat → Bool} {L : Nat → List Int} {V : Nat → Value} (H : Ck.Mkr x base p tot has L V) {i : Nat} (hi : i < 16) : x.cell? ⟨p, 2 + i, none⟩ = some (V i) := by
  have h := H.box.cell (i := 2 + i) (by omega)
  rw [if_neg (by omega), if_neg (by omega), show 2 + i - 2 = i by omega] at h
  exact h

/-- NewTaker. -/
theorem ckNewTaker_any (base : Nat) (w : World) (hb : base ≤ w.heap.size) :
    Calls Try.prog 22 #[] w fun e w' => ∃ p, e = .returned (.pointer (some ⟨p, 0, none⟩)) ∧ w.heap.size ≤ p ∧ Ck.Mkr w' base p 0 (fun _ => false) (fun _ => []) (fun _ => .slice none 0 0) ∧ w.grownBy w' none := by
  go_enter Try.func22, Try.ntmps22
  go_wp2
  go_ret
  refine ⟨w.heap.size, rfl, Nat.le_refl _, ⟨(Arr.lit (heap_alloc_new w _)).congr (fun j hj => ?_), hb, by omega, fun _ _ _ => rfl, fun h => absurd h (by omega), fun _ _ _ => rfl, fun _ _ q => absurd q (by simp), fun _ _ _ => rfl⟩, World.grownBy_alloc _ _ _⟩
  have hj2 : j < 18 := hj
  rcases (show j = 0 ∨ j = 1 ∨ j = 2 ∨ j = 3 ∨ j = 4 ∨ j = 5 ∨ j = 6 ∨ j = 7 ∨ j = 8 ∨ j = 9 ∨ j = 10 ∨ j = 11 ∨ j = 12 ∨ j = 13 ∨ j = 14 ∨ j = 15 ∨ j = 16 ∨ j = 17 by omega) with rfl | rfl | rfl | rfl | rfl | rfl | rfl | rfl | rfl | rfl | rfl | rfl | rfl | rfl | rfl | rfl | rfl | rfl <;> rfl

/-- Bits. -/
theorem ckBits_any (base p tot : Nat) (has : Nat → Bool) (L : Nat → List Int) (V : Nat → Value) (w : World) (H : Ck.Mkr w base p tot has L V) :
    Calls Try.prog 25 #[.pointer (some ⟨p, 0, none⟩)] w fun e w' => e = .returned (.int .u32 (Ck.num has 16)) ∧ w' = w := by
  obtain ⟨c0, c1, _⟩ := H.cells
  obtain ⟨z, hz⟩ : ∃ z, Ck.num has 16 = z := ⟨_, rfl⟩
  rw [hz] at c1 ⊢
  clear H hz
  go_enter Try.func25, Try.ntmps25
  go_wp2
  go_ret
  exact ⟨rfl, rfl⟩

theorem Ck.Mkr.put {x y : World} {base p tot : Nat} {has : Nat → Bool} {L : Nat → List Int} {V : Nat → Value} (H : Ck.Mkr x base p tot has L V) {i t : Nat} (ht : tot = 0 ∨ tot = t) (hi : i < t) (h16 : t ≤ 16) (hh : has i = false) (hg : ((x.setCell ⟨p, 0, none⟩ (.int .i64 (t : Int))).setCell ⟨p, 1, none⟩ (.int .u32 (Ck.num (Ck.put has i) 16))).grownBy y none) {v : Value} {l : List Int} (hown : y.ownsRow base 5 1 v l.length (Ck.bys l)) (hl : l.length ≤ 64) (hv : v ≠ .slice none 0 0) :
    Ck.Mkr (y.setCell ⟨p, 2 + i, none⟩ v) base p t (Ck.put has i) (Ck.lay has L i l) (fun j => if j = i then v else V j) := by
  have t1 : Turn (fun k => k = p) x y := (((Turn.refl (fun k => k = p) x).store p 0 _ rfl).store p 1 _ rfl).then hg
  have t2 : Turn (fun k => k = p) y (y.setCell ⟨p, 2 + i, none⟩ v) := (Turn.refl (fun k => k = p) y).store p (2 + i) v rfl
  have hbx : Arr y p 74 18 _ := ((H.box.store 0 (.int .i64 (t : Int))).store 1 (.int .u32 (Ck.num (Ck.put has i) 16))).turn (B := fun _ => False) (Turn.new hg) (fun q => q)
  refine ⟨?_, H.low, h16, fun h => absurd h (by omega), fun _ => ⟨i, hi, by unfold Ck.put; rw [if_pos rfl]⟩, fun j h1 h2 => ?_, fun j hj q => ?_, fun j hj q => ?_⟩
  · refine (hbx.store (2 + i) v).congr (fun j hj => ?_)
    by_cases e1 : j = 2 + i
    · rw [if_pos e1, if_neg (by omega), if_neg (by omega), if_pos (by omega)]
    · rw [if_neg e1]
      by_cases e2 : j = 1
      · rw [if_pos e2, if_neg (by omega), if_pos e2]
      · rw [if_neg e2]
        by_cases e3 : j = 0
        · rw [if_pos e3, if_pos e3]
        · rw [if_neg e3, if_neg e3, if_neg e3, if_neg e2, if_neg e2, if_neg (by omega)]
  · unfold Ck.put
    rw [if_neg (by omega)]
    rcases ht with e | e
    · exact H.nil e j h2
    · exact H.past j (by omega) h2
  · unfold Ck.lay
    by_cases e : j = i
    · rw [if_pos e, if_pos ⟨e, hh⟩]
      exact ⟨owns_turned hown t2 (Ck.own_off hbx hown (by decide)), hl, hv⟩
    · rw [if_neg e, if_neg (fun r => e r.1)]
      unfold Ck.put at q
      rw [if_neg e] at q
      obtain ⟨p1, p3, p4⟩ := H.piece j hj q
      exact ⟨owns_turned (owns_turned p1 t1 (H.off j hj q)) t2 (H.off j hj q), p3, p4⟩
  · unfold Ck.put at q
    by_cases e : j = i
    · rw [if_pos e] at q
      cases q
    · rw [if_neg e] at q ⊢
      exact H.none_ j hj q

/-- Numbers that may not be. -/
theorem ckPut_arg (p : Nat) (i total : Int) (v : Value) (w : World) (h : total < 1 ∨ 16 < total ∨ i < 0 ∨ total ≤ i) :
    Calls Try.prog 23 #[.pointer (some ⟨p, 0, none⟩), .int .i64 i, .int .i64 total, v] w fun e w' => e = .returned (.int .i64 1) ∧ w' = w := by
  by_cases h1 : total < 1 ∨ 16 < total
  · have c0 := hide (isCount_no total w h1)
    clear h h1
    go_enter Try.func23, Try.ntmps23
    go_wp2_with fail
    refine (unhide c0).mono ?_
    rintro e wq ⟨rfl, hq⟩
    obtain rfl : w = wq := hq.symm
    go_wp2
    go_ret
    exact ⟨rfl, rfl⟩
  · have c0 := hide (isCount_yes total w (by omega) (by omega))
    by_cases h3 : i < 0
    · clear h h1
      go_enter Try.func23, Try.ntmps23
      go_wp2_with fail
      refine (unhide c0).mono ?_
      rintro e wq ⟨rfl, hq⟩
      obtain rfl : w = wq := hq.symm
      go_wp2
      go_ret
      exact ⟨rfl, rfl⟩
    · have h4 : total ≤ i := by omega
      clear h h1
      go_enter Try.func23, Try.ntmps23
      go_wp2_with fail
      refine (unhide c0).mono ?_
      rintro e wq ⟨rfl, hq⟩
      obtain rfl : w = wq := hq.symm
      go_wp2
      go_ret
      exact ⟨rfl, rfl⟩

theorem Ck.Mkr.lone {x : World} {base p tot : Nat} {has : Nat → Bool} {L : Nat → List Int} {V : Nat → Value} (H : Ck.Mkr x base p tot has L V) : (Ck.num has 16 != 0) = decide (tot ≠ 0) := by
  have h := Ck.num_zero (f := has) (k := 16) (by omega)
  show (!(Ck.num has 16 == 0)) = _
  rw [h]
  by_cases e : tot = 0
  · rw [decide_eq_true (H.nil e), e]; rfl
  · obtain ⟨i, h1, h2⟩ := H.some_ (by omega)
    rw [decide_eq_false (fun q => by rw [q i (by have := H.most; omega)] at h2; cases h2), decide_eq_true e]; rfl

/-- Pieces that may not be. -/
theorem ckPut_bad (base p tot : Nat) (has : Nat → Bool) (L : Nat → List Int) (V : Nat → Value) (i total : Int) (a : Option Addr) (len cap : Nat) (w : World) (H : Ck.Mkr w base p tot has L V) (h0 : ¬ (total < 1 ∨ 16 < total ∨ i < 0 ∨ total ≤ i)) (h : ((tot : Int) ≠ 0 ∧ (tot : Int) ≠ total) ∨ 64 < len ∨ (len < 64 ∧ i ≠ total - 1)) (hm : len ≤ maxLen) :
    Calls Try.prog 23 #[.pointer (some ⟨p, 0, none⟩), .int .i64 i, .int .i64 total, .slice a len cap] w fun e w' => e = .returned (.int .i64 9) ∧ w' = w := by
  obtain ⟨c0, c1, _⟩ := H.cells
  have hlone := H.lone
  have c3 := hide (isCount_yes total w (by omega) (by omega))
  have g1 : 1 ≤ total := by omega
  have g2 : total ≤ 16 := by omega
  have g3 : ¬ i < 0 := fun q => h0 (.inr (.inr (.inl q)))
  have g4 : ¬ total ≤ i := fun q => h0 (.inr (.inr (.inr q)))
  obtain ⟨z, hz⟩ : ∃ z, Ck.num has 16 = z := ⟨_, rfl⟩
  rw [hz] at c1 hlone
  unfold maxLen at hm
  clear H h0 hz
  by_cases h1 : (tot : Int) ≠ 0 ∧ (tot : Int) ≠ total
  · have e1 : (z != 0) = true := by rw [hlone, decide_eq_true]; omega
    have e2 : ((tot : Int) != total) = true := by simp [h1.2]
    clear h1 h hlone
    go_enter Try.func23, Try.ntmps23
    go_wp2_with fail
    refine (unhide c3).mono ?_
    rintro e wq ⟨rfl, hq⟩
    obtain rfl : w = wq := hq.symm
    go_wp2
    go_ret
    exact ⟨rfl, rfl⟩
  · have h2 : 64 < len ∨ (len < 64 ∧ i ≠ total - 1) := h.resolve_left h1
    have hc : ((z != 0) = false) ∨ ((z != 0) = true ∧ ((tot : Int) != total) = false) := by
      by_cases e : (tot : Int) = 0
      · exact .inl (by rw [hlone, decide_eq_false]; omega)
      · exact .inr ⟨by rw [hlone, decide_eq_true]; omega, by
          have : (tot : Int) = total := Classical.byContradiction fun q => h1 ⟨e, q⟩
          simp [this]⟩
    clear h h1 hlone
    rcases hc with e1 | ⟨e1, e2⟩
    all_goals
      by_cases h3 : 64 < len
      · have h3' : (64 : Int) < (len : Int) := by omega
        clear h3 h2
        go_enter Try.func23, Try.ntmps23
        go_wp2_with fail
        refine (unhide c3).mono ?_
        rintro e wq ⟨rfl, hq⟩
        obtain rfl : w = wq := hq.symm
        go_wp2
        go_ret
        exact ⟨rfl, rfl⟩
      · have h4 := h2.resolve_left h3
        have h3' : ¬ (64 : Int) < (len : Int) := by omega
        have h4' : (len : Int) < 64 := by omega
        have h5 : (i != total - 1) = true := by simp [h4.2]
        clear h3 h2 h4
        go_enter Try.func23, Try.ntmps23
        go_wp2_with fail
        refine (unhide c3).mono ?_
        rintro e wq ⟨rfl, hq⟩
        obtain rfl : w = wq := hq.symm
        go_wp2
        go_ret
        exact ⟨rfl, rfl⟩

/-- A piece that may be. -/
def Ck.Lays (w : World) (base p tot : Nat) (has : Nat → Bool) (L : Nat → List Int) (V : Nat → Value) (i : Nat) (l : List Int) (e : Ending) (w' : World) : Prop :=
  e = .returned (.int .i64 0) ∧ (∃ V', Ck.Mkr w' base p tot (Ck.put has i) (Ck.lay has L i l) V' ∧ ∀ j k, (V' j).ownBlock = some k → (V j).ownBlock = some k ∨ w.heap.size ≤ k) ∧ Turn (fun k => k = p) w w'

theorem Ck.Src.turn {x y : World} {v : Value} {l : List Int} {p : Nat} (h : Ck.Src x v l) (ht : Turn (fun k => k = p) x y) (hsp : ∀ ad cap, v = .slice (some ad) l.length cap → 0 < l.length → ad.block ≠ p) : Ck.Src y v l := by
  rcases h with h | ⟨ad, c, e, h2⟩
  · exact .inl h
  · refine .inr ⟨ad, c, e, fun j u q => ?_⟩
    have hjl : j < l.length := by
      have := (List.getElem?_eq_some_iff.1 q).1
      unfold Ck.bys at this
      simpa using this
    have hne := hsp ad c e (by omega)
    have hb : (ad.add j).block = ad.block := by unfold Addr.add; split <;> rfl
    have h3 := h2 j u q
    exact (World.cell?_of_block (ht.block _ (Go.block_lt_of_cell h3) (by rw [hb]; exact hne))).trans h3

set_option maxRecDepth 4000 in
set_option maxHeartbeats 3200000 in
theorem ckPut_ok (base p tot : Nat) (has : Nat → Bool) (L : Nat → List Int) (V : Nat → Value) (i total : Nat) (v : Value) (l : List Int) (w : World) (H : Ck.Mkr w base p tot has L V) (hs : Ck.Src w v l) (h1 : 1 ≤ total) (h16 : total ≤ 16) (hi : i < total) (ht : tot = 0 ∨ tot = total) (hl : l.length ≤ 64) (hl2 : l.length = 64 ∨ i + 1 = total) (hsp : ∀ ad cap, v = .slice (some ad) l.length cap → 0 < l.length → ad.block ≠ p) :
    Calls Try.prog 23 #[.pointer (some ⟨p, 0, none⟩), .int .i64 (i : Int), .int .i64 (total : Int), v] w (Ck.Lays w base p total has L V i l) := by
  obtain ⟨c0, c1, f0⟩ := H.cells
  have hlone := H.lone
  have c3 := hide (isCount_yes total w (by omega) (by omega))
  have g3 : ¬ (i : Int) < 0 := by omega
  have g4 : ¬ (total : Int) ≤ (i : Int) := by omega
  have g1 : 1 ≤ (total : Int) := by omega
  have g2 : (total : Int) ≤ 16 := by omega
  have g5 : (i : Int) < 16 := by omega
  have g6 : (i : Int) ≤ 32 := by omega
  have g7 : (0 : Int) ≤ (i : Int) := by omega
  have hv : ∃ a cap, v = .slice a l.length cap := by
    rcases hs with ⟨rfl, rfl⟩ | ⟨ad, cap, rfl, _⟩
    · exact ⟨none, 0, rfl⟩
    · exact ⟨_, cap, rfl⟩
  obtain ⟨a, cap, rfl⟩ := hv
  have cH := hide (ckHas_any (Ck.num has 16) i w (by omega))
  rw [Ck.bit_num_at has (by omega), decide_eq_true (show i < 16 by omega), Bool.true_and] at cH
  have hor := Ck.num_more has (k := 16) (i := i) (by omega) (by omega)
  have hsh := Ck.shift_one (k := i) (by omega)
  have hS2 : Hid (Ck.Src ((w.setCell ⟨p, 0, none⟩ (.int .i64 (total : Int))).setCell ⟨p, 1, none⟩ (.int .u32 (Ck.num (Ck.put has i) 16))) (.slice a l.length cap) l) := hs.turn (((Turn.refl (fun k => k = p) w).store p 0 _ rfl).store p 1 _ rfl) hsp
  have hput := hide (fun y v' h3 h4 h5 => H.put (y := y) (v := v') (l := l) (i := i) (t := total) ht hi h16 h3 h4 h5 hl)
  have hbox := hide (H.box.store 0 (.int .i64 (total : Int)) |>.store 1 (.int .u32 (Ck.num (Ck.put has i) 16)))
  have H0 := hide H
  have HH := hide (And.intro h16 (And.intro hi (And.intro ht hl)))
  obtain ⟨n, hn⟩ : ∃ n, l.length = n := ⟨_, rfl⟩
  have Hn := hide hn
  obtain ⟨z, hz⟩ : ∃ z, Ck.num has 16 = z := ⟨_, rfl⟩
  obtain ⟨z', hz'⟩ : ∃ z', Ck.num (Ck.put has i) 16 = z' := ⟨_, rfl⟩
  rw [hz] at c1 hlone cH hor
  rw [hz'] at hor hS2 hbox hput
  have hc : ((z != 0) = false) ∨ ((z != 0) = true ∧ ((tot : Int) != (total : Int)) = false) := by
    rcases ht with e | e
    · exact .inl (by rw [hlone, e]; rfl)
    · exact .inr ⟨by rw [hlone, decide_eq_true]; omega, by simp [e]⟩
  have hq : ((n : Int) < 64 ∧ ((i : Int) != (total : Int) - 1) = false) ∨ ¬ (n : Int) < 64 := by
    by_cases e : (n : Int) < 64
    · exact .inl ⟨e, by simp; omega⟩
    · exact .inr e
  have h64 : ¬ (64 : Int) < (n : Int) := by omega
  have hn64 : (n : Int) ≤ 64 := by omega
  rw [hn] at hS2 ⊢
  clear H hs h1 h16 hi ht hl hl2 hsp hn hz hz' hlone
  have hlt0 := hide (unhide H0).box.lt
  have hend : Hid (∀ b, has i = b → (b = true → Ck.Lays w base p total has L V i l (.returned (.int .i64 0)) w)) := fun b hb q => by
    subst q
    have hH := unhide H0
    have e : tot = total := by
      rcases (unhide HH).2.2.1 with e | e
      · rw [hH.nil e i (by have := unhide HH; omega)] at hb; cases hb
      · exact e
    refine ⟨rfl, ⟨V, ?_, fun _ _ e => .inl e⟩, Turn.refl _ _⟩
    rw [Ck.put_same hb, Ck.lay_same hb, ← e]
    exact hH
  obtain ⟨w2, hw2⟩ : ∃ w2, (w.setCell ⟨p, 0, none⟩ (.int .i64 (total : Int))).setCell ⟨p, 1, none⟩ (.int .u32 z') = w2 := ⟨_, rfl⟩
  have ht2 : Hid (Turn (fun k => k = p) w w2) := by rw [← hw2]; exact ((Turn.refl (fun k => k = p) w).store p 0 _ rfl).store p 1 _ rfl
  have hsz2 : Hid (w2.heap.size = w.heap.size) := by rw [← hw2]; show _ = _; simp
  rw [hw2] at hS2 hbox hput
  have cT : Hid (∀ x, w2.grownBy x none → Calls Try.prog 29 #[.slice a n cap] x fun e y => ∃ g cp, e = .returned (.slice (some ⟨g, 0, none⟩) l.length cp) ∧ y.ownsRow w2.heap.size 5 1 (.slice (some ⟨g, 0, none⟩) l.length cp) l.length (Ck.bys l) ∧ w2.grownBy y none) := fun x hx => by
    refine (ckTwin_any (.slice a n cap) l x ((unhide hS2).on fun ad u q => (World.cell?_of_block (hx.block _ (Go.block_lt_of_cell q) (by simp))).trans q) (by have := unhide HH; omega)).mono ?_
    rintro e y ⟨g, cp, rfl, h1, h2⟩
    exact ⟨g, cp, rfl, owns_base h1 hx.size, grown_trans hx h2⟩
  have hfinal : Hid (has i = false → ∀ y g cp, y.ownsRow w2.heap.size 5 1 (.slice (some ⟨g, 0, none⟩) l.length cp) l.length (Ck.bys l) → w2.grownBy y none → (y.cell? ⟨p, 2 + i, none⟩ = some (V i) ∧ ∀ k, y.frozen? ⟨p, k, none⟩ = false) ∧ Ck.Lays w base p total has L V i l (.returned (.int .i64 0)) (y.setCell ⟨p, 2 + i, none⟩ (.slice (some ⟨g, 0, none⟩) l.length cp))) := fun hb y g cp h1 h2 => by
    have hby := (unhide hbox).turn (B := fun _ => False) (Turn.new h2) (fun q => q)
    have hb2 : base ≤ w2.heap.size := by have := unhide hsz2; have := unhide hlt0; have := (unhide H0).low; omega
    have hi16 : i < 16 := by have := unhide HH; omega
    refine ⟨⟨?_, fun k => hby.free k⟩, rfl, ⟨_, unhide hput y _ hb h2 (owns_base h1 hb2) (by simp), fun j k e => ?_⟩, ((unhide ht2).then h2).store p (2 + i) _ rfl⟩
    rotate_left
    · by_cases ej : j = i
      · rw [if_pos ej] at e
        exact .inr (Nat.le_trans (unhide ht2).size (h1.lt k e).1)
      · rw [if_neg ej] at e
        exact .inl e
    have := hby.cell (i := 2 + i) (by omega)
    rw [if_neg (by omega), if_neg (by omega), if_neg (by omega), if_neg (by omega), show 2 + i - 2 = i by omega] at this
    exact this
  rw [unhide Hn] at cT hfinal
  clear hput hbox hS2 HH H0
  obtain ⟨b, hb⟩ : ∃ b, has i = b := ⟨_, rfl⟩
  rw [hb] at cH hfinal
  rcases hc with e1 | ⟨e1, e2⟩ <;> rcases hq with ⟨e3, e4⟩ | e3
  all_goals
    go_enter Try.func23, Try.ntmps23
    go_wp2_with fail
    refine (unhide c3).mono ?_
    rintro e wq ⟨rfl, hq'⟩
    obtain rfl : w = wq := hq'.symm
    go_wp2_with fail
    refine (unhide cH).mono ?_
    rintro e wq ⟨rfl, hq'⟩
    obtain rfl : w = wq := hq'.symm
    cases b with
    | true =>
      have hfin := hide (unhide hend true hb rfl)
      go_wp2
      go_ret
      exact unhide hfin
    | false =>
      have hend2 := hide (unhide hfinal rfl)
      clear hfinal hend hb cH
      go_upto_region 10 with fail
      go_region
      all_goals
        go_upto_region 11 with fail
        clear hw2 c0 c1 f0
        refine wp_region_till (h := 7) (S := fun _ => True) (by kernel_rfl) ?_
        refine wpTill_take (i := 0) (v := ?_) [7] rfl (by kernel_rfl) (by kernel_rfl) (by kernel_rfl) (by kernel_rfl) (fun _ _ _ h => h) trivial (Or.inl ⟨by rfl, ?_⟩) ?_
        rotate_left
        · intro x hSx
          clear hSx
          go_simp
          try with_reducible rfl
        simp only [Act.put, List.getElem_toArray, List.getElem_cons_zero, List.setIfInBounds_toArray, List.set_cons_succ, List.set_cons_zero]
        refine wpTill_take (i := 1) (v := ?_) [7] rfl (by kernel_rfl) (by kernel_rfl) (by kernel_rfl) (by kernel_rfl) (fun _ _ _ h => h) trivial (Or.inl ⟨by rfl, ?_⟩) ?_
        rotate_left
        · intro x hSx
          clear hSx
          go_simp
          try with_reducible rfl
        simp only [Act.put, List.getElem_toArray, List.getElem_cons_zero, List.getElem_cons_succ, List.setIfInBounds_toArray, List.set_cons_succ, List.set_cons_zero]
        refine wpTill_take (i := 2) (v := ?_) [7] rfl (by kernel_rfl) (by kernel_rfl) (by kernel_rfl) (by kernel_rfl) (fun _ _ _ h => h) trivial (Or.inl ⟨by rfl, ?_⟩) ?_
        rotate_left
        · intro x hSx
          clear hSx
          go_simp
          try with_reducible rfl
        simp only [Act.put, List.getElem_toArray, List.getElem_cons_zero, List.getElem_cons_succ, List.setIfInBounds_toArray, List.set_cons_succ, List.set_cons_zero]
        refine wpTill_take (i := 4) (v := ?_) [5, 6, 7] rfl (by kernel_rfl) (by kernel_rfl) (by kernel_rfl) (by kernel_rfl) (fun _ _ _ h => h) trivial (Or.inl ⟨by rfl, ?_⟩) ?_
        rotate_left
        · intro x hSx
          clear hSx
          go_simp
          try with_reducible rfl
        simp only [Act.put, List.getElem_toArray, List.getElem_cons_zero, List.getElem_cons_succ, List.setIfInBounds_toArray, List.set_cons_succ, List.set_cons_zero]
        refine wpTill_take (i := 5) (v := ?_) [6, 7] rfl (by kernel_rfl) (by kernel_rfl) (by kernel_rfl) (by kernel_rfl) (fun _ _ _ h => h) trivial (Or.inl ⟨by rfl, ?_⟩) ?_
        rotate_left
        · intro x hSx
          clear hSx
          go_simp
          try with_reducible rfl
        simp only [Act.put, List.getElem_toArray, List.getElem_cons_zero, List.getElem_cons_succ, List.setIfInBounds_toArray, List.set_cons_succ, List.set_cons_zero]
        refine wpTill_only (j := 3) (by kernel_rfl) rfl (fun K hK => ?_)
        go_simp
        refine (unhide cT _ (by first | exact grown_drew (World.grownBy.refl _ none) 1 | exact grown_drew (World.grownBy.refl _ none) 2 | exact World.grownBy.refl _ _)).mono ?_
        rintro e y ⟨g, cp, rfl, hown, hgr⟩
        obtain ⟨⟨cs, fs⟩, hfin⟩ := hide (unhide hend2 y g cp hown hgr)
        have hfin2 := hide hfin
        clear hfin hend2 hown hgr cT
        try go_simp
        refine hK.out _ _ (fun _ => trivial) ?_
        clear hK K
        refine wpTill_take (i := 6) (v := ?_) [7] rfl (by kernel_rfl) (by kernel_rfl) (by kernel_rfl) (by kernel_rfl) (fun _ _ _ h => h) trivial (Or.inl ⟨by rfl, ?_⟩) ?_
        rotate_left
        · intro x hSx
          clear hSx
          go_simp
          try with_reducible rfl
        simp only [Act.put, List.getElem_toArray, List.getElem_cons_zero, List.getElem_cons_succ, List.setIfInBounds_toArray, List.set_cons_succ, List.set_cons_zero]
        refine wpTill_only (j := 7) (by kernel_rfl) rfl (fun K hK => ?_)
        go_simp
        refine hK.out _ _ (fun hx => absurd (hx.symm.trans (by kernel_rfl)) Bool.false_ne_true) ?_
        clear hK K
        refine wpTill_done (by kernel_rfl) ?_ _
        go_wp2
        go_ret
        exact unhide hfin2

end Go.Proofs.Ytnolelhjhhiohaa
