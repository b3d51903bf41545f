/-
  The document's taker: Put.
-/
import Derived.Test.YtnolelhjhhiohaaChunkTake
import Derived.Laws.OwnMore
namespace Go.Proofs.Ytnolelhjhhiohaa
open Go.RowKit

theorem owns_base {x : World} {base base' : Nat} {T : TypeId} {z : Nat} {v : Value} {n : Nat} {xs : List Value} (h : x.ownsRow base T z v n xs) (hb : base' ≤ base) : x.ownsRow base' T z v n xs := by
  obtain ⟨h1, h2⟩ := h
  refine ⟨h1, ?_⟩
  rcases h2 with h2 | ⟨g, cap, cur, rfl, hg, hc⟩
  · exact .inl h2
  · exact .inr ⟨g, cap, cur, rfl, Nat.le_trans hb hg, hc⟩

/-- Bytes that are handed in: none, or a row of them. -/
def Ck.Src (x : World) (v : Value) (l : List Int) : Prop :=
  (v = .slice none 0 0 ∧ l = []) ∨ ∃ ad cap, v = .slice (some ad) l.length cap ∧ ∀ j u, (Ck.bys l)[j]? = some u → x.cell? (ad.add j) = some u

theorem Ck.Src.on {x y : World} {v : Value} {l : List Int} (h : Ck.Src x v l) (hc : ∀ a u, x.cell? a = some u → y.cell? a = some u) : Ck.Src y v l := by
  rcases h with h | ⟨ad, cap, h1, h2⟩
  · exact .inl h
  · exact .inr ⟨ad, cap, h1, fun j u q => hc _ _ (h2 j u q)⟩

/-- What Put answers. -/
def Ck.putR (tot : Nat) (i total : Int) (len : Nat) : Int :=
  if total < 1 ∨ 16 < total ∨ i < 0 ∨ total ≤ i then 1
  else if ((tot : Int) ≠ 0 ∧ (tot : Int) ≠ total) ∨ 64 < len ∨ (len < 64 ∧ i ≠ total - 1) then 9 else 0

def Ck.put (has : Nat → Bool) (k : Nat) : Nat → Bool := fun j => if j = k then true else has j
def Ck.lay (has : Nat → Bool) (L : Nat → List Int) (k : Nat) (l : List Int) : Nat → List Int := fun j => if j = k ∧ has k = false then l else L j

theorem Ck.put_same {has : Nat → Bool} {k : Nat} (h : has k = true) : Ck.put has k = has := funext fun j => by
  unfold Ck.put
  by_cases e : j = k
  · rw [if_pos e, e, h]
  · rw [if_neg e]

theorem Ck.lay_same {has : Nat → Bool} {L : Nat → List Int} {k : Nat} {l : List Int} (h : has k = true) : Ck.lay has L k l = L := funext fun j => by
  unfold Ck.lay
  rw [if_neg (fun q => by rw [h] at q; exact absurd q.2 (by simp))]

theorem Ck.Tkr.total {x : World} {base p tot : Nat} {has : Nat → Bool} {L : Nat → List Int} {V : Nat → Value} (H : Ck.Tkr x base p tot has L V) {t : Nat} (ht : t ≤ 16) : Ck.Tkr (x.setCell ⟨p, 0, none⟩ (.int .i64 (t : Int))) base p t has L V :=
  { H with
    box := (H.box.store 0 (.int .i64 (t : Int))).congr (fun j hj => by
      by_cases e : j = 0
      · rw [if_pos e, if_pos e]
      · rw [if_neg e, if_neg e, if_neg e])
    most := ht
    piece := fun i hi q => ⟨owns_turned (B := fun k => k = p) (H.piece i hi q).1 ((Turn.refl _ x).store p 0 _ rfl) (fun k e r => (H.piece i hi q).2.1 (by rw [e, r])), (H.piece i hi q).2⟩ }

theorem Ck.Tkr.put {x y : World} {base p tot : Nat} {has : Nat → Bool} {L : Nat → List Int} {V : Nat → Value} (H : Ck.Tkr x base p tot has L V) {i : Nat} (hi : i < 16) (hh : has i = false) (hg : (x.setCell ⟨p, 1 + i, none⟩ (.bool true)).grownBy y none) {v : Value} {l : List Int} (hown : y.ownsRow base 5 1 v l.length (Ck.bys l)) (hb : v.ownBlock ≠ some p) (hl : l.length ≤ 64) (hv : v ≠ .slice none 0 0) :
    Ck.Tkr (y.setCell ⟨p, 17 + i, none⟩ v) base p tot (Ck.put has i) (Ck.lay has L i l) (fun j => if j = i then v else V j) := by
  have t1 : Turn (fun k => k = p) x (y.setCell ⟨p, 17 + i, none⟩ v) := (((Turn.refl (fun k => k = p) x).store p (1 + i) (.bool true) rfl).then hg).store p (17 + i) v rfl
  have t2 : Turn (fun k => k = p) y (y.setCell ⟨p, 17 + i, none⟩ v) := (Turn.refl (fun k => k = p) y).store p (17 + i) v rfl
  refine ⟨?_, H.low, H.most, fun j hj q => ?_, fun j hj q => ?_⟩
  · have hbx : Arr y p 52 33 _ := (H.box.store (1 + i) (.bool true)).turn (B := fun _ => False) (Turn.new hg) (fun q => q)
    refine (hbx.store (17 + i) v).congr (fun j hj => ?_)
    unfold Ck.put
    by_cases e1 : j = 17 + i
    · rw [if_pos e1, if_neg (by omega), if_neg (by omega), if_pos (by omega)]
    · rw [if_neg e1]
      by_cases e2 : j = 1 + i
      · rw [if_pos e2, if_neg (by omega), if_pos (by omega), if_pos (by omega)]
      · rw [if_neg e2]
        by_cases e3 : j = 0
        · rw [if_pos e3, if_pos e3]
        · rw [if_neg e3, if_neg e3]
          by_cases e4 : j < 17
          · rw [if_pos e4, if_pos e4, if_neg (by omega)]
          · rw [if_neg e4, if_neg e4, if_neg (by omega)]
  · unfold Ck.lay
    by_cases e : j = i
    · rw [if_pos e, if_pos ⟨e, hh⟩]
      exact ⟨owns_turned hown t2 (fun k e r => hb (by rw [e, r])), hb, hl, hv⟩
    · rw [if_neg e, if_neg (fun r => e r.1)]
      unfold Ck.put at q
      rw [if_neg e] at q
      obtain ⟨p1, p2, p3, p4⟩ := H.piece j hj q
      exact ⟨owns_turned p1 t1 (fun k e r => p2 (by rw [e, r])), p2, p3, p4⟩
  · unfold Ck.put at q
    by_cases e : j = i
    · rw [if_pos e] at q
      cases q
    · rw [if_neg e] at q ⊢
      exact H.none_ j hj q

/-- Numbers that may not be. -/
theorem refPut_arg (p : Nat) (i total : Int) (v : Value) (w : World) (h : total < 1 ∨ 16 < total ∨ i < 0 ∨ total ≤ i) :
    Calls Try.prog 24 #[.pointer (some ⟨p, 0, none⟩), .int .i64 i, .int .i64 total, v] w fun e w' => e = .returned (.int .i64 1) ∧ w' = w := by
  by_cases h1 : total < 1
  · go_enter Try.func24, Try.ntmps24
    go_wp2
    go_ret
    exact ⟨rfl, rfl⟩
  by_cases h2 : 16 < total
  · go_enter Try.func24, Try.ntmps24
    go_wp2
    go_ret
    exact ⟨rfl, rfl⟩
  by_cases h3 : i < 0
  · go_enter Try.func24, Try.ntmps24
    go_wp2
    go_ret
    exact ⟨rfl, rfl⟩
  have h4 : total ≤ i := by omega
  clear h
  go_enter Try.func24, Try.ntmps24
  go_wp2
  go_ret
  exact ⟨rfl, rfl⟩

/-- Pieces that may not be. -/
theorem refPut_bad (base p tot : Nat) (has : Nat → Bool) (L : Nat → List Int) (V : Nat → Value) (i total : Int) (a : Option Addr) (len cap : Nat) (w : World) (H : Ck.Tkr w base p tot has L V) (h0 : ¬ (total < 1 ∨ 16 < total ∨ i < 0 ∨ total ≤ i)) (h : ((tot : Int) ≠ 0 ∧ (tot : Int) ≠ total) ∨ 64 < len ∨ (len < 64 ∧ i ≠ total - 1)) (hm : len ≤ maxLen) :
    Calls Try.prog 24 #[.pointer (some ⟨p, 0, none⟩), .int .i64 i, .int .i64 total, .slice a len cap] w fun e w' => e = .returned (.int .i64 9) ∧ w' = w := by
  have c0 := H.cell0
  have g1 : ¬ total < 1 := fun q => h0 (.inl q)
  have g2 : ¬ 16 < total := fun q => h0 (.inr (.inl q))
  have g3 : ¬ i < 0 := fun q => h0 (.inr (.inr (.inl q)))
  have g4 : ¬ total ≤ i := fun q => h0 (.inr (.inr (.inr q)))
  unfold maxLen at hm
  clear H h0
  by_cases h1 : (tot : Int) ≠ 0 ∧ (tot : Int) ≠ total
  · have e1 : ((tot : Int) != 0) = true := by simp; omega
    have e2 : ((tot : Int) != total) = true := by simp [h1.2]
    clear h1 h
    go_enter Try.func24, Try.ntmps24
    go_wp2
    go_ret
    exact ⟨rfl, rfl⟩
  · have h2 : 64 < len ∨ (len < 64 ∧ i ≠ total - 1) := h.resolve_left h1
    have hc : (((tot : Int) != 0) = false) ∨ (((tot : Int) != 0) = true ∧ ((tot : Int) != total) = false) := by
      by_cases e : (tot : Int) = 0
      · exact .inl (by simp [e])
      · exact .inr ⟨by simp; omega, by
          have : (tot : Int) = total := Classical.byContradiction fun q => h1 ⟨e, q⟩
          simp [this]⟩
    clear h h1
    rcases hc with e1 | ⟨e1, e2⟩
    all_goals
      by_cases h3 : 64 < len
      · have h3' : (64 : Int) < (len : Int) := by omega
        clear h3 h2
        go_enter Try.func24, Try.ntmps24
        go_wp2
        go_ret
        exact ⟨rfl, rfl⟩
      · have h4 := h2.resolve_left h3
        have h3' : ¬ (64 : Int) < (len : Int) := by omega
        have h4' : (len : Int) < 64 := by omega
        have h5 : (i != total - 1) = true := by simp [h4.2]
        clear h3 h2 h4
        go_enter Try.func24, Try.ntmps24
        go_wp2
        go_ret
        exact ⟨rfl, rfl⟩

theorem Ck.append_none {P : Program} {w : World} {o : Oper} {a : Act} {K : Act → World → Prop} {Q : Exit → Act → World → Prop} (s x : Operand) (t : TypeId) (ho : o.op = .call { callee := .builtin .append, args := #[s, x], argTypes := #[t, t] })
    (base : Nat) (e : TypeId) (i : TypeInfo) (size : Nat) (ht : P.underlying t = some (.slice e)) (hi : P.info? e = some i) (v : Value) (n : Nat) (xs : List Value) (hs : a.eval s = v) (hown : w.ownsRow base e size v n xs) (hx : a.eval x = .slice none 0 0) (h : K (a.put o.dst v) w) : o.wp P a w K Q := by
  have hrun := run_append_owned_none (P := P) (w := w) base t o.type e i size ht hi v n xs hown
  unfold Oper.wp
  simp [execOp, ho, resolve, invoke, builtin, hs, hx, hrun, Result.andThen]
  exact h

theorem Ck.wanted {c a b : Prop} [Decidable c] (hc : c) (h : a) : if c then a else b := by
  rw [if_pos hc]
  exact h

/-- A piece that may be. -/
def Ck.Puts (w : World) (base p tot : Nat) (has : Nat → Bool) (L : Nat → List Int) (V : Nat → Value) (i : Nat) (l : List Int) (e : Ending) (w' : World) : Prop :=
  e = .returned (.int .i64 0) ∧ (∃ V', Ck.Tkr w' base p tot (Ck.put has i) (Ck.lay has L i l) V' ∧ ∀ j k, (V' j).ownBlock = some k → (V j).ownBlock = some k ∨ w.heap.size ≤ k) ∧ Turn (fun k => k = p) w w'

set_option maxRecDepth 4000 in
set_option maxHeartbeats 3200000 in
theorem refPut_ok (base p tot : Nat) (has : Nat → Bool) (L : Nat → List Int) (V : Nat → Value) (i total : Nat) (v : Value) (l : List Int) (w : World) (H : Ck.Tkr w base p tot has L V) (hs : Ck.Src w v l) (h1 : 1 ≤ total) (h16 : total ≤ 16) (hi : i < total) (ht : tot = 0 ∨ tot = total) (hl : l.length ≤ 64) (hl2 : l.length = 64 ∨ i + 1 = total) (hsp : ∀ ad cap, v = .slice (some ad) l.length cap → 0 < l.length → ad.block ≠ p) :
    Calls Try.prog 24 #[.pointer (some ⟨p, 0, none⟩), .int .i64 (i : Int), .int .i64 (total : Int), v] w (Ck.Puts w base p total has L V i l) := by
  have c0 := H.cell0
  have f0 := H.box.free
  have g1 : ¬ (total : Int) < 1 := by omega
  have g2 : ¬ (16 : Int) < (total : Int) := by omega
  have g3 : ¬ (i : Int) < 0 := by omega
  have g4 : ¬ (total : Int) ≤ (i : Int) := by omega
  have g5 : (i : Int) < 16 := by omega
  have hv : ∃ a cap, v = .slice a l.length cap := by
    rcases hs with ⟨rfl, rfl⟩ | ⟨ad, cap, rfl, _⟩
    · exact ⟨none, 0, rfl⟩
    · exact ⟨_, cap, rfl⟩
  obtain ⟨a, cap, rfl⟩ := hv
  have H1 := hide (H.total (t := total) h16)
  have HS := hide hs
  have HSP := hide hsp
  have HH := hide (And.intro h16 (And.intro hi hl))
  obtain ⟨n, hn⟩ : ∃ n, l.length = n := ⟨_, rfl⟩
  have Hn := hide hn
  have hc : (((tot : Int) != 0) = false) ∨ (((tot : Int) != 0) = true ∧ ((tot : Int) != (total : Int)) = false) := by
    rcases ht with e | e
    · exact .inl (by simp [e])
    · exact .inr ⟨by simp; omega, by simp [e]⟩
  have hq : ((n : Int) < 64 ∧ ((i : Int) != (total : Int) - 1) = false) ∨ ¬ (n : Int) < 64 := by
    by_cases e : (n : Int) < 64
    · exact .inl ⟨e, by simp; omega⟩
    · exact .inr e
  have h64 : ¬ (64 : Int) < (n : Int) := by omega
  have hn64 : (n : Int) ≤ 64 := by omega
  rw [hn]
  clear H hs h1 h16 hi ht hl hl2 hsp hn
  go_enter Try.func24, Try.ntmps24
  go_upto_region 3 with fail
  go_cut [52] from 9 to 51 (fun v52 wx => v52 = .bool false ∧ wx = w)
  case first =>
    rcases hc with e1 | ⟨e1, e2⟩ <;> rcases hq with ⟨e3, e4⟩ | e3
    all_goals
      go_wp2_with fail
      go_meet
      exact ⟨rfl, rfl⟩
  case rest =>
  obtain ⟨rfl, hcw⟩ := hcut
  obtain rfl : w = wc := hcw.symm
  clear hc hq h64 g1 g2 g4
  go_upto_region 6 with fail
  obtain ⟨w1, hw1⟩ : ∃ w1, w.setCell ⟨p, 0, none⟩ (.int .i64 (total : Int)) = w1 := ⟨_, rfl⟩
  have ht1 : Hid (Turn (fun k => k = p) w w1) := by rw [← hw1]; exact (Turn.refl (fun k => k = p) w).store p 0 _ rfl
  have hS1 : Hid (Ck.Src w1 (.slice a n cap) l) := by
    rw [← unhide Hn]
    rcases unhide HS with h | ⟨ad, c, e, h2⟩
    · exact .inl h
    · refine .inr ⟨ad, c, e, fun j u q => ?_⟩
      have hjl : j < l.length := by
        have := (List.getElem?_eq_some_iff.1 q).1
        unfold Ck.bys at this
        simpa using this
      rw [← hw1]
      have hne := unhide HSP ad c e (by omega)
      have h3 := h2 j u q
      rw [← h3]
      exact World.cell?_of_block (heap_setCell_other w ⟨p, 0, none⟩ _ _ (by rw [show (ad.add j).block = ad.block by unfold Addr.add; split <;> rfl]; exact hne))
  rw [hw1] at H1 ⊢
  clear hw1 c0 f0 HS
  have f0 := (unhide H1).box.free
  have hck := (unhide H1).mark (i := i) (by have := unhide HH; omega)
  have hsl := (unhide H1).slot (i := i) (by have := unhide HH; omega)
  obtain ⟨b, hb⟩ : ∃ b, has i = b := ⟨_, rfl⟩
  rw [hb] at hck
  have HB := hide hb
  clear hb
  cases b with
  | true =>
    have hfin : Hid (Ck.Puts w base p total has L V i l (.returned (.int .i64 0)) w1) := by
      refine ⟨rfl, ⟨V, ?_, fun _ _ e => .inl e⟩, unhide ht1⟩
      rw [Ck.put_same (unhide HB), Ck.lay_same (unhide HB)]
      exact unhide H1
    go_wp2
    go_ret
    exact unhide hfin
  | false =>
    go_upto_region 8 with fail
    have hS2 : Hid (∀ y, (w1.setCell ⟨p, 1 + i, none⟩ (.bool true)).grownBy y none → Ck.Src y (.slice a n cap) l) := fun y hy => by
      rcases unhide hS1 with h | ⟨ad, c, e, h2⟩
      · exact .inl h
      · refine .inr ⟨ad, c, e, fun j u q => ?_⟩
        have hjl : j < l.length := by
          have := (List.getElem?_eq_some_iff.1 q).1
          unfold Ck.bys at this
          simpa using this
        have hne : (ad.add j).block ≠ p := by
          rw [show (ad.add j).block = ad.block by unfold Addr.add; split <;> rfl]
          rw [← unhide Hn] at e
          exact unhide HSP ad c e (by omega)
        have h3 : (w1.setCell ⟨p, 1 + i, none⟩ (.bool true)).cell? (ad.add j) = some u := (World.cell?_of_block (heap_setCell_other w1 ⟨p, 1 + i, none⟩ _ _ hne)).trans (h2 j u q)
        exact (World.cell?_of_block (hy.block _ (Go.block_lt_of_cell h3) (by simp))).trans h3
    have hput := hide (fun y v' h1 h2 h3 h4 => (unhide H1).put (y := y) (v := v') (l := l) (i := i) (by have := unhide HH; omega) (unhide HB) h1 h2 h3 (unhide HH).2.2 h4)
    have hbase : Hid (base ≤ p ∧ p < w1.heap.size) := ⟨(unhide H1).low, (unhide H1).box.lt⟩
    have hfc : Hid (∀ y, (w1.setCell ⟨p, 1 + i, none⟩ (.bool true)).grownBy y none → (y.cell? ⟨p, 17 + i, none⟩ = some (V i) ∧ ∀ k, y.frozen? ⟨p, k, none⟩ = false) ∧ ∃ F, Arr y p 52 33 F) := fun y hy => by
      have hb := (((unhide H1).box.store (1 + i) (.bool true)).turn (B := fun _ => False) (Turn.new hy) (fun q => q))
      refine ⟨⟨?_, fun k => hb.free k⟩, _, hb⟩
      have := hb.cell (i := 17 + i) (by have := unhide HH; omega)
      rw [if_neg (by omega), if_neg (by omega), if_neg (by omega), show 17 + i - 17 = i by omega] at this
      exact this
    obtain ⟨i0, hi, hz0, hz1, hz2⟩ := info_parts info_by
    obtain ⟨w2, hw2⟩ : ∃ w2, w1.setCell ⟨p, 1 + i, none⟩ (.bool true) = w2 := ⟨_, rfl⟩
    have ht2 : Hid (Turn (fun k => k = p) w w2) := by rw [← hw2]; exact (unhide ht1).store p (1 + i) _ rfl
    have hsz : Hid (w2.heap.size = w1.heap.size) := by rw [← hw2]; show _ = _; simp
    rw [hw2] at hS2 hput hfc ⊢
    clear hw2 H1 hS1 HSP hck hsl f0 ht1
    obtain ⟨z, hz⟩ : ∃ z, (w2.alloc (.cells #[] 5)).drew = z := ⟨_, rfl⟩
    have hgz : Hid (w2.grownBy z none) := by rw [← hz]; exact grown_drew (World.grownBy_alloc w2 (.cells #[] 5) none) 1
    have hoz : Hid (z.ownsRow w2.heap.size 5 1 (.slice (some ⟨w2.heap.size, 0, none⟩) 0 0) 0 []) := by
      rw [← hz]
      exact World.ownsRow_lit (base := w2.heap.size) (e := 5) (size := 1) w2 #[] 0 (Nat.le_refl _) (by unfold maxLen; omega) rfl
    have hbz : Hid (w2.heap.size ≤ z.heap.size) := (unhide hgz).size
    refine wp_region_till (h := 8) (S := fun _ => True) (by kernel_rfl) ?_
    refine wpTill_take (i := 0) (v := ?_) [8] rfl (by kernel_rfl) (by kernel_rfl) (by kernel_rfl) (by kernel_rfl) (fun _ _ _ h => h) trivial (Or.inl ⟨by rfl, ?_⟩) ?_
    rotate_left
    · intro x hSx
      clear hSx
      go_simp
      try with_reducible rfl
    simp only [Act.put, List.getElem_toArray, List.getElem_cons_zero, List.setIfInBounds_toArray, List.set_cons_succ, List.set_cons_zero]
    refine wpTill_take (i := 1) (v := ?_) [8] rfl (by kernel_rfl) (by kernel_rfl) (by kernel_rfl) (by kernel_rfl) (fun _ _ _ h => h) trivial (Or.inl ⟨by rfl, ?_⟩) ?_
    rotate_left
    · intro x hSx
      clear hSx
      go_simp
      try with_reducible rfl
    simp only [Act.put, List.getElem_toArray, List.getElem_cons_zero, List.getElem_cons_succ, List.setIfInBounds_toArray, List.set_cons_succ, List.set_cons_zero]
    refine wpTill_take (i := 3) (v := ?_) [8] rfl (by kernel_rfl) (by kernel_rfl) (by kernel_rfl) (by kernel_rfl) (fun _ _ _ h => h) trivial (Or.inl ⟨by rfl, ?_⟩) ?_
    rotate_left
    · intro x hSx
      clear hSx
      go_simp
      try with_reducible rfl
    simp only [Act.put, List.getElem_toArray, List.getElem_cons_zero, List.getElem_cons_succ, List.setIfInBounds_toArray, List.set_cons_succ, List.set_cons_zero]
    refine wpTill_take (i := 5) (v := ?_) [6, 7, 8] rfl (by kernel_rfl) (by kernel_rfl) (by kernel_rfl) (by kernel_rfl) (fun _ _ _ h => h) trivial (Or.inl ⟨by rfl, ?_⟩) ?_
    rotate_left
    · intro x hSx
      clear hSx
      go_simp
      try with_reducible rfl
    simp only [Act.put, List.getElem_toArray, List.getElem_cons_zero, List.getElem_cons_succ, List.setIfInBounds_toArray, List.set_cons_succ, List.set_cons_zero]
    refine wpTill_take (i := 6) (v := ?_) [7, 8] rfl (by kernel_rfl) (by kernel_rfl) (by kernel_rfl) (by kernel_rfl) (fun _ _ _ h => h) trivial (Or.inl ⟨by rfl, ?_⟩) ?_
    rotate_left
    · intro x hSx
      clear hSx
      go_simp
      try with_reducible rfl
    simp only [Act.put, List.getElem_toArray, List.getElem_cons_zero, List.getElem_cons_succ, List.setIfInBounds_toArray, List.set_cons_succ, List.set_cons_zero]
    refine wpTill_only (j := 2) (by kernel_rfl) rfl (fun K hK => ?_)
    go_simp
    refine hK.out _ _ (fun _ => trivial) ?_
    clear hK K
    try rw [hz]
    have hend : Hid (∀ y v', z.grownBy y (Value.slice (some ⟨w2.heap.size, 0, none⟩) 0 0).ownBlock → y.ownsRow w2.heap.size 5 1 v' l.length (Ck.bys l) → v' ≠ .slice none 0 0 → (y.cell? ⟨p, 17 + i, none⟩ = some (V i) ∧ ∀ k, y.frozen? ⟨p, k, none⟩ = false) ∧ Ck.Puts w base p total has L V i l (.returned (.int .i64 0)) (y.setCell ⟨p, 17 + i, none⟩ v')) := fun y v' h1 h2 h3 => by
      have hg : w2.grownBy y none := grown_own (unhide hgz) h1 (fun k e => by cases e; exact Nat.le_refl _)
      have hb : v'.ownBlock ≠ some p := fun e => by
        obtain ⟨F, cur, hc, _⟩ := (unhide hfc y hg).2
        rcases h2.2 with ⟨q, _⟩ | ⟨g, cap', cur', rfl, _, hc', _⟩
        · exact h3 q
        · simp [Value.ownBlock] at e
          subst e
          rw [hc] at hc'
          simp only [Option.some.injEq, Obj.cells.injEq] at hc'
          exact absurd hc'.2.1 (by decide)
      refine ⟨(unhide hfc y hg).1, rfl, ⟨_, unhide hput y v' hg (owns_base h2 (by have := unhide hbase; have := unhide hsz; omega)) hb h3, fun j k e => ?_⟩, ((unhide ht2).then hg).store p (17 + i) v' rfl⟩
      by_cases ej : j = i
      · rw [if_pos ej] at e
        exact .inr (Nat.le_trans (unhide ht2).size (h2.lt k e).1)
      · rw [if_neg ej] at e
        exact .inl e
    have hsy : Hid (Ck.Src z (.slice a n cap) l) := unhide hS2 z (unhide hgz)
    clear hS2 hput hfc hz
    refine wpTill_only (j := 4) (by kernel_rfl) rfl (fun K hK => ?_)
    refine Ck.wanted (by rfl) ?_
    rcases unhide hsy with ⟨e, rfl⟩ | ⟨ad, c, e, hcel⟩
    · simp only [Value.slice.injEq] at e
      obtain ⟨rfl, rfl, rfl⟩ := e
      have hoz2 := unhide hoz
      refine Ck.append_none _ _ 22 rfl w2.heap.size 5 i0 1 Try.underlying22 hi (.slice (some ⟨w2.heap.size, 0, none⟩) 0 0) 0 [] rfl hoz2 rfl ?_
      clear hoz2
      obtain ⟨⟨cs, fs⟩, hfin⟩ := hide (unhide hend z (.slice (some ⟨w2.heap.size, 0, none⟩) 0 0) (World.grownBy.refl _ _) (unhide hoz) (by simp))
      have hfin' := hide hfin
      clear hfin hend
      refine hK.out _ _ (fun _ => trivial) ?_
      clear hK K
      refine wpTill_take (i := 7) (v := ?_) [8] rfl (by kernel_rfl) (by kernel_rfl) (by kernel_rfl) (by kernel_rfl) (fun _ _ _ h => h) trivial (Or.inl ⟨by rfl, ?_⟩) ?_
      rotate_left
      · intro x hSx
        clear hSx
        go_simp
        try with_reducible rfl
      simp only [Act.put, List.getElem_toArray, List.getElem_cons_zero, List.getElem_cons_succ, List.setIfInBounds_toArray, List.set_cons_succ, List.set_cons_zero]
      refine wpTill_only (j := 8) (by kernel_rfl) rfl (fun K hK => ?_)
      go_simp
      refine hK.out _ _ (fun hx => absurd (hx.symm.trans (by kernel_rfl)) Bool.false_ne_true) ?_
      clear hK K
      refine wpTill_done (by kernel_rfl) ?_ _
      go_wp2
      go_ret
      exact unhide hfin'
    · simp only [Value.slice.injEq] at e
      obtain ⟨rfl, hnl, rfl⟩ := e
      have hoz2 := unhide hoz
      have hcel' := hide hcel
      have hlen : (Ck.bys l).length = n * 1 := by unfold Ck.bys; simp [hnl]
      have hone : ∀ u ∈ Ck.bys l, u.oneCell' = true := fun u hu => by
        obtain ⟨q, -, rfl⟩ := List.mem_map.1 hu
        rfl
      clear hcel
      refine wp_append_own _ _ _ 22 rfl w2.heap.size 5 i0 (.int .u8 0) 1 1 Try.underlying22 hi hz0 hz1 hz2 rfl (by decide) (.slice (some ⟨w2.heap.size, 0, none⟩) 0 0) 0 [] rfl hoz2 ad n cap (Ck.bys l) rfl hlen (unhide hcel') hone (by unfold maxLen; omega) (by omega) (unhide hbz) ?_
      intro v6 w6 hown hgrow hnil
      rw [Nat.zero_add, List.nil_append, hnl] at hown
      have hvn : v6 ≠ .slice none 0 0 := fun q => by have := (hnil.1 q).1; simp at this
      obtain ⟨g6, c6, rfl⟩ : ∃ g c, v6 = .slice (some ⟨g, 0, none⟩) l.length c := by
        rcases hown.2 with ⟨q, _⟩ | ⟨g, c, cur, q, _⟩
        · exact absurd q hvn
        · exact ⟨g, c, q⟩
      clear hoz2 hlen hone hcel' hnil
      obtain ⟨⟨cs, fs⟩, hfin⟩ := hide (unhide hend w6 _ hgrow hown hvn)
      have hfin' := hide hfin
      clear hfin hend
      refine hK.out _ _ (fun _ => trivial) ?_
      clear hK K
      refine wpTill_take (i := 7) (v := ?_) [8] rfl (by kernel_rfl) (by kernel_rfl) (by kernel_rfl) (by kernel_rfl) (fun _ _ _ h => h) trivial (Or.inl ⟨by rfl, ?_⟩) ?_
      rotate_left
      · intro x hSx
        clear hSx
        go_simp
        try with_reducible rfl
      simp only [Act.put, List.getElem_toArray, List.getElem_cons_zero, List.getElem_cons_succ, List.setIfInBounds_toArray, List.set_cons_succ, List.set_cons_zero]
      refine wpTill_only (j := 8) (by kernel_rfl) rfl (fun K hK => ?_)
      go_simp
      refine hK.out _ _ (fun hx => absurd (hx.symm.trans (by kernel_rfl)) Bool.false_ne_true) ?_
      clear hK K
      refine wpTill_done (by kernel_rfl) ?_ _
      go_wp2
      go_ret
      exact unhide hfin'

end Go.Proofs.Ytnolelhjhhiohaa

