/-
  Why a record may not be added (refusal); slices.Clone of a table; a table of the call's own, one row of it turned.
-/
import Derived.Test.YtiegccdgoemamaaTableAdd
import Derived.Laws.Cover3
namespace Go.Proofs.Ytiegccdgoemamaa
open Go.RowKit Go.WideShapes

set_option maxHeartbeats 6400000 in
theorem tbRefusal_any (a : Option Addr) (n c : Nat) (E : Nat → Nat → Int) (k i s f l : Int) (w : World) (h : Tb.Rows w a n E) (hn : n ≤ maxLen) (hf : f ≤ 9223372036854775807) :
    Calls Try.prog 49 #[.slice a n c, .agg #[.int .i64 k, .int .i64 i, .int .i64 s, .int .i64 f, .int .i64 l]] w (Says w (.int .i64 (Tb.err E n k s f l))) := by
  obtain ⟨W1, R, hW1, hR, hg1, hlt1, hB⟩ := Tb.boxedR w k i s f l
  have cr := hide (tbRet_any a n c E k i s f l W1 (h.on hg1) hn)
  have cf := hide (tbFree_any a n c E s (f - 1) W1 (h.on hg1) hn)
  have HB := hide hB
  have HG := hide hg1
  obtain ⟨b0, b1, b2, b3, b4⟩ := hB W1 (World.grownBy.refl _ _)
  obtain ⟨r, hr⟩ : ∃ r, Tb.err E n k s f l = r := ⟨_, rfl⟩
  have HR := hide hr
  rw [hr]
  clear h hn hr hB hg1 hlt1
  unfold Tb.err at HR
  by_cases hk : k = 2 ∨ k = 3
  · rw [if_neg (fun h => h hk)] at HR
    by_cases hs : s < 0 ∨ 4 ≤ s
    · rw [if_pos hs] at HR
      have hk2 : (k != 2 && k != 3) = false := by rcases hk with rfl | rfl <;> rfl
      clear cr cf
      by_cases hs0 : s < 0
      · rcases hk with rfl | rfl
        all_goals
          clear hk2 hs
          go_enter Try.func49, Try.ntmps49
          go_upto_region 1 with fail
          rw [← hW1, ← hR]
          clear hW1 hR
          go_wp2
          go_ret
          exact ⟨ret_int (unhide HR), unhide HG⟩
      · have hs4 : 4 ≤ s := by omega
        rcases hk with rfl | rfl
        all_goals
          clear hk2 hs
          go_enter Try.func49, Try.ntmps49
          go_upto_region 1 with fail
          rw [← hW1, ← hR]
          clear hW1 hR
          go_wp2
          go_ret
          exact ⟨ret_int (unhide HR), unhide HG⟩
    · rw [if_neg hs] at HR
      have hs0 : ¬ s < 0 := fun h => hs (.inl h)
      have hs4 : ¬ 4 ≤ s := fun h => hs (.inr h)
      clear hs
      by_cases hf1 : f < 1
      · rw [if_pos hf1] at HR
        clear cr cf
        rcases hk with rfl | rfl
        all_goals
          go_enter Try.func49, Try.ntmps49
          go_upto_region 1 with fail
          rw [← hW1, ← hR]
          clear hW1 hR
          go_wp2
          go_ret
          exact ⟨ret_int (unhide HR), unhide HG⟩
      · rw [if_neg hf1] at HR
        rcases hk with rfl | rfl
        · rw [if_neg (by decide)] at HR
          clear cr
          have hf2 : 1 ≤ f := by omega
          cases hfr : Tb.free E n s (f - 1) with
          | true =>
            rw [hfr] at cf HR
            rw [if_pos rfl] at HR
            clear hfr
            go_enter Try.func49, Try.ntmps49
            go_upto_region 1 with fail
            rw [← hW1, ← hR]
            clear hW1 hR
            go_wp2_with fail
            refine (unhide cf).mono ?_
            rintro e y ⟨rfl, hy⟩
            have HY := hide (grown_trans (unhide HG) hy)
            clear hy cf
            go_wp2
            go_ret
            exact ⟨ret_int (unhide HR), unhide HY⟩
          | false =>
            rw [hfr] at cf HR
            rw [if_neg (by decide)] at HR
            clear hfr
            go_enter Try.func49, Try.ntmps49
            go_upto_region 1 with fail
            rw [← hW1, ← hR]
            clear hW1 hR
            go_wp2_with fail
            refine (unhide cf).mono ?_
            rintro e y ⟨rfl, hy⟩
            have HY := hide (grown_trans (unhide HG) hy)
            clear hy cf
            go_wp2
            go_ret
            exact ⟨ret_int (unhide HR), unhide HY⟩
        · rw [if_pos rfl] at HR
          clear cf
          go_enter Try.func49, Try.ntmps49
          go_upto_region 1 with fail
          rw [← hW1, ← hR]
          clear hW1 hR
          go_wp2_with fail
          refine (unhide cr).mono ?_
          rintro e y ⟨rfl, hy⟩
          have HY := hide (grown_trans (unhide HG) hy)
          clear hy cr
          go_wp2
          go_ret
          exact ⟨ret_int (unhide HR), unhide HY⟩
  · rw [if_pos hk] at HR
    have hk2 : (k != 2) = true := by simp; omega
    have hk3 : (k != 3) = true := by simp; omega
    clear cr cf hk
    go_enter Try.func49, Try.ntmps49
    go_upto_region 1 with fail
    rw [← hW1, ← hR]
    clear hW1 hR
    go_wp2
    go_ret
    exact ⟨ret_int (unhide HR), unhide HG⟩

theorem Tb.own_new (w : World) : (w.alloc (.cells #[] 101)).ownsRow w.heap.size 101 4 (.slice (some ⟨w.heap.size, 0, none⟩) 0 0) 0 [] :=
  World.ownsRow_made _ _ _ (Nat.le_refl _) (by decide) (by simp)

/-- 'append([]Span{}, l...)'. -/
theorem wpList_append_tab {w : World} {ops : Array Oper} {rest : List Oper} {o : Oper} {x : Act} {Q : Exit → Act → World → Prop} (hgd : o.guard = none) (s d : Operand)
    (ho : o.op = .call { callee := .builtin .append, args := #[s, d], argTypes := #[52, 52] }) (B : Nat) (hs : x.eval s = .slice (some ⟨B, 0, none⟩) 0 0) (hown : w.ownsRow B 101 4 (.slice (some ⟨B, 0, none⟩) 0 0) 0 [])
    (a : Option Addr) (n c : Nat) (E : Nat → Nat → Int) (hx : x.eval d = .slice a n c) (h : Tb.Tab w a n c E) (hn : n ≤ 1000) (hbase : B ≤ w.heap.size)
    (hq : ∀ v w', w'.ownsRow B 101 4 v n (Tb.list n E) → v ≠ .slice none 0 0 → w.grownBy w' (some B) → wpList Try.prog ops Q rest (x.put o.dst v) w') : wpList Try.prog ops Q (o :: rest) x w := by
  obtain ⟨i0, hi, hz0, hz1, hz2⟩ := info_parts Tb.info_span
  cases a with
  | none =>
    obtain ⟨rfl, rfl⟩ : n = 0 ∧ c = 0 := by
      rcases Nat.eq_zero_or_pos n with e | e
      · exact ⟨e, (h.2.2.2 e).2⟩
      · obtain ⟨b, hb, -⟩ := h.2.2.1 0 e
        cases hb
    exact wpList_append_own_none hgd s d 52 ho B 101 i0 4 Try.underlying52 hi _ 0 [] hs hown hx (hq _ w hown (by simp) (World.grownBy.refl _ _))
  | some p =>
    refine wpList_append_own _ hgd s d 52 ho B 101 i0 _ 4 32 Try.underlying52 hi hz0 hz1 hz2 rfl (by decide) _ 0 [] hs hown p n c (Tb.list n E) hx (Tb.list_len n E) (h.2.2.1.src p rfl) Tb.list_one (by unfold maxLen; omega) (by omega) hbase ?_
    intro v' w' ho' hg hnil
    rw [Nat.zero_add, List.nil_append] at ho'
    refine hq v' w' ho' (fun e => ?_) hg
    have := (hnil.1 e).1
    simp at this

theorem Tb.eq_nil (a : Option Addr) (n c : Nat) (w : World) : (binOp .eql 52 (.slice a n c) (.slice none 0 0)).run Try.prog w = .ok (.bool a.isNone) w := by
  show ((do let r ← Op.equal 52 (.slice a n c) (.slice none 0 0); pure (Value.bool r)) : Sem Value).run Try.prog w = _
  rw [Sem.run_bind, run_equal_slice_nil w 52 101 a n c Try.underlying52]
  rfl

theorem Tb.eq_none (w : World) : (binOp .eql 52 (.slice none 0 0) (.slice none 0 0)).run Try.prog w = .ok (.bool true) w := Tb.eq_nil none 0 0 w
theorem Tb.eq_some (p : Addr) (n c : Nat) (w : World) : (binOp .eql 52 (.slice (some p) n c) (.slice none 0 0)).run Try.prog w = .ok (.bool false) w := Tb.eq_nil (some p) n c w

set_option maxRecDepth 8000 in
set_option maxHeartbeats 1600000 in
theorem tbClone_any (a : Option Addr) (n c : Nat) (E : Nat → Nat → Int) (w : World) (h : Tb.Tab w a n c E) (hn : n ≤ 1000) :
    Calls Try.prog 50 #[.slice a n c] w fun e w' => ∃ v, e = .returned v ∧ w'.ownsRow w.heap.size 101 4 v n (Tb.list n E) ∧ (v = .slice none 0 0 ↔ n = 0) ∧ w.grownBy w' none := by
  have hgA := hide (World.grownBy_alloc w (.cells #[] 101) none)
  have HT := hide (h.on (unhide hgA))
  by_cases h0 : n = 0
  · obtain ⟨rfl, rfl⟩ := h.2.2.2 h0
    subst h0
    have hfin := hide (show w.ownsRow w.heap.size 101 4 (.slice none 0 0) 0 (Tb.list 0 E) from ⟨by simp [Tb.list], .inl ⟨rfl, rfl⟩⟩)
    have hnil := Tb.eq_none
    clear h HT hgA
    go_enter Try.func50, Try.ntmps50
    go_wp2
    go_ret
    exact ⟨_, rfl, unhide hfin, by simp, World.grownBy.refl _ _⟩
  · obtain ⟨b, rfl, -⟩ := h.2.2.1 0 (by omega)
    have H0 := hide h0
    have hnil := Tb.eq_some ⟨b, 0, none⟩ n c
    clear h h0
    go_enter Try.func50, Try.ntmps50
    go_wp2_with (at_builtin; refine wpList_append_tab rfl _ _ rfl w.heap.size rfl (Tb.own_new w) (some ⟨b, 0, none⟩) n c E rfl (unhide HT) hn (by simp) ?_)
    intro v y hown hv hg
    have hfin := hide (And.intro hown hv)
    have HY := hide (grown_own (unhide hgA) hg (by intro m hm; cases hm; exact Nat.le_refl _))
    clear hown hv hg HT
    go_wp2
    go_ret
    exact ⟨v, rfl, (unhide hfin).1, ⟨fun e => absurd e (unhide hfin).2, fun e => absurd e (unhide H0)⟩, unhide HY⟩

/-- A table of the call's own. -/
def Tb.Own (w : World) (g n : Nat) (E : Nat → Nat → Int) : Prop := ∃ m F, Arr w g 101 m F ∧ n * 4 ≤ m ∧ ∀ c, c < n * 4 → F c = Tb.flat E c

theorem Tb.Own.of_owns {w : World} {base n : Nat} {v : Value} {E : Nat → Nat → Int} (h : w.ownsRow base 101 4 v n (Tb.list n E)) (hv : v ≠ .slice none 0 0) : ∃ g cap, v = .slice (some ⟨g, 0, none⟩) n cap ∧ base ≤ g ∧ n ≤ cap ∧ cap ≤ maxLen ∧ Tb.Own w g n E := by
  rcases h.2 with ⟨h', _⟩ | ⟨g, cap, cur, rfl, hb, hg, hnc, hcm, hcs, htake⟩
  · exact absurd h' hv
  · refine ⟨g, cap, rfl, hb, hnc, hcm, cur.size, fun j => cur[j]?.getD undef, Arr.lit hg, by rw [hcs]; omega, fun c hc => ?_⟩
    show cur[c]?.getD undef = _
    have e : (Tb.list n E)[c]? = some (Tb.flat E c) := Tb.list_at hc
    rw [← htake, List.getElem?_take, if_pos hc, Array.getElem?_toList] at e
    rw [e]
    rfl

theorem Tb.Own.rows {w : World} {g n : Nat} {E : Nat → Nat → Int} (h : Tb.Own w g n E) : Tb.Rows w (some ⟨g, 0, none⟩) n E := by
  obtain ⟨m, F, hA, hm, hF⟩ := h
  exact fun i hi => ⟨g, rfl, hA.lt, fun j hj => by rw [hA.cell (i := i * 4 + j) (by omega), hF _ (by omega), Tb.flat_at E i j hj]⟩

theorem Tb.Own.on {w w' : World} {g n : Nat} {E : Nat → Nat → Int} (h : Tb.Own w g n E) (hg : w.grownBy w' none) : Tb.Own w' g n E := by
  obtain ⟨m, F, hA, hm, hF⟩ := h
  exact ⟨m, F, hA.grown hg (by simp), hm, hF⟩

theorem Tb.Own.free {w : World} {g n : Nat} {E : Nat → Nat → Int} (h : Tb.Own w g n E) (i : Nat) : w.frozen? ⟨g, i, none⟩ = false := by
  obtain ⟨m, F, hA, hm, hF⟩ := h
  exact hA.free i

theorem Tb.Own.lt {w : World} {g n : Nat} {E : Nat → Nat → Int} (h : Tb.Own w g n E) : g < w.heap.size := by
  obtain ⟨m, F, hA, hm, hF⟩ := h
  exact hA.lt

/-- One number of a row is another. -/
def Tb.set (E : Nat → Nat → Int) (k j : Nat) (z : Int) : Nat → Nat → Int := fun i' j' => if i' = k ∧ j' = j then z else E i' j'

theorem Tb.Own.set {w : World} {g n : Nat} {E : Nat → Nat → Int} (h : Tb.Own w g n E) (k j : Nat) (hj : j < 4) (z : Int) : Tb.Own (w.setCell ⟨g, k * 4 + j, none⟩ (.int .i64 z)) g n (Tb.set E k j z) := by
  obtain ⟨m, F, hA, hm, hF⟩ := h
  refine ⟨m, _, hA.store (k * 4 + j) _, hm, fun c hc => ?_⟩
  show (if c = k * 4 + j then _ else F c) = _
  unfold Tb.flat Tb.set
  by_cases e : c = k * 4 + j
  · rw [if_pos e, if_pos (by omega)]
  · rw [if_neg e, if_neg (by omega), hF c hc]
    rfl

end Go.Proofs.Ytiegccdgoemamaa
