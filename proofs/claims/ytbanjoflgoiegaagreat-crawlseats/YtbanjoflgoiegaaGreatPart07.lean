/-
  GenDel Ghost GenDig
-/
import Derived.Test.YtbanjoflgoiegaaGreatPart06
import Derived.Deep.LoopGhost
import Derived.Test.YtbanjoflgoiegaaGreatPart01
import Derived.ScopeJumps
import Derived.WalkMore
namespace Go.Proofs.YtbanjoflgoiegaaGreat
open Go.RowKit

theorem indexFunc_nil (fv : Value) (w : World) : Calls Tryz.prog 164 #[.slice none 0 0, fv] w fun e w' => e = .returned (.int .i64 (-1)) ∧ w' = w := by
  go_enter Tryz.func164, Tryz.ntmps164
  go_wp2_with fail
  refine wp_loop_rounds 1 ?_
  rw [rounds_succ]
  go_wp2
  go_ret
  exact ⟨rfl, rfl⟩

def Gn.kept (F : Nat → Int) (l : List Nat) (j : Nat) : List Nat := (l.take j).filter (Gn.afar F)

theorem Gn.kept_len (F : Nat → Int) (l : List Nat) (j : Nat) : (Gn.kept F l j).length ≤ j := by
  have h := List.length_filter_le (Gn.afar F) (l.take j)
  rw [List.length_take] at h
  unfold Gn.kept
  omega

theorem Gn.take_more (l : List Nat) (j : Nat) (h : j < l.length) : l.take (j + 1) = l.take j ++ [l[j]?.getD 0] := by
  rw [List.take_add_one, List.getElem?_eq_getElem h]
  rfl

theorem Gn.kept_yes {F : Nat → Int} {l : List Nat} {j : Nat} (h : j < l.length) (ha : Gn.afar F (l[j]?.getD 0) = true) : Gn.kept F l (j + 1) = Gn.kept F l j ++ [l[j]?.getD 0] := by
  unfold Gn.kept
  rw [Gn.take_more l j h, List.filter_append, List.filter_cons_of_pos ha, List.filter_nil]

theorem Gn.kept_no {F : Nat → Int} {l : List Nat} {j : Nat} (h : j < l.length) (ha : Gn.afar F (l[j]?.getD 0) = false) : Gn.kept F l (j + 1) = Gn.kept F l j := by
  unfold Gn.kept
  rw [Gn.take_more l j h, List.filter_append, List.filter_cons_of_neg (by simp [ha]), List.filter_nil, List.append_nil]

theorem Gn.kept_all {F : Nat → Int} {l : List Nat} {m : Nat} (hm : m ≤ l.length) (ha : ∀ i, i < m → Gn.afar F (l[i]?.getD 0) = true) : Gn.kept F l m = l.take m := by
  unfold Gn.kept
  rw [List.filter_eq_self]
  intro a hmem
  obtain ⟨i, hi, rfl⟩ := List.getElem_of_mem hmem
  rw [List.length_take] at hi
  have := ha i (by omega)
  rw [List.getElem?_eq_getElem (by omega)] at this
  rw [List.getElem_take]
  exact this

theorem Gn.first_go (F : Nat → Int) (l : List Nat) : (∀ i, i < l.length → Gn.afar F (l[i]?.getD 0) = true) ∨ ∃ m, m < l.length ∧ Gn.afar F (l[m]?.getD 0) = false ∧ ∀ i, i < m → Gn.afar F (l[i]?.getD 0) = true := by
  by_cases h : ∃ m, m < l.length ∧ Gn.afar F (l[m]?.getD 0) = false
  · obtain ⟨m0, h0⟩ := h
    right
    induction m0 using Nat.strongRecOn with
    | _ m ih =>
      by_cases hc : ∃ i, i < m ∧ Gn.afar F (l[i]?.getD 0) = false
      · obtain ⟨i, hi, hf⟩ := hc
        exact ih i hi ⟨by omega, hf⟩
      · refine ⟨m, h0.1, h0.2, fun i hi => ?_⟩
        cases hh : Gn.afar F (l[i]?.getD 0) with
        | true => rfl
        | false => exact absurd ⟨i, hi, hh⟩ hc
  · left
    intro i hi
    cases hh : Gn.afar F (l[i]?.getD 0) with
    | true => rfl
    | false => exact absurd ⟨i, hi, hh⟩ h

theorem zero_int : ∀ w, (zeroValue 3).run Tryz.prog w = .ok (.int .i64 0) w := by
  intro w
  kernel_rfl

structure DelHold (w : World) (base g cap gF Bx : Nat) (F : Nat → Int) (l : List Nat) (j : Nat) (wr : World) (H : Nat → Value) : Prop where
  row : Arr wr g 3 cap H
  box : wr.cell? ⟨Bx, 0, none⟩ = some (.slice (some ⟨gF, 0, none⟩) 384 384)
  fld : Arr wr gF 3 384 (Ints F)
  low : ∀ x, x < (Gn.kept F l j).length → H x = .int .i64 (((Gn.kept F l j)[x]?.getD 0 : Nat) : Int)
  high : ∀ x, j ≤ x → x < l.length → H x = .int .i64 ((l[x]?.getD 0 : Nat) : Int)
  below : Below base w wr

theorem DelHold.keep {w : World} {base g cap gF Bx : Nat} {F : Nat → Int} {l : List Nat} {j : Nat} {wr : World} {H : Nat → Value} (h : DelHold w base g cap gF Bx F l j wr H) (hb : base ≤ g) (h1 : gF < base) (h2 : Bx < base) (hj : j < l.length) (ha : Gn.afar F (l[j]?.getD 0) = true) :
    DelHold w base g cap gF Bx F l (j + 1) (wr.setCell ⟨g, (Gn.kept F l j).length, none⟩ (.int .i64 ((l[j]?.getD 0 : Nat) : Int))) (fun x => if x = (Gn.kept F l j).length then .int .i64 ((l[j]?.getD 0 : Nat) : Int) else H x) := by
  have hl := Gn.kept_len F l j
  refine ⟨h.row.store _ _, ?_, h.fld.grown (grown_set (World.grownBy.refl _ _) _ _) (by simp; omega), fun x hx => ?_, fun x hx hxl => ?_, h.below.setCell hb _⟩
  · rw [World.cell?_setCell_other _ _ _ _ (by intro e; have h3 : g = Bx := congrArg Addr.block e; omega)]
    exact h.box
  · rw [Gn.kept_yes hj ha] at hx ⊢
    rw [List.length_append] at hx
    have hx' : x < (Gn.kept F l j).length + 1 := hx
    show (if x = (Gn.kept F l j).length then Value.int .i64 ((l[j]?.getD 0 : Nat) : Int) else H x) = _
    by_cases e : x = (Gn.kept F l j).length
    · rw [if_pos e, e]
      simp
    · rw [if_neg e, List.getElem?_append_left (by omega)]
      exact h.low x (by omega)
  · show (if x = (Gn.kept F l j).length then Value.int .i64 ((l[j]?.getD 0 : Nat) : Int) else H x) = _
    rw [if_neg (by omega)]
    exact h.high x (by omega) hxl

theorem DelHold.pass {w : World} {base g cap gF Bx : Nat} {F : Nat → Int} {l : List Nat} {j : Nat} {wr : World} {H : Nat → Value} (h : DelHold w base g cap gF Bx F l j wr H) (hj : j < l.length) (ha : Gn.afar F (l[j]?.getD 0) = false) :
    DelHold w base g cap gF Bx F l (j + 1) wr H := by
  refine ⟨h.row, h.box, h.fld, fun x hx => ?_, fun x hx hxl => h.high x (by omega) hxl, h.below⟩
  rw [Gn.kept_no hj ha] at hx ⊢
  exact h.low x hx

set_option maxRecDepth 8000 in
set_option maxHeartbeats 4000000 in
theorem deleteFunc_any (F : Nat → Int) (gF Bx base : Nat) (v : Value) (l : List Nat) (w : World) (hx : w.cell? ⟨Bx, 0, none⟩ = some (.slice (some ⟨gF, 0, none⟩) 384 384)) (hF : Arr w gF 3 384 (Ints F))
    (hL : Lst w base v l) (h1 : gF < base) (h2 : Bx < base) (hn : l.length ≤ 384) (hc : ∀ i, i < l.length → l[i]?.getD 0 < 384) :
    Calls Tryz.prog 135 #[v, .func (.func 136) #[] #[.pointer (some ⟨Bx, 0, none⟩)]] w
      fun e w' => ∃ v', e = .returned v' ∧ Lst w' base v' (l.filter (Gn.afar F)) ∧ Below base w w' := by
  rcases hL.form with ⟨rfl, rfl⟩ | ⟨g, cap, H, rfl, hb, hA, hlc, hm, hH⟩
  · have hL' := hide hL
    clear hL hc hx hF
    go_enter Tryz.func135, Tryz.ntmps135
    go_wp2_with fail
    refine (indexFunc_nil _ _).mono ?_
    rintro e w' ⟨rfl, rfl⟩
    go_wp2
    go_ret
    exact ⟨_, rfl, unhide hL', Below.refl _ _⟩
  · rcases Gn.first_go F l with hall | ⟨m, hml, hmf, hma⟩
    · have hidx := hide (indexFunc_any F gF Bx g cap l w H hx hF hA hlc hn hH hc (-1) (.inl ⟨rfl, hall⟩))
      have hfl : Hid (l.filter (Gn.afar F) = l) := by
        have h := Gn.kept_all (F := F) (Nat.le_refl l.length) hall
        unfold Gn.kept at h
        rw [List.take_length] at h
        exact h
      have hL' := hide hL
      clear hL hc hx hF hA hH hall
      go_enter Tryz.func135, Tryz.ntmps135
      go_wp2_with fail
      refine (unhide hidx).mono ?_
      rintro e w' ⟨rfl, rfl⟩
      go_wp2
      go_ret
      exact ⟨_, rfl, by rw [unhide hfl]; exact unhide hL', Below.refl _ _⟩
    · have hidx := hide (indexFunc_any F gF Bx g cap l w H hx hF hA hlc hn hH hc (m : Int) (.inr ⟨m, rfl, hml, hmf, hma⟩))
      have hk1 : Gn.kept F l (m + 1) = l.take m := by rw [Gn.kept_no hml hmf, Gn.kept_all (by omega) hma]
      have hk1l : (Gn.kept F l (m + 1)).length = m := by rw [hk1, List.length_take]; omega
      have hD0 : Hid (DelHold w base g cap gF Bx F l (m + 1) w H) := by
        refine ⟨hA, hx, hF, fun x hxl => ?_, fun x _ hxl => hH x hxl, Below.refl _ _⟩
        rw [hk1l] at hxl
        rw [hH x (by omega), hk1, List.getElem?_take, if_pos hxl]
      have hc' := hide hc
      have hk1' := hide hk1l
      have hml' := hide hml
      obtain ⟨n, hnn⟩ : ∃ n, n = l.length := ⟨_, rfl⟩
      rw [← hnn] at hidx hlc hn ⊢
      have hn' := hide hnn
      have hmn : (m : Int) + 1 ≤ (n : Int) := by omega
      have hne : ((m : Int) == -1) = false := by rw [beq_eq_false_iff_ne]; omega
      have hm' : cap ≤ 9223372036854775807 := hm
      clear hL hc hx hF hA hH hk1 hk1l hmf hma hnn hm
      go_enter Tryz.func135, Tryz.ntmps135
      go_wp2_with fail
      refine (unhide hidx).mono ?_
      rintro e w' ⟨rfl, hw⟩
      subst w'
      go_wp2_with fail
      go_loopw [5, 6] (fun vi vj wr => ∃ (i j : Nat) (H : Nat → Value), j ≤ n ∧ m + 1 ≤ j ∧ i < j ∧ vi = .int .i64 (i : Int) ∧ vj = .int .i64 (j : Int) ∧ i = (Gn.kept F l j).length ∧ DelHold w base g cap gF Bx F l j wr H) (fun _ vj _ => 400 - (intOf vj).toNat)
      case atStart => exact ⟨m, m + 1, H, by omega, by omega, by omega, rfl, by go_num, (unhide hk1').symm, unhide hD0⟩
      case round =>
        obtain ⟨i, j, H, hj, hmj, hij, rfl, rfl, hi, hD⟩ := hrel
        have hD1 := hide hD
        have hi' := hide hi
        clear hD hi hD0 hk1' hidx
        by_cases hlt : j < n
        · have hjl : j < l.length := by have := unhide hn'; omega
          obtain ⟨c, hcd⟩ : ∃ c, c = l[j]?.getD 0 := ⟨_, rfl⟩
          have q : wr.cell? ⟨g, j, none⟩ = some (.int .i64 (c : Int)) := by rw [(unhide hD1).row.cell (by omega), (unhide hD1).high j (Nat.le_refl _) hjl, hcd]
          have hc384 : c < 384 := by rw [hcd]; exact unhide hc' j hjl
          have hlt' : (j : Int) < (n : Int) := by omega
          have hcd' := hide hcd
          have HJ := hide hjl
          have hin : (i : Int) < (n : Int) := by omega
          have q2 := (unhide hD1).row.cell (i := i) (by omega)
          have q3 := (unhide hD1).row.free i
          have hdel := hide (del_any F gF Bx c wr (unhide hD1).box (unhide hD1).fld hc384)
          clear hcd hjl
          go_wp2_with fail
          refine (unhide hdel).mono ?_
          rintro e w' ⟨rfl, hw⟩
          subst w'
          by_cases hF4 : F c < 4
          · have ha : Gn.afar F (l[j]?.getD 0) = false := by rw [← unhide hcd']; simp [Gn.afar, hF4]
            have hD2 := hide ((unhide hD1).pass (unhide HJ) ha)
            have hi2 : Hid (i = (Gn.kept F l (j + 1)).length) := by show i = _; rw [Gn.kept_no (unhide HJ) ha]; exact unhide hi'
            clear ha hdel
            go_wp2
            go_roundw
            case rel => exact ⟨i, j + 1, H, by omega, by omega, by omega, rfl, by go_num, unhide hi2, unhide hD2⟩
            case measure => simp [intOf]; omega
          · have ha : Gn.afar F (l[j]?.getD 0) = true := by rw [← unhide hcd']; simp [Gn.afar]; omega
            have hD2 := (unhide hD1).keep hb h1 h2 (unhide HJ) ha
            rw [← unhide hcd', ← unhide hi'] at hD2
            have hD3 := hide hD2
            have hi2 : Hid (i + 1 = (Gn.kept F l (j + 1)).length) := by show i + 1 = _; rw [Gn.kept_yes (unhide HJ) ha, List.length_append, ← unhide hi']; rfl
            have hdec : decide (F c < 4) = false := by simpa using hF4
            clear ha hdel hD2 hF4
            go_wp2
            go_roundw
            case rel => exact ⟨i + 1, j + 1, _, by omega, by omega, by omega, by go_num, by go_num, unhide hi2, unhide hD3⟩
            case measure => simp [intOf]; omega
        · have hge : ¬ (j : Int) < (n : Int) := by omega
          have hjn : j = l.length := by have := unhide hn'; omega
          have hkl : Gn.kept F l l.length = l.filter (Gn.afar F) := by unfold Gn.kept; rw [List.take_length]
          have hil : i = (l.filter (Gn.afar F)).length := by rw [← hkl, ← hjn]; exact unhide hi'
          have hin : (i : Int) < (n : Int) := by omega
          have hfin : Hid (Lst (wr.setCells g i (List.replicate (n - i) (.int .i64 0))) base (.slice (some ⟨g, 0, none⟩) i cap) (l.filter (Gn.afar F))) := by
            have hA2 := Arr.stores (List.replicate (n - i) (Value.int .i64 0)) i wr H (unhide hD1).row
            have h := Lst.back (l := l.filter (Gn.afar F)) hb hA2 (by omega) hm' (fun x hx => by
              show (if i ≤ x ∧ x < _ then _ else H x) = _
              rw [if_neg (by omega), (unhide hD1).low x (by rw [hjn, hkl]; exact hx), hjn, hkl])
            rw [← hil] at h
            exact h
          have hbel : Hid (Below base w (wr.setCells g i (List.replicate (n - i) (.int .i64 0)))) := by
            have hgr := grown_sets (List.replicate (n - i) (Value.int .i64 0)) i wr (World.grownBy.refl wr (some g))
            exact (unhide hD1).below.grown hgr (by have := (unhide hD1).row.lt; omega) (fun k hk => by cases hk; omega)
          have hcl : ∀ ty, (Builtin.clear_ #[38] ty #[.slice (some ⟨g, i, none⟩) (n - i) (cap - i)]).run Tryz.prog wr = .ok (.tuple #[]) (wr.setCells g i (List.replicate (n - i) (.int .i64 0))) :=
            fun ty => Lib.run_clear_slice wr _ _ ty _ Tryz.underlying38 zero_int rfl rfl g i _ _ (by omega) (fun t ht => by rw [(unhide hD1).row.cell (by omega)]; rfl) (fun t ht => (unhide hD1).row.free _)
          have hicap : i ≠ cap := by omega
          clear hjn hkl hil
          go_wp2
          go_ret
          exact ⟨_, rfl, unhide hfin, unhide hbel⟩

theorem Gn.erase_at (l : List Nat) (i x : Nat) : (l.eraseIdx i)[x]?.getD 0 = if x < i then l[x]?.getD 0 else l[x + 1]?.getD 0 := by
  rw [List.getElem?_eraseIdx]
  split <;> rfl

set_option maxRecDepth 8000 in
set_option maxHeartbeats 4000000 in
theorem delete_any (base i j : Nat) (v : Value) (l : List Nat) (w : World) (hL : Lst w base v l) (hn : l.length ≤ 384) (hi : i < l.length) (hj : j = i + 1) :
    Calls Tryz.prog 139 #[v, .int .i64 (i : Int), .int .i64 (j : Int)] w
      fun e w' => ∃ v', e = .returned v' ∧ Lst w' base v' (l.eraseIdx i) ∧ v'.ownBlock = v.ownBlock ∧ w.grownBy w' v.ownBlock := by
  rcases hL.form with ⟨rfl, rfl⟩ | ⟨g, cap, H, rfl, hb, hA, hlc, hm, hH⟩
  · simp at hi
  · obtain ⟨i0, hi0, hz0, hz1, hz2⟩ := info_parts info_int
    have hm' : cap ≤ 9223372036854775807 := hm
    obtain ⟨n, hnn⟩ : ∃ n, n = l.length := ⟨_, rfl⟩
    obtain ⟨news, hnews⟩ : ∃ news : List Value, news = (List.range (n - j)).map (fun t => H (j + t)) := ⟨_, rfl⟩
    have hlen : news.length = n - j := by rw [hnews]; simp
    have hget : ∀ t, t < n - j → news[t]? = some (H (j + t)) := by
      intro t ht
      rw [hnews, List.getElem?_map, List.getElem?_range ht]
      rfl
    obtain ⟨A, hAd, hsrc⟩ : ∃ A : Addr, (if cap = j then some (⟨g, 0, none⟩ : Addr) else some ⟨g, j, none⟩) = some A ∧ Hid (∀ t u, news[t]? = some u → w.drew.cell? (A.add t) = some u) := by
      by_cases h : cap = j
      · refine ⟨⟨g, 0, none⟩, by simp [h], fun t u hu => ?_⟩
        have h0 : news.length = 0 := by rw [hlen]; omega
        rw [List.length_eq_zero_iff.1 h0] at hu
        simp at hu
      · refine ⟨⟨g, j, none⟩, by simp [h], fun t u hu => ?_⟩
        have ht : t < n - j := by
          have := (List.getElem?_eq_some_iff.1 hu).1
          rwa [hlen] at this
        rw [hget t ht] at hu
        rw [Addr.add_lit]
        exact (hA.cell (i := j + t) (by omega)).trans hu
    have s1 : Hid (news.length = (n - j) * 1) := by rw [Nat.mul_one]; exact hlen
    have s2 : Hid (∀ u ∈ news, u.oneCell' = true) := by
      intro u hu
      rw [hnews] at hu
      obtain ⟨x, hx, rfl⟩ := List.mem_map.1 hu
      have hxl := List.mem_range.1 hx
      rw [hH (j + x) (by omega)]
      rfl
    have s3 : Hid (∀ t, t < news.length → (w.drew.cell? ⟨g, 0 + i * 1 + t, none⟩).isSome = true ∧ w.drew.frozen? ⟨g, 0 + i * 1 + t, none⟩ = false) := by
      intro t ht
      rw [hlen] at ht
      rw [Nat.mul_one, Nat.zero_add]
      exact ⟨by show (w.cell? _).isSome = true; rw [hA.cell (i := i + t) (by omega)]; rfl, hA.free (i + t)⟩
    obtain ⟨W1, hW1⟩ : ∃ W1, W1 = w.drew.setCells g (0 + i * 1) news := ⟨_, rfl⟩
    have hAd1 : Arr w.drew g 3 cap H := hA.grown (grown_drew1 (World.grownBy.refl w none)) (by simp)
    have hA1 : Arr W1 g 3 cap (fun x => if i ≤ x ∧ x < i + news.length then news[x - i]?.getD undef else H x) := by
      have h := Arr.stores news (0 + i * 1) w.drew H hAd1
      rw [← hW1, Nat.zero_add, Nat.mul_one] at h
      exact h
    have hbel1 : w.grownBy W1 (some g) := by
      rw [hW1]
      exact grown_sets news (0 + i * 1) w.drew (grown_drew1 (World.grownBy.refl w (some g)))
    have hcl : ∀ ty, (Builtin.clear_ #[38] ty #[.slice (some ⟨g, i + (n - j), none⟩) (n - (i + (n - j))) (cap - (i + (n - j)))]).run Tryz.prog W1 = .ok (.tuple #[]) (W1.setCells g (i + (n - j)) (List.replicate (n - (i + (n - j))) (.int .i64 0))) :=
      fun ty => Lib.run_clear_slice W1 _ _ ty _ Tryz.underlying38 zero_int rfl rfl g (i + (n - j)) _ _ (by omega) (fun t ht => by rw [hA1.cell (by omega)]; rfl) (fun t ht => hA1.free _)
    have hel : (l.eraseIdx i).length = i + (n - j) := by rw [List.length_eraseIdx, if_pos hi]; omega
    have hfin : Hid (Lst (W1.setCells g (i + (n - j)) (List.replicate (n - (i + (n - j))) (.int .i64 0))) base (.slice (some ⟨g, 0, none⟩) (i + (n - j)) cap) (l.eraseIdx i)) := by
      have hA2 := Arr.stores (List.replicate (n - (i + (n - j))) (Value.int .i64 0)) (i + (n - j)) W1 _ hA1
      have h := Lst.back (l := l.eraseIdx i) hb hA2 (by omega) hm (fun x hx => by
        show (if i + (n - j) ≤ x ∧ x < _ then _ else if i ≤ x ∧ x < i + news.length then news[x - i]?.getD undef else H x) = _
        rw [hel] at hx
        rw [if_neg (by omega), Gn.erase_at l i x]
        by_cases hxi : x < i
        · rw [if_neg (by omega), if_pos hxi]
          exact hH x (by omega)
        · rw [if_pos (by omega), if_neg hxi, hget (x - i) (by omega), show j + (x - i) = x + 1 by omega, hH (x + 1) (by omega)]
          rfl)
      rw [hel] at h
      exact h
    have hbel : Hid (w.grownBy (W1.setCells g (i + (n - j)) (List.replicate (n - (i + (n - j))) (.int .i64 0))) (some g)) :=
      grown_sets (List.replicate (n - (i + (n - j))) (Value.int .i64 0)) (i + (n - j)) W1 hbel1
    have hW : Hid (W1 = w.drew.setCells g (0 + i * 1) news) := hW1
    have hic : i ≤ cap := by omega
    have hjc : j ≤ cap := by omega
    have hij : i < j := by omega
    have hjn : j ≤ n := by omega
    have hnc : n ≤ cap := by omega
    have hn3 : n ≤ 384 := by omega
    rw [← hnn]
    clear hL hA hH hj hnews hlen hget hW1 hAd1 hA1 hbel1 hel hlc hi hn hnn
    go_enter Tryz.func139, Tryz.ntmps139
    go_wp2_with fail
    go_region_law (refine step_append_room rfl (.tmp 22) (.tmp 25) 38 rfl 3 i0 1 Tryz.underlying38 hi0 hz1 g 0 i cap (by simp [Act.eval, Act.put]) A (n - j) (cap - j) news (by simp [Act.eval, Act.put]) s1.out hsrc.out s2.out (by omega) s3.out ?_; rw [← hW.out])
    go_wp2
    go_ret
    exact ⟨_, rfl, unhide hfin, rfl, unhide hbel⟩

end Go.Proofs.YtbanjoflgoiegaaGreat

namespace Go.Proofs.YtbanjoflgoiegaaGreat
open Go.RowKit

theorem least (p : Nat → Prop) (k : Nat) (h : p k) : ∃ m, p m ∧ ∀ j, p j → m ≤ j := by
  induction k using Nat.strongRecOn with
  | _ k ih =>
    by_cases hc : ∃ j, j < k ∧ p j
    · obtain ⟨j, hj, hp⟩ := hc
      exact ih j hj hp
    · exact ⟨k, h, fun j hp => by by_cases hjk : k ≤ j; exact hjk; exact absurd ⟨j, by omega, hp⟩ hc⟩

theorem least_spec (p : Nat → Prop) (k : Nat) (h : p k) : p (@Classical.epsilon Nat ⟨0⟩ fun m => p m ∧ ∀ j, p j → m ≤ j) ∧ ∀ j, p j → (@Classical.epsilon Nat ⟨0⟩ fun m => p m ∧ ∀ j, p j → m ≤ j) ≤ j :=
  Classical.epsilon_spec (p := fun m => p m ∧ ∀ j, p j → m ≤ j) (least p k h)

theorem wp_scope_ghost {P : Program} {a : Act} {w : World} {Q : Exit → Act → World → Prop} {c rest : Code} (l : Nat) (J : Nat → Act → World → Prop) (hf : findLabel c l = some rest)
    (first : c.wp P (Exit.jump l (fun a w => ∃ k, J k a w) Q) a w)
    (pass : ∀ k a w, J k a w → rest.wp P (Exit.jump l (fun a' w' => ∃ k', k' < k ∧ J k' a' w') Q) a w) : (Code.scope c).wp P Q a w := by
  refine wp_scope_jumps l (fun a w => ∃ k, J k a w) (fun a w => @Classical.epsilon Nat ⟨0⟩ fun m => J m a w ∧ ∀ j, J j a w → m ≤ j) hf first ?_
  rintro a w ⟨k, hk⟩
  obtain ⟨h1, h2⟩ := least_spec (fun k => J k a w) k hk
  refine Code.wp_mono ?_ (pass _ a w h1)
  intro e a' w' hq
  cases e with
  | goto l' =>
    obtain ⟨hl, k', hk', hJ⟩ := hq
    exact ⟨hl, ⟨k', hJ⟩, Nat.lt_of_le_of_lt ((least_spec (fun k => J k a' w') k' hJ).2 k' hJ) hk'⟩
  | normal => exact hq
  | exit _ => exact hq
  | ret => exact hq
  | panic _ => exact hq
  | outgrown => exact hq

end Go.Proofs.YtbanjoflgoiegaaGreat

namespace Go.Proofs.YtbanjoflgoiegaaGreat
open Go.RowKit

structure DigHold (w : World) (G : Nat) (x y tx ty : Int) (wr : World) : Prop where
  here : Arr wr w.heap.size 118 2 (fun j => .int .i64 (if j = 0 then x else y))
  goal : Arr wr (w.heap.size + 1) 118 2 (fun j => .int .i64 (if j = 0 then tx else ty))
  grown : w.grownBy wr (some G)

theorem DigHold.on {w : World} {G : Nat} {x y tx ty : Int} {wr wx : World} (h : DigHold w G x y tx ty wr) (hg : wr.grownBy wx none) : DigHold w G x y tx ty wx :=
  ⟨h.here.grown hg (by simp), h.goal.grown hg (by simp), grown_none h.grown hg⟩

theorem grown_put (w : World) (g i : Nat) (u : Value) : w.grownBy (w.setCell ⟨g, i, none⟩ u) (some g) := grown_set (World.grownBy.refl _ _) i u

theorem DigHold.put {w : World} {G : Nat} {x y tx ty : Int} {wr : World} (h : DigHold w G x y tx ty wr) (hG : G < w.heap.size) (i : Nat) (u : Value) : DigHold w G x y tx ty (wr.setCell ⟨G, i, none⟩ u) :=
  ⟨h.here.grown (grown_put wr G i u) (by simp; omega), h.goal.grown (grown_put wr G i u) (by simp; omega), grown_set h.grown i u⟩

theorem DigHold.move {w : World} {G : Nat} {x y tx ty : Int} {wr : World} (h : DigHold w G x y tx ty wr) (u v : Int) :
    DigHold w G u v tx ty ((wr.setCell ⟨w.heap.size, 0, none⟩ (.int .i64 u)).setCell ⟨w.heap.size, 1, none⟩ (.int .i64 v)) := by
  have hg : wr.grownBy ((wr.setCell ⟨w.heap.size, 0, none⟩ (.int .i64 u)).setCell ⟨w.heap.size, 1, none⟩ (.int .i64 v)) (some w.heap.size) := grown_set (grown_put _ _ _ _) _ _
  refine ⟨?_, h.goal.grown hg (by simp), grown_own h.grown hg (fun n e => by cases e; omega)⟩
  refine ((h.here.store _ _).store _ _).congr fun j hj => ?_
  rcases (show j = 0 ∨ j = 1 by omega) with rfl | rfl <;> rfl

theorem Arr.pair (w : World) (x y : Int) (T : TypeId) : Arr (w.alloc (.cells #[.int .i64 x, .int .i64 y] T)) w.heap.size T 2 (fun j => .int .i64 (if j = 0 then x else y)) := by
  refine ⟨_, heap_alloc_new _ _, rfl, fun i hi => ?_⟩
  rcases (show i = 0 ∨ i = 1 by omega) with rfl | rfl <;> rfl

theorem DigHold.start (w : World) (G : Nat) (x y tx ty : Int) :
    DigHold w G x y tx ty ((w.alloc (.cells #[.int .i64 x, .int .i64 y] 118)).alloc (.cells #[.int .i64 tx, .int .i64 ty] 118)) := by
  refine ⟨(Arr.pair _ _ _ _).alloc _, ?_, grown_alloc (World.grownBy_alloc _ _ _) _⟩
  have h := Arr.pair (w.alloc (.cells #[.int .i64 x, .int .i64 y] 118)) tx ty 118
  simpa using h

theorem Gn.steps_0 {x y tx ty : Int} (hx : x = tx) (hy : y = ty) : Gn.steps x y tx ty = 0 := by
  unfold Gn.steps; omega

theorem Gn.run_on {tx ty x y : Int} {first : Bool} {st : (Nat → Int) × Bool} {c : Nat} (h : ¬ (x = tx ∧ y = ty)) (hc : y * 24 + x = (c : Int)) :
    Gn.digRun tx ty first (Gn.steps x y tx ty) st x y = Gn.digRun tx ty first (Gn.steps (Gn.stepX x y tx ty first) (Gn.stepY x y tx ty first) tx ty) (Gn.digAt st c) (Gn.stepX x y tx ty first) (Gn.stepY x y tx ty first) := by
  rw [← Gn.step_less x y tx ty first h, Gn.digRun, hc, Int.toNat_natCast]

theorem Gn.run_end {tx ty x y : Int} {first : Bool} {st : (Nat → Int) × Bool} {c : Nat} (hx : x = tx) (hy : y = ty) (hc : y * 24 + x = (c : Int)) :
    Gn.digRun tx ty first (Gn.steps x y tx ty) st x y = Gn.digAt st c := by
  rw [Gn.steps_0 hx hy, Gn.digRun, hc, Int.toNat_natCast]

theorem Gn.at_wall {st : (Nat → Int) × Bool} {c : Nat} (h : st.1 c = 0) : Gn.digAt st c = (Gr.upd st.1 c (if st.2 then 1 else 2), true) := if_pos h

theorem Gn.at_free {st : (Nat → Int) × Bool} {c : Nat} (h : ¬ st.1 c = 0) : Gn.digAt st c = st := if_neg h

theorem Arr.byte {w : World} {g n : Nat} {T : TypeId} {F : Nat → Int} (h : Arr w g T n (Byts F)) (i : Nat) (v : Int) : Arr (w.setCell ⟨g, i, none⟩ (.int .u8 v)) g T n (Byts (Gr.upd F i v)) := by
  refine (h.store i _).congr fun j _ => ?_
  show (if j = i then Value.int .u8 v else .int .u8 (F j)) = .int .u8 (if j = i then v else F j)
  split <;> rfl

set_option maxRecDepth 8000 in
set_option maxHeartbeats 4000000 in
theorem dig_any (G : Nat) (c0 : Nat → Int) (x0 y0 tx ty : Int) (first : Bool) (w : World) (hA : Arr w G 5 384 (Byts c0)) (h5 : ∀ i, 0 ≤ c0 i ∧ c0 i ≤ 5) (hxy : (1 ≤ x0 ∧ x0 ≤ 22) ∧ 1 ≤ y0 ∧ y0 ≤ 14) (ht : (1 ≤ tx ∧ tx ≤ 22) ∧ 1 ≤ ty ∧ ty ≤ 14) :
    Calls Tryz.prog 130 #[.slice (some ⟨G, 0, none⟩) 384 384, .agg #[.int .i64 x0, .int .i64 y0], .agg #[.int .i64 tx, .int .i64 ty], .bool first] w
      (fun e w' => e = .returned (.tuple #[]) ∧ Arr w' G 5 384 (Byts (Gn.digRun tx ty first (Gn.steps x0 y0 tx ty) (c0, false) x0 y0).1) ∧ w.grownBy w' (some G)) := by
  have hG := hA.lt
  have hA' := hide hA
  have h5' := hide h5
  have ht' := hide ht
  have hxy' := hide hxy
  obtain ⟨fin, hfin⟩ : ∃ fin, fin = (Gn.digRun tx ty first (Gn.steps x0 y0 tx ty) (c0, false) x0 y0).1 := ⟨_, rfl⟩
  rw [← hfin]
  have hfin' := hide hfin
  clear hA h5 hfin ht hxy
  go_enter Tryz.func130, Tryz.ntmps130
  go_wp2_with fail
  refine wp_scope_ghost 0 (fun m a' w' => ∃ (x y kd : Int) (st : (Nat → Int) × Bool) (u4 u7 u9 u10 u11 u12 u13 u14 u15 u16 u17 u18 u19 u20 u21 u22 u23 u24 u25 u26 u27 : Value), a' = { tmps := #[.slice (some ⟨G, 0, none⟩) 384 384, .agg #[.int .i64 x0, .int .i64 y0], .agg #[.int .i64 tx, .int .i64 ty], .bool first, u4, .pointer (some ⟨w.heap.size, 0, none⟩), .pointer (some ⟨w.heap.size + 1, 0, none⟩), u7, .int .u8 kd, u9, u10, u11, u12, u13, u14, u15, u16, u17, u18, u19, u20, u21, u22, u23, u24, u25, u26, u27], defers := [] } ∧ ((1 ≤ x ∧ x ≤ 22) ∧ 1 ≤ y ∧ y ≤ 14) ∧ (∀ i, 0 ≤ st.1 i ∧ st.1 i ≤ 5) ∧ Arr w' G 5 384 (Byts st.1) ∧ DigHold w G x y tx ty w' ∧ m = Gn.steps x y tx ty ∧ (Gn.digRun tx ty first m st x y).1 = fin ∧ kd = (if st.2 then 1 else 2)) rfl ?_ ?_
  · obtain ⟨st, hst⟩ : ∃ st : (Nat → Int) × Bool, st = (c0, false) := ⟨_, rfl⟩
    have hkd' : Hid ((2 : Int) = if st.2 then 1 else 2) := by rw [hst]; rfl
    have hs5' : Hid (∀ i, 0 ≤ st.1 i ∧ st.1 i ≤ 5) := by rw [hst]; exact unhide h5'
    have hA1 : Hid (Arr ((w.alloc (.cells #[.int .i64 x0, .int .i64 y0] 118)).alloc (.cells #[.int .i64 tx, .int .i64 ty] 118)) G 5 384 (Byts st.1)) := by rw [hst]; exact ((unhide hA').alloc _).alloc _
    have hH1 := hide (DigHold.start w G x0 y0 tx ty)
    have hrun' : Hid ((Gn.digRun tx ty first (Gn.steps x0 y0 tx ty) st x0 y0).1 = fin) := by rw [hst]; exact (unhide hfin').symm
    obtain ⟨⟨b1, b2⟩, b3, b4⟩ := unhide hxy'
    clear hst hA' h5' hfin' hxy'
    have p1 := (unhide hH1).here.cell (i := 0) (by omega)
    have p2 := (unhide hH1).here.cell (i := 1) (by omega)
    simp only [ite_true, Nat.one_ne_zero, ite_false] at p1 p2
    go_wp2_with fail
    go_step3
    go_wp2_with fail
    refine (num_any x0 y0 _ (by omega) (by omega) (by omega) (by omega)).mono ?_
    rintro e wn ⟨rfl, hgn⟩
    obtain ⟨c, hc⟩ : ∃ c : Nat, y0 * 24 + x0 = (c : Int) := ⟨(y0 * 24 + x0).toNat, by omega⟩
    have hcl : c < 384 := by omega
    have hA2 := hide ((unhide hA1).grown hgn (by simp))
    have hH2 := hide ((unhide hH1).on hgn)
    rw [hc]
    have hcc : wn.cell? ⟨G, c, none⟩ = some (.int .u8 (st.1 c)) := (unhide hA2).cell hcl
    have hcf := (unhide hA2).free c
    have hc2 : (c : Int) < 384 := by omega
    have hc' := hide hc
    have hst5 := hide (Gn.digAt_5 (k := c) (unhide hs5'))
    clear hgn hA1 hH1 p1 p2 hc
    by_cases hwall : st.1 c = 0
    · have hw0 : (st.1 c == 0) = true := by simpa using hwall
      have hat := Gn.at_wall hwall
      rw [← unhide hkd'] at hat
      have hA3 : Hid (Arr (wn.setCell ⟨G, c, none⟩ (.int .u8 2)) G 5 384 (Byts (Gn.digAt st c).1)) := by rw [hat]; exact (unhide hA2).byte c _
      have hk3 : Hid ((1 : Int) = if (Gn.digAt st c).2 then 1 else 2) := by rw [hat]; rfl
      have hH3 := hide ((unhide hH2).put hG c (.int .u8 2))
      obtain ⟨wm, hwm⟩ : ∃ wm, wm = wn.setCell ⟨G, c, none⟩ (.int .u8 2) := ⟨_, rfl⟩
      rw [← hwm] at hA3 hH3
      have p1 := (unhide hH3).here.cell (i := 0) (by omega)
      have p2 := (unhide hH3).here.cell (i := 1) (by omega)
      have p3 := (unhide hH3).goal.cell (i := 0) (by omega)
      have p4 := (unhide hH3).goal.cell (i := 1) (by omega)
      simp only [ite_true, Nat.one_ne_zero, ite_false] at p1 p2 p3 p4
      clear hwall hat hA2 hH2
      have hww := hwm.symm
      clear hwm
      by_cases hend : x0 = tx ∧ y0 = ty
      · obtain ⟨hex, hey⟩ := hend
        have q1 : (x0 == tx) = true := by simpa using hex
        have q2 : (y0 == ty) = true := by simpa using hey
        have hf : Hid (Arr wm G 5 384 (Byts fin)) := by
          have h := unhide hA3
          rw [← Gn.run_end (first := first) hex hey (unhide hc'), unhide hrun'] at h
          exact h
        clear hex hey
        go_wp2
        simp only [Exit.jump]
        refine bodyPost_ret (results_none rfl _ _ _) rfl ?_
        exact ⟨rfl, unhide hf, (unhide hH3).grown⟩
      · have hon := Gn.run_on (first := first) (st := st) hend (unhide hc')
        rw [← Gn.step_less x0 y0 tx ty first hend] at hrun'
        have hrun2 := unhide hrun'
        rw [Gn.step_less x0 y0 tx ty first hend, hon] at hrun2
        have hrun3 := hide hrun2
        have hles := hide (Gn.step_less x0 y0 tx ty first hend)
        have hbd := Gn.step_bd x0 y0 tx ty first ⟨⟨b1, b2⟩, b3, b4⟩ (unhide ht')
        have hbd' := hide hbd
        obtain ⟨nx, hnx⟩ : ∃ nx, nx = Gn.stepX x0 y0 tx ty first := ⟨_, rfl⟩
        obtain ⟨ny, hny⟩ : ∃ ny, ny = Gn.stepY x0 y0 tx ty first := ⟨_, rfl⟩
        rw [← hnx, ← hny] at hrun3 hles hbd'
        have hcall := fun w' => nearer_any x0 y0 tx ty first w' (by omega) (by omega) (by omega) (by omega)
        rw [← hnx, ← hny] at hcall
        have hcall' := hide hcall
        clear hon hrun2 hbd hnx hny hcall
        have hq : (x0 == tx) = false ∨ ((x0 == tx) = true ∧ (y0 == ty) = false) := by
          by_cases hx : x0 = tx
          · right
            exact ⟨by simpa using hx, by simpa using fun h => hend ⟨hx, h⟩⟩
          · left
            simpa using hx
        clear hend
        rcases hq with q1 | ⟨q1, q2⟩
        all_goals
          go_wp2_with fail
          refine (unhide hcall' _).mono ?_
          rintro e wv ⟨rfl, hgv⟩
          have hA4 := hide ((unhide hA3).grown hgv (by simp))
          have hH4 := hide ((unhide hH3).on hgv)
          have z1 := (unhide hH4).here.cell (i := 0) (by omega)
          have z2 := (unhide hH4).here.cell (i := 1) (by omega)
          have z3 := (unhide hH4).here.free 0
          have z4 := (unhide hH4).here.free 1
          clear hgv
          go_wp2_with fail
          go_step3
          exact ⟨rfl, Gn.steps nx ny tx ty,  nx, ny, _, Gn.digAt st c, _, _, _, _, _, _, _, _, _, _, _, _, _, _, _, _, _, _, _, _, _, rfl, unhide hbd', unhide hst5, (unhide hA4).grown (grown_set (grown_put _ _ _ _) _ _) (by simp; omega), (unhide hH4).move nx ny, rfl, unhide hrun3, unhide hk3⟩
    · have hw0 : (st.1 c == 0) = false := by simpa using hwall
      have hat := Gn.at_free hwall
      have hA3 : Hid (Arr wn G 5 384 (Byts (Gn.digAt st c).1)) := by rw [hat]; exact unhide hA2
      have hk3 : Hid ((2 : Int) = if (Gn.digAt st c).2 then 1 else 2) := by rw [hat]; exact unhide hkd'
      have hH3 := hH2
      have p1 := (unhide hH3).here.cell (i := 0) (by omega)
      have p2 := (unhide hH3).here.cell (i := 1) (by omega)
      have p3 := (unhide hH3).goal.cell (i := 0) (by omega)
      have p4 := (unhide hH3).goal.cell (i := 1) (by omega)
      simp only [ite_true, Nat.one_ne_zero, ite_false] at p1 p2 p3 p4
      clear hwall hat hA2 hH2
      by_cases hend : x0 = tx ∧ y0 = ty
      · obtain ⟨hex, hey⟩ := hend
        have q1 : (x0 == tx) = true := by simpa using hex
        have q2 : (y0 == ty) = true := by simpa using hey
        have hf : Hid (Arr wn G 5 384 (Byts fin)) := by
          have h := unhide hA3
          rw [← Gn.run_end (first := first) hex hey (unhide hc'), unhide hrun'] at h
          exact h
        clear hex hey
        go_wp2
        simp only [Exit.jump]
        refine bodyPost_ret (results_none rfl _ _ _) rfl ?_
        exact ⟨rfl, unhide hf, (unhide hH3).grown⟩
      · have hon := Gn.run_on (first := first) (st := st) hend (unhide hc')
        rw [← Gn.step_less x0 y0 tx ty first hend] at hrun'
        have hrun2 := unhide hrun'
        rw [Gn.step_less x0 y0 tx ty first hend, hon] at hrun2
        have hrun3 := hide hrun2
        have hles := hide (Gn.step_less x0 y0 tx ty first hend)
        have hbd := Gn.step_bd x0 y0 tx ty first ⟨⟨b1, b2⟩, b3, b4⟩ (unhide ht')
        have hbd' := hide hbd
        obtain ⟨nx, hnx⟩ : ∃ nx, nx = Gn.stepX x0 y0 tx ty first := ⟨_, rfl⟩
        obtain ⟨ny, hny⟩ : ∃ ny, ny = Gn.stepY x0 y0 tx ty first := ⟨_, rfl⟩
        rw [← hnx, ← hny] at hrun3 hles hbd'
        have hcall := fun w' => nearer_any x0 y0 tx ty first w' (by omega) (by omega) (by omega) (by omega)
        rw [← hnx, ← hny] at hcall
        have hcall' := hide hcall
        clear hon hrun2 hbd hnx hny hcall
        have hq : (x0 == tx) = false ∨ ((x0 == tx) = true ∧ (y0 == ty) = false) := by
          by_cases hx : x0 = tx
          · right
            exact ⟨by simpa using hx, by simpa using fun h => hend ⟨hx, h⟩⟩
          · left
            simpa using hx
        clear hend
        rcases hq with q1 | ⟨q1, q2⟩
        all_goals
          go_wp2_with fail
          refine (unhide hcall' _).mono ?_
          rintro e wv ⟨rfl, hgv⟩
          have hA4 := hide ((unhide hA3).grown hgv (by simp))
          have hH4 := hide ((unhide hH3).on hgv)
          have z1 := (unhide hH4).here.cell (i := 0) (by omega)
          have z2 := (unhide hH4).here.cell (i := 1) (by omega)
          have z3 := (unhide hH4).here.free 0
          have z4 := (unhide hH4).here.free 1
          clear hgv
          go_wp2_with fail
          go_step3
          exact ⟨rfl, Gn.steps nx ny tx ty,  nx, ny, _, Gn.digAt st c, _, _, _, _, _, _, _, _, _, _, _, _, _, _, _, _, _, _, _, _, _, rfl, unhide hbd', unhide hst5, (unhide hA4).grown (grown_set (grown_put _ _ _ _) _ _) (by simp; omega), (unhide hH4).move nx ny, rfl, unhide hrun3, unhide hk3⟩
  · rintro m a' w2 ⟨x, y, kd, st, u4, u7, u9, u10, u11, u12, u13, u14, u15, u16, u17, u18, u19, u20, u21, u22, u23, u24, u25, u26, u27, rfl, hb, hs5, hA, hH, rfl, hrun, hkd⟩
    obtain ⟨⟨b1, b2⟩, b3, b4⟩ := hb
    have hH1 := hide hH
    have hA1 := hide hA
    have hs5' := hide hs5
    have hrun' := hide hrun
    have hkd' := hide hkd
    clear hA hH hs5 hrun hkd hA' h5' hfin'
    have p1 := (unhide hH1).here.cell (i := 0) (by omega)
    have p2 := (unhide hH1).here.cell (i := 1) (by omega)
    simp only [ite_true, Nat.one_ne_zero, ite_false] at p1 p2
    go_wp2_with fail
    refine (num_any x y _ (by omega) (by omega) (by omega) (by omega)).mono ?_
    rintro e wn ⟨rfl, hgn⟩
    obtain ⟨c, hc⟩ : ∃ c : Nat, y * 24 + x = (c : Int) := ⟨(y * 24 + x).toNat, by omega⟩
    have hcl : c < 384 := by omega
    have hA2 := hide ((unhide hA1).grown hgn (by simp))
    have hH2 := hide ((unhide hH1).on hgn)
    rw [hc]
    have hcc : wn.cell? ⟨G, c, none⟩ = some (.int .u8 (st.1 c)) := (unhide hA2).cell hcl
    have hcf := (unhide hA2).free c
    have hc2 : (c : Int) < 384 := by omega
    have hc' := hide hc
    have hst5 := hide (Gn.digAt_5 (k := c) (unhide hs5'))
    clear hgn hA1 hH1 p1 p2 hc
    by_cases hwall : st.1 c = 0
    · have hw0 : (st.1 c == 0) = true := by simpa using hwall
      have hat := Gn.at_wall hwall
      rw [← unhide hkd'] at hat
      have hA3 : Hid (Arr (wn.setCell ⟨G, c, none⟩ (.int .u8 kd)) G 5 384 (Byts (Gn.digAt st c).1)) := by rw [hat]; exact (unhide hA2).byte c _
      have hk3 : Hid ((1 : Int) = if (Gn.digAt st c).2 then 1 else 2) := by rw [hat]; rfl
      have hH3 := hide ((unhide hH2).put hG c (.int .u8 kd))
      obtain ⟨wm, hwm⟩ : ∃ wm, wm = wn.setCell ⟨G, c, none⟩ (.int .u8 kd) := ⟨_, rfl⟩
      rw [← hwm] at hA3 hH3
      have p1 := (unhide hH3).here.cell (i := 0) (by omega)
      have p2 := (unhide hH3).here.cell (i := 1) (by omega)
      have p3 := (unhide hH3).goal.cell (i := 0) (by omega)
      have p4 := (unhide hH3).goal.cell (i := 1) (by omega)
      simp only [ite_true, Nat.one_ne_zero, ite_false] at p1 p2 p3 p4
      clear hwall hat hA2 hH2
      have hww := hwm.symm
      clear hwm
      by_cases hend : x = tx ∧ y = ty
      · obtain ⟨hex, hey⟩ := hend
        have q1 : (x == tx) = true := by simpa using hex
        have q2 : (y == ty) = true := by simpa using hey
        have hf : Hid (Arr wm G 5 384 (Byts fin)) := by
          have h := unhide hA3
          rw [← Gn.run_end (first := first) hex hey (unhide hc'), unhide hrun'] at h
          exact h
        clear hex hey
        go_wp2
        simp only [Exit.jump]
        refine bodyPost_ret (results_none rfl _ _ _) rfl ?_
        exact ⟨rfl, unhide hf, (unhide hH3).grown⟩
      · have hon := Gn.run_on (first := first) (st := st) hend (unhide hc')
        rw [← Gn.step_less x y tx ty first hend] at hrun'
        have hrun2 := unhide hrun'
        rw [Gn.step_less x y tx ty first hend, hon] at hrun2
        have hrun3 := hide hrun2
        have hles := hide (Gn.step_less x y tx ty first hend)
        have hbd := Gn.step_bd x y tx ty first ⟨⟨b1, b2⟩, b3, b4⟩ (unhide ht')
        have hbd' := hide hbd
        obtain ⟨nx, hnx⟩ : ∃ nx, nx = Gn.stepX x y tx ty first := ⟨_, rfl⟩
        obtain ⟨ny, hny⟩ : ∃ ny, ny = Gn.stepY x y tx ty first := ⟨_, rfl⟩
        rw [← hnx, ← hny] at hrun3 hles hbd'
        have hcall := fun w' => nearer_any x y tx ty first w' (by omega) (by omega) (by omega) (by omega)
        rw [← hnx, ← hny] at hcall
        have hcall' := hide hcall
        clear hon hrun2 hbd hnx hny hcall
        have hq : (x == tx) = false ∨ ((x == tx) = true ∧ (y == ty) = false) := by
          by_cases hx : x = tx
          · right
            exact ⟨by simpa using hx, by simpa using fun h => hend ⟨hx, h⟩⟩
          · left
            simpa using hx
        clear hend
        rcases hq with q1 | ⟨q1, q2⟩
        all_goals
          go_wp2_with fail
          refine (unhide hcall' _).mono ?_
          rintro e wv ⟨rfl, hgv⟩
          have hA4 := hide ((unhide hA3).grown hgv (by simp))
          have hH4 := hide ((unhide hH3).on hgv)
          have z1 := (unhide hH4).here.cell (i := 0) (by omega)
          have z2 := (unhide hH4).here.cell (i := 1) (by omega)
          have z3 := (unhide hH4).here.free 0
          have z4 := (unhide hH4).here.free 1
          clear hgv
          go_wp2_with fail
          go_step3
          exact ⟨rfl, Gn.steps nx ny tx ty, by have := unhide hles; omega, nx, ny, _, Gn.digAt st c, _, _, _, _, _, _, _, _, _, _, _, _, _, _, _, _, _, _, _, _, _, rfl, unhide hbd', unhide hst5, (unhide hA4).grown (grown_set (grown_put _ _ _ _) _ _) (by simp; omega), (unhide hH4).move nx ny, rfl, unhide hrun3, unhide hk3⟩
    · have hw0 : (st.1 c == 0) = false := by simpa using hwall
      have hat := Gn.at_free hwall
      have hA3 : Hid (Arr wn G 5 384 (Byts (Gn.digAt st c).1)) := by rw [hat]; exact unhide hA2
      have hk3 : Hid ((kd : Int) = if (Gn.digAt st c).2 then 1 else 2) := by rw [hat]; exact unhide hkd'
      have hH3 := hH2
      have p1 := (unhide hH3).here.cell (i := 0) (by omega)
      have p2 := (unhide hH3).here.cell (i := 1) (by omega)
      have p3 := (unhide hH3).goal.cell (i := 0) (by omega)
      have p4 := (unhide hH3).goal.cell (i := 1) (by omega)
      simp only [ite_true, Nat.one_ne_zero, ite_false] at p1 p2 p3 p4
      clear hwall hat hA2 hH2
      by_cases hend : x = tx ∧ y = ty
      · obtain ⟨hex, hey⟩ := hend
        have q1 : (x == tx) = true := by simpa using hex
        have q2 : (y == ty) = true := by simpa using hey
        have hf : Hid (Arr wn G 5 384 (Byts fin)) := by
          have h := unhide hA3
          rw [← Gn.run_end (first := first) hex hey (unhide hc'), unhide hrun'] at h
          exact h
        clear hex hey
        go_wp2
        simp only [Exit.jump]
        refine bodyPost_ret (results_none rfl _ _ _) rfl ?_
        exact ⟨rfl, unhide hf, (unhide hH3).grown⟩
      · have hon := Gn.run_on (first := first) (st := st) hend (unhide hc')
        rw [← Gn.step_less x y tx ty first hend] at hrun'
        have hrun2 := unhide hrun'
        rw [Gn.step_less x y tx ty first hend, hon] at hrun2
        have hrun3 := hide hrun2
        have hles := hide (Gn.step_less x y tx ty first hend)
        have hbd := Gn.step_bd x y tx ty first ⟨⟨b1, b2⟩, b3, b4⟩ (unhide ht')
        have hbd' := hide hbd
        obtain ⟨nx, hnx⟩ : ∃ nx, nx = Gn.stepX x y tx ty first := ⟨_, rfl⟩
        obtain ⟨ny, hny⟩ : ∃ ny, ny = Gn.stepY x y tx ty first := ⟨_, rfl⟩
        rw [← hnx, ← hny] at hrun3 hles hbd'
        have hcall := fun w' => nearer_any x y tx ty first w' (by omega) (by omega) (by omega) (by omega)
        rw [← hnx, ← hny] at hcall
        have hcall' := hide hcall
        clear hon hrun2 hbd hnx hny hcall
        have hq : (x == tx) = false ∨ ((x == tx) = true ∧ (y == ty) = false) := by
          by_cases hx : x = tx
          · right
            exact ⟨by simpa using hx, by simpa using fun h => hend ⟨hx, h⟩⟩
          · left
            simpa using hx
        clear hend
        rcases hq with q1 | ⟨q1, q2⟩
        all_goals
          go_wp2_with fail
          refine (unhide hcall' _).mono ?_
          rintro e wv ⟨rfl, hgv⟩
          have hA4 := hide ((unhide hA3).grown hgv (by simp))
          have hH4 := hide ((unhide hH3).on hgv)
          have z1 := (unhide hH4).here.cell (i := 0) (by omega)
          have z2 := (unhide hH4).here.cell (i := 1) (by omega)
          have z3 := (unhide hH4).here.free 0
          have z4 := (unhide hH4).here.free 1
          clear hgv
          go_wp2_with fail
          go_step3
          exact ⟨rfl, Gn.steps nx ny tx ty, by have := unhide hles; omega, nx, ny, _, Gn.digAt st c, _, _, _, _, _, _, _, _, _, _, _, _, _, _, _, _, _, _, _, _, _, rfl, unhide hbd', unhide hst5, (unhide hA4).grown (grown_set (grown_put _ _ _ _) _ _) (by simp; omega), (unhide hH4).move nx ny, rfl, unhide hrun3, unhide hk3⟩

end Go.Proofs.YtbanjoflgoiegaaGreat
