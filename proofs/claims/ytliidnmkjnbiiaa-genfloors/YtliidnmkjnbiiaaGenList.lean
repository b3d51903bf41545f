/-
  Lists of cells in a block of the call's own; what slices' DeleteFunc and Delete make of them.
-/
import Derived.Test.YtliidnmkjnbiiaaGenFar
import Derived.Deep.RegionLaw
import Derived.Lib.SliceRun
namespace Go.Proofs.Ytliidnmkjnbiiaa
open Go.RowKit

theorem Lst.form {w : World} {base : Nat} {v : Value} {l : List Nat} (h : Lst w base v l) :
    (v = .slice none 0 0 ∧ l = []) ∨ ∃ g cap F, v = .slice (some ⟨g, 0, none⟩) l.length cap ∧ base ≤ g ∧ Arr w g 3 cap F ∧ l.length ≤ cap ∧ cap ≤ maxLen ∧ ∀ i, i < l.length → F i = .int .i64 ((l[i]?.getD 0 : Nat) : Int) := by
  rcases h.2 with ⟨rfl, h0⟩ | ⟨g, cap, cur, rfl, hb, hg, hn, hm, hs, ht⟩
  · exact .inl ⟨rfl, List.eq_nil_of_length_eq_zero h0⟩
  · refine .inr ⟨g, cap, fun i => cur[i]?.getD undef, rfl, hb, ⟨cur, hg, by omega, fun i hi => ?_⟩, hn, hm, fun i hi => ?_⟩
    · show cur[i]? = some (cur[i]?.getD undef)
      rw [Array.getElem?_eq_getElem (by omega)]
      rfl
    · show cur[i]?.getD undef = _
      have e : (cur.toList.take (l.length * 1))[i]? = ((natInts l).map (Value.int .i64))[i]? := by rw [ht]
      rw [List.getElem?_take, if_pos (by omega), Array.getElem?_toList, List.getElem?_map] at e
      rw [e, ← natInts_at, List.getElem?_eq_getElem (by rw [natInts_len]; exact hi)]
      rfl

theorem Lst.back {w : World} {base g cap : Nat} {l : List Nat} {F : Nat → Value} (hb : base ≤ g) (hA : Arr w g 3 cap F) (hn : l.length ≤ cap) (hm : cap ≤ maxLen) (hF : ∀ i, i < l.length → F i = .int .i64 ((l[i]?.getD 0 : Nat) : Int)) :
    Lst w base (.slice (some ⟨g, 0, none⟩) l.length cap) l := by
  obtain ⟨cur, hg, hs, hc⟩ := hA
  refine ⟨by simp [natInts], .inr ⟨g, cap, cur, rfl, hb, hg, hn, hm, by omega, ?_⟩⟩
  apply List.ext_getElem?
  intro i
  rw [List.getElem?_take, List.getElem?_map, Array.getElem?_toList]
  by_cases hi : i < l.length
  · rw [if_pos (by omega), hc i (by omega), hF i hi, ← natInts_at, List.getElem?_eq_getElem (by rw [natInts_len]; exact hi)]
    rfl
  · rw [if_neg (by omega), List.getElem?_eq_none (by rw [natInts_len]; omega)]
    rfl

theorem Arr.stores {g n : Nat} {T : TypeId} : ∀ (vs : List Value) (o : Nat) (w : World) (F : Nat → Value), Arr w g T n F → Arr (w.setCells g o vs) g T n (fun j => if o ≤ j ∧ j < o + vs.length then vs[j - o]?.getD undef else F j)
  | [], o, w, F, h => h.congr fun j _ => by
      show F j = if o ≤ j ∧ j < o + 0 then _ else F j
      rw [if_neg (by omega)]
  | v :: vs, o, w, F, h => by
      have h1 := Arr.stores vs (o + 1) (w.setCell ⟨g, o, none⟩ v) _ (h.store o v)
      refine Arr.congr h1 fun j _ => ?_
      show (if o + 1 ≤ j ∧ j < o + 1 + vs.length then vs[j - (o + 1)]?.getD undef else if j = o then v else F j) = if o ≤ j ∧ j < o + (vs.length + 1) then (v :: vs)[j - o]?.getD undef else F j
      by_cases e : j = o
      · rw [if_neg (by omega), if_pos e, if_pos (by omega), e, Nat.sub_self]
        rfl
      · by_cases e2 : o + 1 ≤ j ∧ j < o + 1 + vs.length
        · rw [if_pos e2, if_pos (by omega), show j - o = (j - (o + 1)) + 1 by omega]
          rfl
        · rw [if_neg e2, if_neg e, if_neg (by omega)]

theorem grown_sets {a : World} {g : Nat} : ∀ (vs : List Value) (o : Nat) (b : World), a.grownBy b (some g) → a.grownBy (b.setCells g o vs) (some g)
  | [], _, _, h => h
  | v :: vs, o, b, h => grown_sets vs (o + 1) (b.setCell ⟨g, o, none⟩ v) (grown_set h o v)

/-- Is a cell four steps away, or more? -/
def Gn.afar (F : Nat → Int) (c : Nat) : Bool := !(decide (F c < 4))

theorem del_any (F : Nat → Int) (gF Bx c : Nat) (w : World) (hx : w.cell? ⟨Bx, 0, none⟩ = some (.slice (some ⟨gF, 0, none⟩) 384 384)) (hF : Arr w gF 3 384 (Ints F)) (hc : c < 384) :
    Calls Try.prog 36 #[.int .i64 (c : Int), .pointer (some ⟨Bx, 0, none⟩)] w fun e w' => e = .returned (.bool (decide (F c < 4))) ∧ w' = w := by
  have q : w.cell? ⟨gF, c, none⟩ = some (.int .i64 (F c)) := hF.cell hc
  have hc' : (c : Int) < 384 := by omega
  clear hF
  go_enter Try.func36, Try.ntmps36
  go_wp2
  go_ret
  exact ⟨rfl, rfl⟩

set_option maxHeartbeats 800000 in
theorem indexFunc_any (F : Nat → Int) (gF Bx g cap : Nat) (l : List Nat) (w : World) (H : Nat → Value) (hx : w.cell? ⟨Bx, 0, none⟩ = some (.slice (some ⟨gF, 0, none⟩) 384 384)) (hF : Arr w gF 3 384 (Ints F))
    (hA : Arr w g 3 cap H) (hl : l.length ≤ cap) (hn : l.length ≤ 384) (hH : ∀ i, i < l.length → H i = .int .i64 ((l[i]?.getD 0 : Nat) : Int)) (hc : ∀ i, i < l.length → l[i]?.getD 0 < 384) (r : Int)
    (hr : (r = -1 ∧ ∀ i, i < l.length → Gn.afar F (l[i]?.getD 0) = true) ∨ ∃ m : Nat, r = (m : Int) ∧ m < l.length ∧ Gn.afar F (l[m]?.getD 0) = false ∧ ∀ i, i < m → Gn.afar F (l[i]?.getD 0) = true) :
    Calls Try.prog 46 #[.slice (some ⟨g, 0, none⟩) l.length cap, .func (.func 36) #[] #[.pointer (some ⟨Bx, 0, none⟩)]] w fun e w' => e = .returned (.int .i64 r) ∧ w' = w := by
  have cd : Hid (∀ c : Nat, c < 384 → Calls Try.prog 36 #[.int .i64 (c : Int), .pointer (some ⟨Bx, 0, none⟩)] w fun e w' => e = .returned (.bool (decide (F c < 4))) ∧ w' = w) := fun c h => del_any F gF Bx c w hx hF h
  have hA' := hide hA
  have hH' := hide hH
  have hc' := hide hc
  have hr' := hide hr
  obtain ⟨n, hnn⟩ : ∃ n, n = l.length := ⟨_, rfl⟩
  rw [← hnn] at hl hn ⊢
  have hn' := hide hnn
  clear hA hH hc hx hF hnn hr
  go_enter Try.func46, Try.ntmps46
  go_wp2_with fail
  go_loop [8] (fun i => ∃ k : Nat, k ≤ n ∧ i = .int .i64 (k : Int) ∧ ∀ j, j < k → Gn.afar F (l[j]?.getD 0) = true) (fun i => 400 - (intOf i).toNat)
  case atStart => exact ⟨0, by omega, rfl, fun j hj => by omega⟩
  case round =>
    obtain ⟨k, hk, rfl, hno⟩ := hrel
    have hno' := hide hno
    clear hno
    by_cases hlt : k < n
    · have hkl : k < l.length := by have := unhide hn'; omega
      obtain ⟨c, hcd⟩ : ∃ c, c = l[k]?.getD 0 := ⟨_, rfl⟩
      have q : w.cell? ⟨g, k, none⟩ = some (.int .i64 (c : Int)) := by rw [(unhide hA').cell (by omega), unhide hH' k hkl, hcd]
      have hc384 : c < 384 := by rw [hcd]; exact unhide hc' k hkl
      have hlt' : (k : Int) < (n : Int) := by omega
      have hcd' := hide hcd
      have HL := hide hlt
      have HK := hide hkl
      clear hcd hlt hkl
      go_wp2_with fail
      refine (unhide cd c hc384).mono ?_
      rintro e w' ⟨rfl, hw⟩
      subst w'
      by_cases hF4 : F c < 4
      · have he : Hid (r = (k : Int)) := by
          have ha : Gn.afar F (l[k]?.getD 0) = false := by rw [← unhide hcd']; simp [Gn.afar, hF4]
          rcases unhide hr' with ⟨_, h⟩ | ⟨m, hm, hml, hmf, hma⟩
          · have := h k (unhide HK); rw [ha] at this; cases this
          · rcases Nat.lt_trichotomy k m with g | g | g
            · have := hma k g; rw [ha] at this; cases this
            · show r = _
              rw [hm, g]
            · have := unhide hno' m g; rw [hmf] at this; cases this
        go_wp2
        go_ret
        exact ⟨ret_int (unhide he).symm, rfl⟩
      · have ha : Hid (Gn.afar F (l[k]?.getD 0) = true) := by show Gn.afar F (l[k]?.getD 0) = true; rw [← unhide hcd']; simp [Gn.afar]; omega
        go_wp2
        go_round
        case rel =>
          refine ⟨k + 1, by have := unhide HL; omega, by go_num, fun j hj => ?_⟩
          by_cases hjk : j = k
          · subst hjk; exact unhide ha
          · exact unhide hno' j (by omega)
        case measure => simp [intOf]; omega
    · have hge : ¬ (k : Int) < (n : Int) := by omega
      have hkn : k = l.length := by have := unhide hn'; omega
      have he : Hid (r = -1) := by
        rcases unhide hr' with ⟨h, _⟩ | ⟨m, hm, hml, hmf, hma⟩
        · exact h
        · have := unhide hno' m (by omega); rw [hmf] at this; cases this
      clear hkn
      go_wp2
      go_ret
      exact ⟨ret_int (unhide he).symm, rfl⟩

end Go.Proofs.Ytliidnmkjnbiiaa
