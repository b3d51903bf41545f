/-
  Where entities stand, cell by cell: what nav's taken makes of a list.
-/
import Derived.Test.YthofgjphoahkfaaNavSmall
import Derived.Test.YthofgjphoahkfaaEntLow
import Derived.Test.YthofgjphoahkfaaGridSee
namespace Go.Proofs.Ythofgjphoahkfaa
open Go.RowKit

/-- Does an entity stand at a cell? -/
def Nv.st (E : Nat → Nat → Int) (n : Nat) (c : Nat) : Bool := decide (0 ≤ En.first (En.atQ E ((c % 24 : Nat) : Int) ((c / 24 : Nat) : Int)) n)

/-- What is known of it behind the first k rows. -/
def Nv.stTo (E : Nat → Nat → Int) (n : Nat) : Nat → Nat → Bool
  | 0, _ => false
  | k + 1, c => if Nv.num (E k 3) (E k 4) = (c : Int) then decide (0 ≤ En.first (En.atQ E (E k 3) (E k 4)) n) else Nv.stTo E n k c

theorem Nv.num_at {x y : Int} {c : Nat} (h : Nv.num x y = (c : Int)) : x = ((c % 24 : Nat) : Int) ∧ y = ((c / 24 : Nat) : Int) ∧ c < 384 := by
  unfold Nv.num at h
  split at h
  · rename_i hin
    rw [Gr.inB_iff] at hin
    omega
  · omega

theorem Nv.num_of {c : Nat} (hc : c < 384) : Nv.num ((c % 24 : Nat) : Int) ((c / 24 : Nat) : Int) = (c : Int) := by
  unfold Nv.num
  rw [if_pos (by rw [Gr.inB_iff]; omega)]
  omega

theorem Nv.stTo_eq (E : Nat → Nat → Int) (n : Nat) (c : Nat) : ∀ k, (Nv.stTo E n k c = true → Nv.st E n c = true) ∧ ((∃ j, j < k ∧ Nv.num (E j 3) (E j 4) = (c : Int)) → Nv.stTo E n k c = Nv.st E n c)
  | 0 => ⟨fun h => by simp [Nv.stTo] at h, fun ⟨j, h, _⟩ => by omega⟩
  | k + 1 => by
      obtain ⟨h1, h2⟩ := Nv.stTo_eq E n c k
      unfold Nv.stTo
      by_cases e : Nv.num (E k 3) (E k 4) = (c : Int)
      · rw [if_pos e]
        obtain ⟨ex, ey, _⟩ := Nv.num_at e
        have : decide (0 ≤ En.first (En.atQ E (E k 3) (E k 4)) n) = Nv.st E n c := by unfold Nv.st; rw [← ex, ← ey]
        rw [this]
        exact ⟨id, fun _ => rfl⟩
      · rw [if_neg e]
        refine ⟨h1, fun ⟨j, hj, he⟩ => h2 ⟨j, ?_, he⟩⟩
        by_cases ej : j = k
        · subst ej; exact absurd he e
        · omega

theorem Nv.stTo_all (E : Nat → Nat → Int) (n : Nat) (c : Nat) (hc : c < 384) : Nv.stTo E n n c = Nv.st E n c := by
  obtain ⟨h1, h2⟩ := Nv.stTo_eq E n c n
  by_cases h : Nv.st E n c = true
  · refine h2 ?_
    unfold Nv.st at h
    rw [decide_eq_true_eq] at h
    rcases En.first_cases (En.atQ E ((c % 24 : Nat) : Int) ((c / 24 : Nat) : Int)) n with ⟨h0, _⟩ | ⟨k, hk, _, hq, _⟩
    · omega
    · refine ⟨k, hk, ?_⟩
      simp only [En.atQ, Bool.and_eq_true, decide_eq_true_eq] at hq
      rw [hq.2.1, hq.2.2]
      exact Nv.num_of hc
  · have hn : ¬ Nv.stTo E n n c = true := fun e => h (h1 e)
    rw [Bool.not_eq_true] at h hn
    rw [h, hn]

/-- A list of entities: none; or at the head of a block. -/
def Nv.Lst (w : World) (a : Option Addr) (n c : Nat) (E : Nat → Nat → Int) : Prop := n ≤ 32 ∧ n ≤ c ∧ (n = 0 ∨ ∃ b, a = some ⟨b, 0, none⟩ ∧ Ents w b n E)

theorem Nv.Lst.on {w w' : World} {a : Option Addr} {n c : Nat} {E : Nat → Nat → Int} (h : Nv.Lst w a n c E) (hg : w.grownBy w' none) : Nv.Lst w' a n c E := by
  obtain ⟨h1, h2, h3 | ⟨b, e, hE⟩⟩ := h
  · exact ⟨h1, h2, .inl h3⟩
  · exact ⟨h1, h2, .inr ⟨b, e, hE.on hg⟩⟩

/-- Numbers of an int64. -/
def Nv.Words (n : Nat) (E : Nat → Nat → Int) : Prop := ∀ i, i < n → (-9223372036854775808 ≤ E i 3 ∧ E i 3 ≤ 9223372036854775807) ∧ (-9223372036854775808 ≤ E i 4 ∧ E i 4 ≤ 9223372036854775807)

theorem info_bools : (Try.prog.info? 4).map (fun i => (i.zero, i.size, i.bytes)) = some (some (.bool false), 1, 1) := by kernel_rfl

theorem Nv.st_more {E : Nat → Nat → Int} {n k m : Nat} (hm : Nv.num (E k 3) (E k 4) = (m : Int)) (j : Nat) : (if j = m then Value.bool (decide (0 ≤ En.first (En.atQ E (E k 3) (E k 4)) n)) else .bool (Nv.stTo E n k j)) = .bool (Nv.stTo E n (k + 1) j) := by
  show _ = Value.bool (if Nv.num (E k 3) (E k 4) = (j : Int) then _ else _)
  rw [hm]
  by_cases e : j = m
  · rw [if_pos e, if_pos (by omega)]
  · rw [if_neg e, if_neg (by omega)]

theorem Nv.st_same {E : Nat → Nat → Int} {n k : Nat} (hm : Nv.num (E k 3) (E k 4) = -1) (j : Nat) : Nv.stTo E n k j = Nv.stTo E n (k + 1) j := by
  show _ = if Nv.num (E k 3) (E k 4) = (j : Int) then _ else _
  rw [hm, if_neg (by omega)]

theorem Nv.num_cases (x y : Int) : Nv.num x y = -1 ∨ ∃ m : Nat, m < 384 ∧ Nv.num x y = (m : Int) := by
  unfold Nv.num
  by_cases h : Gr.inB x y = true
  · rw [if_pos h]
    rw [Gr.inB_iff] at h
    exact .inr ⟨(y * 24 + x).toNat, by omega, by omega⟩
  · rw [if_neg h]; exact .inl rfl

set_option maxRecDepth 8000 in
set_option maxHeartbeats 1600000 in
theorem taken_any (a : Option Addr) (n c : Nat) (E : Nat → Nat → Int) (w : World) (hL : Nv.Lst w a n c E) (hW : Nv.Words n E) :
    Calls Try.prog 28 #[.slice a n c] w (Made w 4 384 (Bols (Nv.st E n))) := by
  have hn := hL.1
  have hL' := hide hL
  have hW' := hide hW
  obtain ⟨i0, hi, hz0, hz1, hz2⟩ := info_parts info_bools
  clear hL hW
  go_enter Try.func28, Try.ntmps28
  obtain ⟨G, hG⟩ : ∃ G, G = w.heap.size := ⟨_, rfl⟩
  have hG' := hide hG
  clear hG
  go_wp2_with (at_make; refine wpList_make_full _ rfl _ _ 42 rfl G 4 i0 (.bool false) 1 Try.underlying42 hi hz0 hz1 .i64 .i64 _ _ 384 rfl rfl rfl rfl ?q3 ?q4 (Nat.le_of_eq (unhide hG')) ?_)
  case q3 => rw [hz2]; omega
  case q4 => unfold maxLen; omega
  intro w2 hown hgrow
  rw [← unhide hG'] at hown ⊢
  have hA := hide (Arr.zero hown)
  have hB0 : Below G w w2 := (Below.refl _ _).grown hgrow (Nat.le_of_eq (unhide hG')) (by intro k hk; cases hk)
  clear hown hgrow hi hz0 hz1 hz2
  go_wp2_with fail
  go_loopw [10] (fun i wr => ∃ k : Nat, k ≤ n ∧ i = .int .i64 (k : Int) ∧ Arr wr G 4 384 (Bols (Nv.stTo E n k)) ∧ Below G w wr) (fun i _ => 40 - (intOf i).toNat)
  case atStart => exact ⟨0, Nat.zero_le _, rfl, unhide hA, hB0⟩
  case round =>
    obtain ⟨k, hk, rfl, hA1, hB1⟩ := hrel
    have hA2 := hide hA1
    have hB2 := hide hB1
    clear hA1 hA hB0 hB1
    by_cases hlt : k < n
    · obtain ⟨_, hnc, h0 | ⟨b, rfl, hE⟩⟩ := unhide hL'
      · omega
      have hgr : w.grownBy wr none := below_grown (by rw [← unhide hG']; exact unhide hB2)
      obtain ⟨u0, u1, u2, u3, u4, u5, u6, u7, u8, u9, u10⟩ := (hE.on hgr).row hlt
      have hE' := hide (hE.on hgr)
      have hlt' : (k : Int) < (n : Int) := by omega
      have HL := hide hlt
      have hww := hide (unhide hW' k hlt)
      obtain ⟨X, hX⟩ : ∃ X, X = E k 3 := ⟨_, rfl⟩
      obtain ⟨Y, hY⟩ : ∃ Y, Y = E k 4 := ⟨_, rfl⟩
      rw [← hX] at u3
      rw [← hY] at u4
      rw [← hX, ← hY] at hww
      have hX' := hide hX
      have hY' := hide hY
      clear hE hgr hlt hX hY
      go_wp2_with fail
      refine (point_any _ _ _).mono ?_
      rintro e w1 ⟨rfl, rfl⟩
      go_wp2_with fail
      obtain ⟨⟨x1, x2⟩, y1, y2⟩ := unhide hww
      refine (numberAt_any X Y _ x1 x2 y1 y2).mono ?_
      rintro e w1 ⟨rfl, rfl⟩
      clear x1 x2 y1 y2
      clear u0 u1 u2 u3 u4 u5 u6 u7 u8 u9 u10
      rcases Nv.num_cases X Y with hm | ⟨m, hm, hme⟩
      · rw [hm]
        have hs : Hid (∀ j, Nv.stTo E n k j = Nv.stTo E n (k + 1) j) := fun j => Nv.st_same (by rw [← unhide hX', ← unhide hY']; exact hm) j
        clear hm
        go_wp2
        go_roundw
        case rel => exact ⟨k + 1, by have := unhide HL; omega, by go_num, ((unhide hA2).alloc _).congr fun j _ => by show Value.bool _ = Value.bool _; rw [unhide hs j], (unhide hB2).alloc (Nat.le_of_lt (unhide hA2).lt) _⟩
        case measure => have := unhide HL; simp [intOf]; omega
      · rw [hme]
        have hs : Hid (∀ j, (if j = m then Value.bool (decide (0 ≤ En.first (En.atQ E X Y) n)) else .bool (Nv.stTo E n k j)) = .bool (Nv.stTo E n (k + 1) j)) := fun j => by
          rw [unhide hX', unhide hY']
          exact Nv.st_more (by rw [← unhide hX', ← unhide hY']; exact hme) j
        have hm' : (m : Int) < 384 := by omega
        have HM := hide hm
        clear hm hme
        go_wp2_with fail
        refine (entAt_any b n c E X Y _ ((unhide hE').on (World.grownBy_alloc _ _ _)) hnc).mono ?_
        rintro e w1 ⟨rfl, hg⟩
        have hg1 := grown_trans (World.grownBy_alloc _ _ _) hg
        have hA3 := hide ((unhide hA2).grown hg1 (by simp))
        have hB3 : Hid (Below G w w1) := (unhide hB2).trans (none_below hg1 |>.mono (Nat.le_of_lt (unhide hA2).lt))
        have hcc := (unhide hA3).cell (unhide HM)
        have hff := (unhide hA3).free m
        generalize En.first (En.atQ E X Y) n = r at hs
        clear hg hg1
        go_wp2
        go_roundw
        case rel => exact ⟨k + 1, by have := unhide HL; omega, by go_num, ((unhide hA3).store m _).congr fun j _ => unhide hs j, (unhide hB3).setCell (Nat.le_refl _) _⟩
        case measure => have := unhide HL; simp [intOf]; omega
    · have hge : ¬ (k : Int) < (n : Int) := by omega
      obtain rfl : k = n := by omega
      have hA3 := hide ((unhide hA2).congr (G := Bols (Nv.st E k)) fun j hj => by show Value.bool _ = Value.bool _; rw [Nv.stTo_all E k j hj])
      clear hA2 hk hlt
      go_wp2
      go_ret
      exact ⟨G, rfl, Nat.le_of_eq (unhide hG').symm, unhide hA3, by rw [← unhide hG']; exact unhide hB2⟩

end Go.Proofs.Ythofgjphoahkfaa
