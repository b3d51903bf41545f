/-
  The first row that is asked for, in ents: the test by an id, and the search itself, once for each of its tests.
  What a fresh entity of a kind is, in both packages.
  What follows of a floor, as numbers: its walls, its doors, and that all of it hangs together.
  What a floor holds: one up stair, one down stair, a shop at most, five doors at most, walls about it; what its field tells.
  The law package's own 'known' and 'within'.
-/
import Derived.Test.YtbploaihicakeaaPart08
import Derived.BigQuiet
namespace Go.Proofs.Ytbploaihicakeaa
open Go.RowKit

theorem En.atQ_free {E : Nat → Nat → Int} {x y : Int} {k : Nat} (h : E k 0 = 0) : En.atQ E x y k = false := by simp [En.atQ, h]
theorem En.atQ_some {E : Nat → Nat → Int} {x y : Int} {k : Nat} (h : ¬ E k 0 = 0) : En.atQ E x y k = (decide (E k 3 = x) && decide (E k 4 = y)) := by simp [En.atQ, h]
theorem En.heroQ_free {E : Nat → Nat → Int} {s : Int} {k : Nat} (h : E k 0 = 0) : En.heroQ E s k = false := by simp [En.heroQ, h]
theorem En.heroQ_some {E : Nat → Nat → Int} {s : Int} {k : Nat} (_ : ¬ E k 0 = 0) : En.heroQ E s k = (decide (E k 0 = 1) && decide (E k 2 = s)) := rfl
theorem En.ofQ_free {E : Nat → Nat → Int} {id : Int} {k : Nat} (h : E k 0 = 0) : En.ofQ E id k = false := by simp [En.ofQ, h]
theorem En.ofQ_some {E : Nat → Nat → Int} {id : Int} {k : Nat} (h : ¬ E k 0 = 0) : En.ofQ E id k = decide ((k : Int) + 32 * E k 1 = id) := by simp [En.ofQ, h]


set_option maxHeartbeats 1600000 in
theorem lowAt_any (b n c p0 p1 p2 : Nat) (E : Nat → Nat → Int) (x y : Int) (w : World) (hE : Ents w b n E) (hc : n ≤ c) (hp0 : w.cell? ⟨p0, 0, none⟩ = some (.slice (some ⟨b, 0, none⟩) n c)) (hp1 : w.cell? ⟨p1, 0, none⟩ = some (.int .i64 x)) (hp2 : w.cell? ⟨p2, 0, none⟩ = some (.int .i64 y)) (hl0 : p0 < w.heap.size) (hl1 : p1 < w.heap.size) (hl2 : p2 < w.heap.size) :
    Calls Try.prog 48 #[.slice (some ⟨b, 0, none⟩) n c, .func (.func 101) #[] #[.pointer (some ⟨p0, 0, none⟩), .pointer (some ⟨p1, 0, none⟩), .pointer (some ⟨p2, 0, none⟩)]] w (Says w (.int .i64 (En.first (En.atQ E x y) n))) := by
  have hn := hE.1
  have cd : Hid (∀ wx, w.grownBy wx none → ∀ k : Nat, k < n → Calls Try.prog 101 #[.int .i64 (k : Int), .pointer (some ⟨p0, 0, none⟩), .pointer (some ⟨p1, 0, none⟩), .pointer (some ⟨p2, 0, none⟩)] wx (Says wx (.bool (decide (E k 3 = x) && decide (E k 4 = y))))) := fun wx hg k hk =>
    atC_any b n c p0 p1 p2 k E x y wx (hE.on hg) hk ((grown_cell hg p0 0 hl0 (by simp)).trans hp0) ((grown_cell hg p1 0 hl1 (by simp)).trans hp1) ((grown_cell hg p2 0 hl2 (by simp)).trans hp2)
  have hE' := hide hE
  clear hE hp0 hl0 hp1 hl1 hp2 hl2
  go_enter Try.func48, Try.ntmps48
  go_wp2_with (go_at_call 58; refine (rows_any _ _ _ _ hn hc).mono ?_; rintro e w' ⟨rfl, hw⟩; subst w')
  go_loopw [10] (fun i wr => ∃ k : Nat, k ≤ n ∧ i = .int .i64 (k : Int) ∧ (∀ j, j < k → En.atQ E x y j = false) ∧ w.grownBy wr none) (fun i _ => 40 - (intOf i).toNat)
  case atStart => exact ⟨0, by omega, rfl, fun j hj => by omega, World.grownBy.refl _ _⟩
  case round =>
    obtain ⟨k, hk, rfl, hno, hgr⟩ := hrel
    have hno' := hide hno
    have hgr' := hide hgr
    clear hno hgr
    by_cases hlt : k < n
    · obtain ⟨u0, u1, u2, u3, u4, u5, u6, u7, u8, u9, u10⟩ := ((unhide hE').on (unhide hgr')).row hlt
      have hlt' : (k : Int) < (n : Int) := by omega
      have HL := hide hlt
      clear hlt
      go_wp2_with fail
      refine (isFree_any (E k) _).mono ?_
      rintro e w1 ⟨rfl, hg0⟩
      have hg1 := grown_trans (unhide hgr') (grown_trans (World.grownBy_alloc _ _ _) hg0)
      have hgr1 := hide hg1
      clear u0 u1 u2 u3 u4 u5 u6 u7 u8 u9 u10 hg0
      by_cases hf : E k 0 = 0
      · have hq : Hid (En.atQ E x y k = false) := En.atQ_free hf
        rw [decide_eq_true hf]
        clear hf hg1
        go_wp2
        go_roundw
        case rel => exact ⟨k + 1, by have := unhide HL; omega, by go_num, fun j hj => by
          by_cases e : j = k
          · rw [e]; exact unhide hq
          · exact unhide hno' j (by omega), unhide hgr1⟩
        case measure => simp [intOf]; omega
      · have hq : Hid (En.atQ E x y k = (decide (E k 3 = x) && decide (E k 4 = y))) := En.atQ_some hf
        have hf0 := hide hf
        rw [decide_eq_false hf]
        have cdk := hide (unhide cd w1 hg1 k (unhide HL))
        obtain ⟨r, hr⟩ : ∃ r : Bool, r = (decide (E k 3 = x) && decide (E k 4 = y)) := ⟨_, rfl⟩
        rw [← hr] at cdk hq
        clear hf hg1 hr
        go_wp2_with fail
        refine (unhide cdk).mono ?_
        rintro e w2 ⟨rfl, hg2⟩
        have hgr2 := hide (grown_trans (unhide hgr1) hg2)
        clear hg2 cdk
        cases r
        · go_wp2
          go_roundw
          case rel => exact ⟨k + 1, by have := unhide HL; omega, by go_num, fun j hj => by
            by_cases e : j = k
            · rw [e]; exact unhide hq
            · exact unhide hno' j (by omega), unhide hgr2⟩
          case measure => simp [intOf]; omega
        · have he := hide (En.first_hit (unhide hno') (unhide hq) (unhide HL))
          go_wp2
          go_ret
          exact ⟨ret_int (unhide he).symm, unhide hgr2⟩
    · have hge : ¬ (k : Int) < (n : Int) := by omega
      have he := hide (En.first_none (n := n) (fun j hj => unhide hno' j (by omega)))
      go_wp2
      go_ret
      exact ⟨ret_int (unhide he).symm, unhide hgr'⟩


set_option maxHeartbeats 1600000 in
theorem lowHero_any (b n c p0 p1 : Nat) (E : Nat → Nat → Int) (seat : Int) (w : World) (hE : Ents w b n E) (hc : n ≤ c) (hp0 : w.cell? ⟨p0, 0, none⟩ = some (.slice (some ⟨b, 0, none⟩) n c)) (hp1 : w.cell? ⟨p1, 0, none⟩ = some (.int .i64 seat)) (hl0 : p0 < w.heap.size) (hl1 : p1 < w.heap.size) :
    Calls Try.prog 48 #[.slice (some ⟨b, 0, none⟩) n c, .func (.func 49) #[] #[.pointer (some ⟨p0, 0, none⟩), .pointer (some ⟨p1, 0, none⟩)]] w (Says w (.int .i64 (En.first (En.heroQ E seat) n))) := by
  have hn := hE.1
  have cd : Hid (∀ wx, w.grownBy wx none → ∀ k : Nat, k < n → Calls Try.prog 49 #[.int .i64 (k : Int), .pointer (some ⟨p0, 0, none⟩), .pointer (some ⟨p1, 0, none⟩)] wx (Says wx (.bool (decide (E k 0 = 1) && decide (E k 2 = seat))))) := fun wx hg k hk =>
    heroC_any b n c p0 p1 k E seat wx (hE.on hg) hk ((grown_cell hg p0 0 hl0 (by simp)).trans hp0) ((grown_cell hg p1 0 hl1 (by simp)).trans hp1)
  have hE' := hide hE
  clear hE hp0 hl0 hp1 hl1
  go_enter Try.func48, Try.ntmps48
  go_wp2_with (go_at_call 58; refine (rows_any _ _ _ _ hn hc).mono ?_; rintro e w' ⟨rfl, hw⟩; subst w')
  go_loopw [10] (fun i wr => ∃ k : Nat, k ≤ n ∧ i = .int .i64 (k : Int) ∧ (∀ j, j < k → En.heroQ E seat j = false) ∧ w.grownBy wr none) (fun i _ => 40 - (intOf i).toNat)
  case atStart => exact ⟨0, by omega, rfl, fun j hj => by omega, World.grownBy.refl _ _⟩
  case round =>
    obtain ⟨k, hk, rfl, hno, hgr⟩ := hrel
    have hno' := hide hno
    have hgr' := hide hgr
    clear hno hgr
    by_cases hlt : k < n
    · obtain ⟨u0, u1, u2, u3, u4, u5, u6, u7, u8, u9, u10⟩ := ((unhide hE').on (unhide hgr')).row hlt
      have hlt' : (k : Int) < (n : Int) := by omega
      have HL := hide hlt
      clear hlt
      go_wp2_with fail
      refine (isFree_any (E k) _).mono ?_
      rintro e w1 ⟨rfl, hg0⟩
      have hg1 := grown_trans (unhide hgr') (grown_trans (World.grownBy_alloc _ _ _) hg0)
      have hgr1 := hide hg1
      clear u0 u1 u2 u3 u4 u5 u6 u7 u8 u9 u10 hg0
      by_cases hf : E k 0 = 0
      · have hq : Hid (En.heroQ E seat k = false) := En.heroQ_free hf
        rw [decide_eq_true hf]
        clear hf hg1
        go_wp2
        go_roundw
        case rel => exact ⟨k + 1, by have := unhide HL; omega, by go_num, fun j hj => by
          by_cases e : j = k
          · rw [e]; exact unhide hq
          · exact unhide hno' j (by omega), unhide hgr1⟩
        case measure => simp [intOf]; omega
      · have hq : Hid (En.heroQ E seat k = (decide (E k 0 = 1) && decide (E k 2 = seat))) := En.heroQ_some hf
        have hf0 := hide hf
        rw [decide_eq_false hf]
        have cdk := hide (unhide cd w1 hg1 k (unhide HL))
        obtain ⟨r, hr⟩ : ∃ r : Bool, r = (decide (E k 0 = 1) && decide (E k 2 = seat)) := ⟨_, rfl⟩
        rw [← hr] at cdk hq
        clear hf hg1 hr
        go_wp2_with fail
        refine (unhide cdk).mono ?_
        rintro e w2 ⟨rfl, hg2⟩
        have hgr2 := hide (grown_trans (unhide hgr1) hg2)
        clear hg2 cdk
        cases r
        · go_wp2
          go_roundw
          case rel => exact ⟨k + 1, by have := unhide HL; omega, by go_num, fun j hj => by
            by_cases e : j = k
            · rw [e]; exact unhide hq
            · exact unhide hno' j (by omega), unhide hgr2⟩
          case measure => simp [intOf]; omega
        · have he := hide (En.first_hit (unhide hno') (unhide hq) (unhide HL))
          go_wp2
          go_ret
          exact ⟨ret_int (unhide he).symm, unhide hgr2⟩
    · have hge : ¬ (k : Int) < (n : Int) := by omega
      have he := hide (En.first_none (n := n) (fun j hj => unhide hno' j (by omega)))
      go_wp2
      go_ret
      exact ⟨ret_int (unhide he).symm, unhide hgr'⟩

theorem entAt_any (b n c : Nat) (E : Nat → Nat → Int) (x y : Int) (w : World) (hE : Ents w b n E) (hc : n ≤ c) :
    Calls Try.prog 87 #[.slice (some ⟨b, 0, none⟩) n c, .int .i64 x, .int .i64 y] w (Says w (.int .i64 (En.first (En.atQ E x y) n))) := by
  obtain ⟨W, hW⟩ : ∃ W, W = (((w.alloc (.cells #[.slice (some ⟨b, 0, none⟩) n c] 26)).alloc (.cells #[.int .i64 x] 3)).alloc (.cells #[.int .i64 y] 3)) := ⟨_, rfl⟩
  have hg : w.grownBy W none := by
    rw [hW]
    repeat (refine grown_alloc ?_ _)
    exact World.grownBy.refl _ _
  have hs : W.heap.size = w.heap.size + 3 := by rw [hW]; simp
  have q0 : W.cell? ⟨w.heap.size, 0, none⟩ = some (.slice (some ⟨b, 0, none⟩) n c) := by rw [hW]; exact cell_past _ (by simp; omega) (cell_past _ (by simp) (cell_boxed _ _ _ _ rfl))
  have q1 : W.cell? ⟨w.heap.size + 1, 0, none⟩ = some (.int .i64 x) := by rw [hW]; exact cell_past _ (by simp) (cell_boxed _ _ _ _ (by simp))
  have q2 : W.cell? ⟨w.heap.size + 2, 0, none⟩ = some (.int .i64 y) := by rw [hW]; exact cell_boxed _ _ _ _ (by simp)
  have hl := hide (lowAt_any b n c w.heap.size (w.heap.size + 1) (w.heap.size + 2) E x y W (hE.on hg) hc q0 q1 q2 (by omega) (by omega) (by omega))
  have hg' := hide hg
  have hW' := hide hW
  clear hE hW hg hs q0 q1 q2
  go_enter Try.func87, Try.ntmps87
  go_wp2_with fail
  rw [← unhide hW']
  refine (unhide hl).mono ?_
  rintro e w1 ⟨rfl, hg1⟩
  have hg2 := hide (grown_trans (unhide hg') hg1)
  clear hg1
  go_wp2
  go_ret
  exact ⟨rfl, unhide hg2⟩

theorem hero_any (b n c : Nat) (E : Nat → Nat → Int) (seat : Int) (w : World) (hE : Ents w b n E) (hc : n ≤ c) :
    Calls Try.prog 36 #[.slice (some ⟨b, 0, none⟩) n c, .int .i64 seat] w (Says w (.int .i64 (En.first (En.heroQ E seat) n))) := by
  obtain ⟨W, hW⟩ : ∃ W, W = ((w.alloc (.cells #[.slice (some ⟨b, 0, none⟩) n c] 26)).alloc (.cells #[.int .i64 seat] 3)) := ⟨_, rfl⟩
  have hg : w.grownBy W none := by
    rw [hW]
    repeat (refine grown_alloc ?_ _)
    exact World.grownBy.refl _ _
  have hs : W.heap.size = w.heap.size + 2 := by rw [hW]; simp
  have q0 : W.cell? ⟨w.heap.size, 0, none⟩ = some (.slice (some ⟨b, 0, none⟩) n c) := by rw [hW]; simp
  have q1 : W.cell? ⟨w.heap.size + 1, 0, none⟩ = some (.int .i64 seat) := by rw [hW]; simp
  have hl := hide (lowHero_any b n c w.heap.size (w.heap.size + 1) E seat W (hE.on hg) hc q0 q1 (by omega) (by omega))
  have hg' := hide hg
  have hW' := hide hW
  clear hE hW hg hs q0 q1
  go_enter Try.func36, Try.ntmps36
  go_wp2_with fail
  rw [← unhide hW']
  refine (unhide hl).mono ?_
  rintro e w1 ⟨rfl, hg1⟩
  have hg2 := hide (grown_trans (unhide hg') hg1)
  clear hg1
  go_wp2
  go_ret
  exact ⟨rfl, unhide hg2⟩

set_option maxHeartbeats 800000 in
theorem entRefAt_same (b n c : Nat) (E : Nat → Nat → Int) (x y : Int) (w : World) (hE : Ents w b n E) :
    Calls Try.prog 17 #[.slice (some ⟨b, 0, none⟩) n c, .int .i64 x, .int .i64 y] w fun e w' => e = .returned (.int .i64 (En.first (En.atQ E x y) n)) ∧ w' = w := by
  have hn := hE.1
  have hE' := hide hE
  skip
  clear hE
  go_enter Try.func17, Try.ntmps17
  go_wp2_with fail
  go_loop [7] (fun i => ∃ k : Nat, k ≤ n ∧ i = .int .i64 (k : Int) ∧ ∀ j, j < k → En.atQ E x y j = false) (fun i => 40 - (intOf i).toNat)
  case atStart => exact ⟨0, by omega, rfl, fun j hj => by omega⟩
  case round =>
    obtain ⟨k, hk, rfl, hno⟩ := hrel
    have hno' := hide hno
    clear hno
    by_cases hlt : k < n
    · obtain ⟨u0, _, _, u3, u4, _⟩ := (unhide hE').row hlt
      have hlt' : (k : Int) < (n : Int) := by omega
      have HL := hide hlt
      skip
      clear hlt
      by_cases hf : E k 0 = 0
      · have hq : Hid (En.atQ E x y k = false) := En.atQ_free hf
        go_wp2
        go_round
        case rel => exact ⟨k + 1, by have := unhide HL; omega, by go_num, fun j hj => by
          by_cases e : j = k
          · rw [e]; exact unhide hq
          · exact unhide hno' j (by omega)⟩
        case measure => simp [intOf]; omega
      · have hf' : (E k 0 == 0) = false := by simp [hf]
        by_cases h3 : E k 3 = x
        · by_cases h4 : E k 4 = y
          · have hq : Hid (En.atQ E x y k = true) := by show En.atQ E x y k = true; rw [En.atQ_some hf]; simp [h3, h4]
            have he := hide (En.first_hit (unhide hno') (unhide hq) (unhide HL))
            go_wp2
            go_ret
            exact ⟨ret_int (unhide he).symm, rfl⟩
          · have hq : Hid (En.atQ E x y k = false) := by show En.atQ E x y k = false; rw [En.atQ_some hf]; simp [h4]
            have h4' : (E k 4 == y) = false := by simp [h4]
            go_wp2
            go_round
            case rel => exact ⟨k + 1, by have := unhide HL; omega, by go_num, fun j hj => by
              by_cases e : j = k
              · rw [e]; exact unhide hq
              · exact unhide hno' j (by omega)⟩
            case measure => simp [intOf]; omega
        · have hq : Hid (En.atQ E x y k = false) := by show En.atQ E x y k = false; rw [En.atQ_some hf]; simp [h3]
          have h3' : (E k 3 == x) = false := by simp [h3]
          go_wp2
          go_round
          case rel => exact ⟨k + 1, by have := unhide HL; omega, by go_num, fun j hj => by
            by_cases e : j = k
            · rw [e]; exact unhide hq
            · exact unhide hno' j (by omega)⟩
          case measure => simp [intOf]; omega
    · have hge : ¬ (k : Int) < (n : Int) := by omega
      have he := hide (En.first_none (n := n) (fun j hj => unhide hno' j (by omega)))
      go_wp2
      go_ret
      exact ⟨ret_int (unhide he).symm, rfl⟩

theorem entRefAt_any (b n c : Nat) (E : Nat → Nat → Int) (x y : Int) (w : World) (hE : Ents w b n E) :
    Calls Try.prog 17 #[.slice (some ⟨b, 0, none⟩) n c, .int .i64 x, .int .i64 y] w (Says w (.int .i64 (En.first (En.atQ E x y) n))) :=
  (entRefAt_same b n c E x y w hE).mono fun _ _ ⟨h1, h2⟩ => ⟨h1, by rw [h2]; exact World.grownBy.refl _ _⟩

end Go.Proofs.Ytbploaihicakeaa

namespace Go.Proofs.Ytbploaihicakeaa
open Go.RowKit

/-- What a fresh entity of a kind is. -/
def En.stats (k : Int) : Nat → Int
  | 0 => if 1 ≤ k ∧ k ≤ 4 then k else 0
  | 5 => if k = 1 then 20 else if k = 2 then 4 else if k = 3 then 9 else if k = 4 then 6 else 0
  | 6 => if k = 1 then 20 else if k = 2 then 4 else if k = 3 then 9 else if k = 4 then 6 else 0
  | 7 => if k = 1 then 5 else if k = 2 then 2 else if k = 3 then 4 else if k = 4 then 3 else 0
  | 8 => if k = 1 then 1 else if k = 3 then 1 else 0
  | _ => 0

theorem En.stats_none {k : Int} (h : ¬ (1 ≤ k ∧ k ≤ 4)) : En.cells (En.stats k) = En.cells (fun _ => 0) := by
  have h1 : k ≠ 1 := by omega
  have h2 : k ≠ 2 := by omega
  have h3 : k ≠ 3 := by omega
  have h4 : k ≠ 4 := by omega
  simp [En.cells, En.stats, h, h1, h2, h3, h4]

set_option maxHeartbeats 4000000 in
theorem entRefStats_any (k : Int) (w : World) : Calls Try.prog 25 #[.int .i64 k] w (Says w (.agg (En.cells (En.stats k)))) := by
  by_cases h : 1 ≤ k ∧ k ≤ 4
  · rcases (show k = 1 ∨ k = 2 ∨ k = 3 ∨ k = 4 by omega) with rfl | rfl | rfl | rfl
    all_goals
      clear h
      go_enter Try.func25, Try.ntmps25
      go_wp2
      go_returns
      exact ⟨rfl, World.grownBy_alloc _ _ _⟩
  · rw [En.stats_none h]
    have h1 : k ≠ 1 := by omega
    have h2 : k ≠ 2 := by omega
    have h3 : k ≠ 3 := by omega
    have h4 : k ≠ 4 := by omega
    clear h
    go_enter Try.func25, Try.ntmps25
    go_wp2
    go_returns
    exact ⟨rfl, World.grownBy_alloc _ _ _⟩

end Go.Proofs.Ytbploaihicakeaa

namespace Go.Proofs.Ytbploaihicakeaa

namespace Gn

theorem paintTo_2 {c : Nat → Int} {x y w h r q : Int} (hc : ∀ i, 0 ≤ c i ∧ c i ≤ 2) (i : Nat) : 0 ≤ paintTo c x y w h r q i ∧ paintTo c x y w h r q i ≤ 2 := by
  unfold paintTo
  split
  · omega
  · exact hc i

theorem digAt_2 {st : (Nat → Int) × Bool} {k : Nat} (hc : ∀ i, 0 ≤ st.1 i ∧ st.1 i ≤ 2) (i : Nat) : 0 ≤ (digAt st k).1 i ∧ (digAt st k).1 i ≤ 2 := by
  unfold digAt Gr.upd
  split
  · show 0 ≤ (if i = k then _ else st.1 i) ∧ (if i = k then _ else st.1 i) ≤ 2
    split
    · split <;> omega
    · exact hc i
  · exact hc i

theorem digRun_2 (tx ty : Int) (first : Bool) : ∀ (n : Nat) (st : (Nat → Int) × Bool) (x y : Int), (∀ i, 0 ≤ st.1 i ∧ st.1 i ≤ 2) → ∀ i, 0 ≤ (digRun tx ty first n st x y).1 i ∧ (digRun tx ty first n st x y).1 i ≤ 2
  | 0, _, _, _, h => digAt_2 h
  | n + 1, _, _, _, h => digRun_2 tx ty first n _ _ _ (digAt_2 h)

theorem roomed_2 (d : Dice) : ∀ (n i : Nat), 0 ≤ roomed d n i ∧ roomed d n i ≤ 2
  | 0, _ => by simp [roomed]
  | n + 1, i => paintTo_2 (roomed_2 d n) i

theorem dug_2 (d : Dice) : ∀ (n i : Nat), 0 ≤ dug d n i ∧ dug d n i ≤ 2
  | 0, i => roomed_2 d 6 i
  | n + 1, i => by
    have h := digRun_2 (mx d (n + 1)) (my d (n + 1)) (d ((n + 1 : Nat) : Int) 4 2 == 0) (steps (mx d n) (my d n) (mx d (n + 1)) (my d (n + 1))) (dug d n, false) (mx d n) (my d n) (dug_2 d n) i
    rw [dug]
    exact h

/-- The cells of a corridor. -/
def onPath (tx ty : Int) (first : Bool) : Nat → Int → Int → Nat → Prop
  | 0, x, y, k => k = (y * 24 + x).toNat
  | n + 1, x, y, k => k = (y * 24 + x).toNat ∨ onPath tx ty first n (stepX x y tx ty first) (stepY x y tx ty first) k

theorem digAt_nz (st : (Nat → Int) × Bool) (k i : Nat) : (digAt st k).1 i ≠ 0 ↔ st.1 i ≠ 0 ∨ i = k := by
  unfold digAt
  split
  · rename_i h0
    show Gr.upd st.1 k _ i ≠ 0 ↔ _
    by_cases e : i = k
    · rw [e, Gr.upd_at]
      simp only [or_true, iff_true]
      split <;> omega
    · rw [Gr.upd_ne _ _ e]
      simp [e]
  · rename_i h0
    constructor
    · exact fun h => .inl h
    · rintro (h | rfl)
      · exact h
      · exact h0

theorem digRun_nz (tx ty : Int) (first : Bool) : ∀ (n : Nat) (st : (Nat → Int) × Bool) (x y : Int) (i : Nat), (digRun tx ty first n st x y).1 i ≠ 0 ↔ st.1 i ≠ 0 ∨ onPath tx ty first n x y i
  | 0, st, x, y, i => digAt_nz st _ i
  | n + 1, st, x, y, i => by
    rw [digRun, digRun_nz tx ty first n, digAt_nz, onPath, or_assoc]

def inRoom (d : Dice) (k i : Nat) : Prop := rx d k ≤ (i % 24 : Nat) ∧ ((i % 24 : Nat) : Int) < rx d k + rw d k ∧ ry d k ≤ (i / 24 : Nat) ∧ ((i / 24 : Nat) : Int) < ry d k + rh d k

theorem paint_nz (c : Nat → Int) (x y w h : Int) (i : Nat) : paint c x y w h i ≠ 0 ↔ c i ≠ 0 ∨ (x ≤ (i % 24 : Nat) ∧ ((i % 24 : Nat) : Int) < x + w ∧ y ≤ (i / 24 : Nat) ∧ ((i / 24 : Nat) : Int) < y + h) := by
  unfold paint paintTo
  by_cases hc : (x ≤ (i % 24 : Nat) ∧ ((i % 24 : Nat) : Int) < x + w ∧ y ≤ (i / 24 : Nat) ∧ ((i / 24 : Nat) : Int) < y + h)
  · rw [if_pos ⟨hc, by omega⟩]
    exact ⟨fun _ => .inr hc, fun _ => by omega⟩
  · rw [if_neg (fun h => hc h.1)]
    constructor
    · exact fun h => .inl h
    · rintro (h | h)
      · exact h
      · exact absurd h hc

theorem roomed_nz (d : Dice) : ∀ (n i : Nat), roomed d n i ≠ 0 ↔ ∃ k, k < n ∧ inRoom d k i
  | 0, i => by simp [roomed]
  | n + 1, i => by
    rw [roomed, paint_nz, roomed_nz d n i]
    constructor
    · rintro (⟨k, hk, h⟩ | h)
      · exact ⟨k, by omega, h⟩
      · exact ⟨n, by omega, h⟩
    · rintro ⟨k, hk, h⟩
      by_cases e : k = n
      · subst e; exact .inr h
      · exact .inl ⟨k, by omega, h⟩

def path (d : Dice) (n i : Nat) : Prop := onPath (mx d (n + 1)) (my d (n + 1)) (d ((n + 1 : Nat) : Int) 4 2 == 0) (steps (mx d n) (my d n) (mx d (n + 1)) (my d (n + 1))) (mx d n) (my d n) i

theorem dug_nz (d : Dice) : ∀ (n i : Nat), dug d n i ≠ 0 ↔ (∃ k, k < 6 ∧ inRoom d k i) ∨ ∃ k, k < n ∧ path d k i
  | 0, i => by
    have h : dug d 0 = roomed d 6 := rfl
    rw [h, roomed_nz]
    constructor
    · exact fun h => .inl h
    · rintro (h | ⟨k, hk, _⟩)
      · exact h
      · omega
  | n + 1, i => by
    rw [dug, digRun_nz, dug_nz d n i]
    constructor
    · rintro ((h | ⟨k, hk, h⟩) | h)
      · exact .inl h
      · exact .inr ⟨k, by omega, h⟩
      · exact .inr ⟨n, by omega, h⟩
    · rintro (h | ⟨k, hk, h⟩)
      · exact .inl (.inl h)
      · by_cases e : k = n
        · subst e; exact .inr h
        · exact .inl (.inr ⟨k, by omega, h⟩)

/-- A set of cells to which each cell beside that is no wall belongs, too. -/
def Closed (c : Nat → Int) (P : Nat → Prop) : Prop := ∀ j e, j < 384 → e < 4 → P j → Gr.nbIn j e → c (Gr.nbOf j e) ≠ 0 → P (Gr.nbOf j e)

/-- From one cell to the next one of the row or the column. -/
theorem Closed.step {c : Nat → Int} {P : Nat → Prop} (h : Closed c P) {a b : Nat} (ha : a < 384) (hb : b < 384) (hP : P a) (hc : c b ≠ 0)
    (hn : (b = a + 1 ∧ a / 24 = b / 24) ∨ (a = b + 1 ∧ a / 24 = b / 24) ∨ b = a + 24 ∨ a = b + 24) : P b := by
  have key : ∃ e, e < 4 ∧ Gr.nbIn a e ∧ ((a / 24 : Nat) + Gr.dyOf e) * 24 + ((a % 24 : Nat) + Gr.dxOf e) = (b : Int) := by
    rcases hn with ⟨h1, h2⟩ | ⟨h1, h2⟩ | h1 | h1
    · exact ⟨1, by omega, by unfold Gr.nbIn; simp only [Gr.dxOf, Gr.dyOf]; omega, by simp only [Gr.dxOf, Gr.dyOf]; omega⟩
    · exact ⟨3, by omega, by unfold Gr.nbIn; simp only [Gr.dxOf, Gr.dyOf]; omega, by simp only [Gr.dxOf, Gr.dyOf]; omega⟩
    · exact ⟨2, by omega, by unfold Gr.nbIn; simp only [Gr.dxOf, Gr.dyOf]; omega, by simp only [Gr.dxOf, Gr.dyOf]; omega⟩
    · exact ⟨0, by omega, by unfold Gr.nbIn; simp only [Gr.dxOf, Gr.dyOf]; omega, by simp only [Gr.dxOf, Gr.dyOf]; omega⟩
  obtain ⟨e, he, hin, hv⟩ := key
  have hb2 : Gr.nbOf a e = b := by have := Gr.nb_eq hin; omega
  have := h a e ha he hP hin (by rw [hb2]; exact hc)
  rwa [hb2] at this

theorem step_near (x y tx ty : Int) (first : Bool) (h : ¬ (x = tx ∧ y = ty)) :
    (stepX x y tx ty first = x + 1 ∧ stepY x y tx ty first = y) ∨ (stepX x y tx ty first = x - 1 ∧ stepY x y tx ty first = y) ∨ (stepX x y tx ty first = x ∧ stepY x y tx ty first = y + 1) ∨ (stepX x y tx ty first = x ∧ stepY x y tx ty first = y - 1) := by
  unfold stepX stepY to1
  by_cases hw : way x y tx ty first = true
  · rw [if_pos hw, if_pos hw]
    have hx : x ≠ tx := by
      unfold way at hw
      intro e
      simp only [Bool.or_eq_true, beq_iff_eq, Bool.and_eq_true, bne_iff_ne, ne_eq] at hw
      rcases hw with hw | ⟨_, hw⟩
      · exact h ⟨e, hw⟩
      · exact hw e
    split
    · exact .inl ⟨rfl, rfl⟩
    · split
      · exact .inr (.inl ⟨rfl, rfl⟩)
      · omega
  · rw [if_neg hw, if_neg hw]
    have hy : y ≠ ty := by
      unfold way at hw
      intro e
      simp [e] at hw
    split
    · exact .inr (.inr (.inl ⟨rfl, rfl⟩))
    · split
      · exact .inr (.inr (.inr ⟨rfl, rfl⟩))
      · omega

/-- Along a corridor, from its beginning to its end. -/
theorem Closed.along {c : Nat → Int} {P : Nat → Prop} (h : Closed c P) (tx ty : Int) (first : Bool) (ht : (1 ≤ tx ∧ tx ≤ 22) ∧ 1 ≤ ty ∧ ty ≤ 14) : ∀ (n : Nat) (x y : Int), n = steps x y tx ty → (1 ≤ x ∧ x ≤ 22) ∧ 1 ≤ y ∧ y ≤ 14 → P (y * 24 + x).toNat → (∀ i, onPath tx ty first n x y i → c i ≠ 0) →
    (∀ i, onPath tx ty first n x y i → P i) ∧ onPath tx ty first n x y (ty * 24 + tx).toNat
  | 0, x, y, hn, hb, hP, hc => by
    have e : x = tx ∧ y = ty := by unfold steps at hn; omega
    refine ⟨fun i hi => ?_, ?_⟩
    · have hi' : i = (y * 24 + x).toNat := hi
      rw [hi']; exact hP
    · show (ty * 24 + tx).toNat = (y * 24 + x).toNat
      rw [e.1, e.2]
  | n + 1, x, y, hn, hb, hP, hc => by
    have hne : ¬ (x = tx ∧ y = ty) := by
      rintro ⟨rfl, rfl⟩
      unfold steps at hn
      omega
    have hl := step_less x y tx ty first hne
    have hb' := step_bd x y tx ty first hb ht
    have hsn := step_near x y tx ty first hne
    have hPn : P (stepY x y tx ty first * 24 + stepX x y tx ty first).toNat := by
      refine h.step (a := (y * 24 + x).toNat) (by omega) (by omega) hP (hc _ (.inr ?_)) (by omega)
      cases n with
      | zero => rfl
      | succ m => exact .inl rfl
    obtain ⟨h1, h2⟩ := Closed.along h tx ty first ht n (stepX x y tx ty first) (stepY x y tx ty first) (by omega) hb' hPn (fun i hi => hc i (.inr hi))
    refine ⟨fun i hi => ?_, .inr h2⟩
    rcases hi with rfl | hi
    · exact hP
    · exact h1 i hi

/-- Along a row. -/
theorem Closed.rowTo {c : Nat → Int} {P : Nat → Prop} (h : Closed c P) (x0 y0 w0 h0 : Int) (hb : 1 ≤ x0 ∧ x0 + w0 ≤ 23 ∧ 1 ≤ y0 ∧ y0 + h0 ≤ 15) (hc : ∀ x y, x0 ≤ x → x < x0 + w0 → y0 ≤ y → y < y0 + h0 → c (y * 24 + x).toNat ≠ 0) :
    ∀ (n : Nat) (x y x' : Int), n = (x' - x).natAbs → x0 ≤ x → x < x0 + w0 → x0 ≤ x' → x' < x0 + w0 → y0 ≤ y → y < y0 + h0 → P (y * 24 + x).toNat → P (y * 24 + x').toNat
  | 0, x, y, x', hn, _, _, _, _, _, _, hP => by
    have : x' = x := by omega
    rw [this]; exact hP
  | n + 1, x, y, x', hn, h1, h2, h3, h4, h5, h6, hP => by
    by_cases hlt : x < x'
    · refine Closed.rowTo h x0 y0 w0 h0 hb hc n (x + 1) y x' (by omega) (by omega) (by omega) h3 h4 h5 h6 ?_
      exact h.step (a := (y * 24 + x).toNat) (by omega) (by omega) hP (hc _ _ (by omega) (by omega) h5 h6) (by omega)
    · refine Closed.rowTo h x0 y0 w0 h0 hb hc n (x - 1) y x' (by omega) (by omega) (by omega) h3 h4 h5 h6 ?_
      exact h.step (a := (y * 24 + x).toNat) (by omega) (by omega) hP (hc _ _ (by omega) (by omega) h5 h6) (by omega)

/-- Along a column. -/
theorem Closed.colTo {c : Nat → Int} {P : Nat → Prop} (h : Closed c P) (x0 y0 w0 h0 : Int) (hb : 1 ≤ x0 ∧ x0 + w0 ≤ 23 ∧ 1 ≤ y0 ∧ y0 + h0 ≤ 15) (hc : ∀ x y, x0 ≤ x → x < x0 + w0 → y0 ≤ y → y < y0 + h0 → c (y * 24 + x).toNat ≠ 0) :
    ∀ (n : Nat) (x y y' : Int), n = (y' - y).natAbs → x0 ≤ x → x < x0 + w0 → y0 ≤ y → y < y0 + h0 → y0 ≤ y' → y' < y0 + h0 → P (y * 24 + x).toNat → P (y' * 24 + x).toNat
  | 0, x, y, y', hn, _, _, _, _, _, _, hP => by
    have : y' = y := by omega
    rw [this]; exact hP
  | n + 1, x, y, y', hn, h1, h2, h3, h4, h5, h6, hP => by
    by_cases hlt : y < y'
    · refine Closed.colTo h x0 y0 w0 h0 hb hc n x (y + 1) y' (by omega) h1 h2 (by omega) (by omega) h5 h6 ?_
      exact h.step (a := (y * 24 + x).toNat) (by omega) (by omega) hP (hc _ _ h1 h2 (by omega) (by omega)) (by omega)
    · refine Closed.colTo h x0 y0 w0 h0 hb hc n x (y - 1) y' (by omega) h1 h2 (by omega) (by omega) h5 h6 ?_
      exact h.step (a := (y * 24 + x).toNat) (by omega) (by omega) hP (hc _ _ h1 h2 (by omega) (by omega)) (by omega)

theorem inRoom_at {d : Dice} (hd : Fair d) {k : Nat} {x y : Int} (h1 : rx d k ≤ x) (h2 : x < rx d k + rw d k) (h3 : ry d k ≤ y) (h4 : y < ry d k + rh d k) : inRoom d k (y * 24 + x).toNat := by
  have := room_bd hd k
  unfold inRoom
  omega

theorem mid_in {d : Dice} (hd : Fair d) (k : Nat) : rx d k ≤ mx d k ∧ mx d k < rx d k + rw d k ∧ ry d k ≤ my d k ∧ my d k < ry d k + rh d k := by
  have := room_bd hd k
  unfold mx my
  omega

/-- All that can be walked on hangs together. -/
theorem hangs {d : Dice} (hd : Fair d) {c : Nat → Int} (hz : ∀ i, i < 384 → (c i ≠ 0 ↔ dug d 5 i ≠ 0)) {P : Nat → Prop} (hC : Closed c P) (hP : P (up d)) (i : Nat) (hi : i < 384) (hc : c i ≠ 0) : P i := by
  have hroomc : ∀ k, k < 6 → ∀ x y, rx d k ≤ x → x < rx d k + rw d k → ry d k ≤ y → y < ry d k + rh d k → c (y * 24 + x).toNat ≠ 0 := by
    intro k hk x y h1 h2 h3 h4
    have hb := room_bd hd k
    exact (hz _ (by omega)).2 ((dug_nz d 5 _).2 (.inl ⟨k, hk, inRoom_at hd h1 h2 h3 h4⟩))
  have hpathlt : ∀ k, ∀ i, path d k i → i < 384 := by
    intro k
    have key : ∀ (n : Nat) (x y : Int), (1 ≤ x ∧ x ≤ 22) ∧ 1 ≤ y ∧ y ≤ 14 → ∀ i, onPath (mx d (k + 1)) (my d (k + 1)) (d ((k + 1 : Nat) : Int) 4 2 == 0) n x y i → i < 384 := by
      have ht := mid_bd hd (k + 1)
      intro n
      induction n with
      | zero =>
        intro x y hb i hi
        have hi' : i = (y * 24 + x).toNat := hi
        omega
      | succ n ih =>
        intro x y hb i hi
        rcases hi with rfl | hi
        · omega
        · exact ih _ _ (step_bd x y _ _ _ hb (by omega)) i hi
    have hb := mid_bd hd k
    exact key _ _ _ (by omega)
  have hmids : ∀ k, k < 6 → P (my d k * 24 + mx d k).toNat ∧ (k < 5 → ∀ i, path d k i → P i) := by
    intro k
    induction k with
    | zero =>
      intro _
      have hb := mid_bd hd 0
      have hb1 := mid_bd hd 1
      refine ⟨hP, fun h5 i hi => ?_⟩
      exact (Closed.along hC (mx d 1) (my d 1) (d ((1 : Nat) : Int) 4 2 == 0) (by omega) _ (mx d 0) (my d 0) rfl (by omega) hP (fun j hj => (hz j (hpathlt 0 j hj)).2 ((dug_nz d 5 j).2 (.inr ⟨0, by omega, hj⟩)))).1 i hi
    | succ k ih =>
      intro hk
      obtain ⟨ih1, _⟩ := ih (by omega)
      have hb := mid_bd hd k
      have hb1 := mid_bd hd (k + 1)
      have hb2 := mid_bd hd (k + 1 + 1)
      have hal := Closed.along hC (mx d (k + 1)) (my d (k + 1)) (d ((k + 1 : Nat) : Int) 4 2 == 0) (by omega) _ (mx d k) (my d k) rfl (by omega) ih1 (fun j hj => (hz j (hpathlt k j hj)).2 ((dug_nz d 5 j).2 (.inr ⟨k, by omega, hj⟩)))
      have hPm := hal.1 _ hal.2
      refine ⟨hPm, fun h5 i hi => ?_⟩
      exact (Closed.along hC (mx d (k + 1 + 1)) (my d (k + 1 + 1)) (d ((k + 1 + 1 : Nat) : Int) 4 2 == 0) (by omega) _ (mx d (k + 1)) (my d (k + 1)) rfl (by omega) hPm (fun j hj => (hz j (hpathlt (k + 1) j hj)).2 ((dug_nz d 5 j).2 (.inr ⟨k + 1, by omega, hj⟩)))).1 i hi
  rcases (dug_nz d 5 i).1 ((hz i hi).1 hc) with ⟨k, hk, hin⟩ | ⟨k, hk, hpa⟩
  · have hb := room_bd hd k
    have hm := mid_in hd k
    have h0 := (hmids k hk).1
    unfold inRoom at hin
    have h1 := Closed.rowTo hC (rx d k) (ry d k) (rw d k) (rh d k) (by omega) (hroomc k hk) _ (mx d k) (my d k) ((i % 24 : Nat) : Int) rfl hm.1 hm.2.1 hin.1 hin.2.1 hm.2.2.1 hm.2.2.2 h0
    have h2 := Closed.colTo hC (rx d k) (ry d k) (rw d k) (rh d k) (by omega) (hroomc k hk) _ ((i % 24 : Nat) : Int) (my d k) ((i / 24 : Nat) : Int) rfl hin.1 hin.2.1 hm.2.2.1 hm.2.2.2 hin.2.2.1 hin.2.2.2 h1
    rwa [show (((i / 24 : Nat) : Int) * 24 + ((i % 24 : Nat) : Int)).toNat = i by omega] at h2
  · exact (hmids k (by omega)).2 hk i hpa

end Gn

end Go.Proofs.Ytbploaihicakeaa

namespace Go.Proofs.Ytbploaihicakeaa

namespace Gn

/-- How many of the first n are v. -/
def many (c : Nat → Int) (v : Int) : Nat → Nat
  | 0 => 0
  | n + 1 => many c v n + if c n = v then 1 else 0

theorem many_one (c : Nat → Int) (v : Int) (k : Nat) : ∀ n, (∀ i, i < n → (c i = v ↔ i = k)) → many c v n = if k < n then 1 else 0
  | 0, _ => by rw [many, if_neg (by omega)]
  | n + 1, h => by
    rw [many, many_one c v k n (fun i hi => h i (by omega))]
    by_cases e : n = k
    · rw [if_neg (by omega), if_pos ((h n (by omega)).2 e), if_pos (by omega)]
    · rw [if_neg (fun h' => e ((h n (by omega)).1 h'))]
      by_cases hk : k < n
      · rw [if_pos hk, if_pos (by omega)]
      · rw [if_neg hk, if_neg (by omega)]

theorem many_none (c : Nat → Int) (v : Int) : ∀ n, (∀ i, i < n → c i ≠ v) → many c v n = 0
  | 0, _ => rfl
  | n + 1, h => by rw [many, many_none c v n (fun i hi => h i (by omega)), if_neg (h n (by omega))]

theorem many_le {c c' : Nat → Int} {v : Int} : ∀ n, (∀ i, i < n → c i = v → c' i = v) → many c v n ≤ many c' v n
  | 0, _ => Nat.le_refl _
  | n + 1, h => by
    have h1 := many_le n (fun i hi => h i (by omega))
    rw [many, many]
    by_cases e : c n = v
    · rw [if_pos e, if_pos (h n (by omega) e)]
      omega
    · rw [if_neg e]
      split <;> omega

theorem many_upd (c : Nat → Int) (v u : Int) (k : Nat) : ∀ n, many (Gr.upd c k u) v n ≤ many c v n + if u = v then 1 else 0
  | 0 => Nat.zero_le _
  | n + 1 => by
    have h1 := many_upd c v u k n
    rw [many, many]
    by_cases e : n = k
    · subst e
      have h2 : many (Gr.upd c n u) v n = many c v n := by
        have hsame : ∀ m, m ≤ n → many (Gr.upd c n u) v m = many c v m := by
          intro m
          induction m with
          | zero => intro _; rfl
          | succ m ih =>
            intro hm
            rw [many, many, ih (by omega), Gr.upd_ne _ _ (by omega)]
        exact hsame n (Nat.le_refl _)
      rw [h2, Gr.upd_at]
      split <;> split <;> omega
    · rw [Gr.upd_ne _ _ e]
      omega

theorem digAt_doors (st : (Nat → Int) × Bool) (k n : Nat) : many (digAt st k).1 2 n + (if (digAt st k).2 then 0 else 1) ≤ many st.1 2 n + (if st.2 then 0 else 1) := by
  unfold digAt
  split
  · show many (Gr.upd st.1 k (if st.2 then 1 else 2)) 2 n + 0 ≤ _
    have h := many_upd st.1 2 (if st.2 then 1 else 2) k n
    cases hs : st.2 with
    | true =>
      rw [hs] at h
      simp at h ⊢
      exact h
    | false =>
      rw [hs] at h
      simp at h ⊢
      exact h
  · exact Nat.le_refl _

theorem digRun_doors (tx ty : Int) (first : Bool) (m : Nat) : ∀ (n : Nat) (st : (Nat → Int) × Bool) (x y : Int), many (digRun tx ty first n st x y).1 2 m + (if (digRun tx ty first n st x y).2 then 0 else 1) ≤ many st.1 2 m + (if st.2 then 0 else 1)
  | 0, st, _, _ => digAt_doors st _ m
  | n + 1, st, _, _ => Nat.le_trans (digRun_doors tx ty first m n _ _ _) (digAt_doors st _ m)

theorem roomed_1 (d : Dice) : ∀ (n i : Nat), roomed d n i = 0 ∨ roomed d n i = 1
  | 0, _ => .inl rfl
  | n + 1, i => by
    have h := roomed_1 d n i
    rw [roomed, paint, paintTo]
    split
    · exact .inr rfl
    · exact h

theorem dug_doors (d : Dice) (m : Nat) : ∀ n, many (dug d n) 2 m ≤ n
  | 0 => by
    have h := many_none (dug d 0) 2 m (fun i _ => by
      show roomed d 6 i ≠ 2
      rcases roomed_1 d 6 i with h | h <;> omega)
    omega
  | n + 1 => by
    have h1 := dug_doors d m n
    have h2 := digRun_doors (mx d (n + 1)) (my d (n + 1)) (d ((n + 1 : Nat) : Int) 4 2 == 0) m (steps (mx d n) (my d n) (mx d (n + 1)) (my d (n + 1))) (dug d n, false) (mx d n) (my d n)
    rw [dug]
    simp only [Bool.false_eq_true, if_false] at h2
    omega

/-- Walls all about. -/
theorem path_in {d : Dice} (hd : Fair d) (k i : Nat) (h : path d k i) : i < 384 ∧ 1 ≤ i % 24 ∧ i % 24 ≤ 22 ∧ 1 ≤ i / 24 ∧ i / 24 ≤ 14 := by
  have key : ∀ (n : Nat) (x y : Int), (1 ≤ x ∧ x ≤ 22) ∧ 1 ≤ y ∧ y ≤ 14 → ∀ i, onPath (mx d (k + 1)) (my d (k + 1)) (d ((k + 1 : Nat) : Int) 4 2 == 0) n x y i → i < 384 ∧ 1 ≤ i % 24 ∧ i % 24 ≤ 22 ∧ 1 ≤ i / 24 ∧ i / 24 ≤ 14 := by
    have ht := mid_bd hd (k + 1)
    intro n
    induction n with
    | zero =>
      intro x y hb i hi
      have hi' : i = (y * 24 + x).toNat := hi
      omega
    | succ n ih =>
      intro x y hb i hi
      rcases hi with rfl | hi
      · omega
      · exact ih _ _ (step_bd x y _ _ _ hb (by omega)) i hi
  have hb := mid_bd hd k
  exact key _ _ _ (by omega) i h

theorem dug_in {d : Dice} (hd : Fair d) (i : Nat) (h : dug d 5 i ≠ 0) : 1 ≤ i % 24 ∧ i % 24 ≤ 22 ∧ 1 ≤ i / 24 ∧ i / 24 ≤ 14 := by
  rcases (dug_nz d 5 i).1 h with ⟨k, _, hin⟩ | ⟨k, _, hp⟩
  · have hb := room_bd hd k
    unfold inRoom at hin
    omega
  · exact (path_in hd k i hp).2

theorem up_lt {d : Dice} (hd : Fair d) : up d < 384 := by
  have := mid_bd hd 0
  unfold up
  omega

/-- The cell left of the up stair is floor of its room. -/
theorem beside_up {d : Dice} (hd : Fair d) : dug d 5 (up d - 1) ≠ 0 ∧ dug d 5 (up d) ≠ 0 ∧ 1 ≤ up d ∧ (up d - 1) / 24 = up d / 24 := by
  have hb := room_bd hd 0
  have hm := mid_in hd 0
  have hu := up_eq hd
  have hmb := mid_bd hd 0
  have hx : rx d 0 ≤ mx d 0 - 1 := by unfold mx; omega
  refine ⟨(dug_nz d 5 _).2 (.inl ⟨0, by omega, ?_⟩), (dug_nz d 5 _).2 (.inl ⟨0, by omega, ?_⟩), by omega, by omega⟩
  · have h := inRoom_at hd (k := 0) (x := mx d 0 - 1) (y := my d 0) hx (by omega) hm.2.2.1 hm.2.2.2
    rwa [show (my d 0 * 24 + (mx d 0 - 1)).toNat = up d - 1 by omega] at h
  · have h := inRoom_at hd (k := 0) (x := mx d 0) (y := my d 0) hm.1 hm.2.1 hm.2.2.1 hm.2.2.2
    rwa [show (my d 0 * 24 + mx d 0).toNat = up d by omega] at h

theorem base_up (d : Dice) : base d (up d) = 3 := Gr.upd_at _ _ _
theorem base_ne (d : Dice) {i : Nat} (h : i ≠ up d) : base d i = dug d 5 i := Gr.upd_ne _ _ h

theorem base_nz {d : Dice} (hd : Fair d) (i : Nat) : base d i ≠ 0 ↔ dug d 5 i ≠ 0 := by
  by_cases e : i = up d
  · rw [e, base_up]
    have := (beside_up hd).2.1
    constructor
    · exact fun _ => this
    · exact fun _ => by omega
  · rw [base_ne d e]

theorem walk_nz {c : Int} (h : 0 ≤ c ∧ c ≤ 5) : Gr.walkB c = true ↔ c ≠ 0 := by
  rw [Gr.walkB_iff]; omega

/-- All that a level is. -/
structure Facts (d : Dice) (c F : Nat → Int) (far : Nat) : Prop where
  five : ∀ i, 0 ≤ c i ∧ c i ≤ 5
  nz : ∀ i, c i ≠ 0 ↔ dug d 5 i ≠ 0
  upl : up d < 384
  farl : far < 384
  is3 : ∀ i, c i = 3 ↔ i = up d
  is4 : ∀ i, c i = 4 ↔ i = far
  door : ∀ i, c i = 2 → dug d 5 i = 2
  fld : Gr.IsField (fun i => Gr.walkB (c i) = true) (fun i => i = up d) F
  pos : 0 < F far
  five1 : (∀ i, c i ≠ 5) ∨ ∃ k, k < 384 ∧ ∀ i, c i = 5 ↔ i = k

theorem IsLevel.facts {d : Dice} (hd : Fair d) {c F : Nat → Int} (h : IsLevel d c F) : ∃ far, Facts d c F far := by
  have h5 := h.five
  obtain ⟨far, hF, hfar, hc⟩ := h
  refine ⟨far, ?_⟩
  have hul := up_lt hd
  obtain ⟨b1, b2, b3, b4⟩ := beside_up hd
  have hF0 : F (up d) = 0 := (hF.is.zero _ hul).2 rfl
  -- the cell left of it is one step away
  have hleft : 0 < F (up d - 1) := by
    have hin : Gr.nbIn (up d) 3 ∧ ((up d / 24 : Nat) + Gr.dyOf 3) * 24 + ((up d % 24 : Nat) + Gr.dxOf 3) = ((up d - 1 : Nat) : Int) := by
      have hdi := dug_in hd _ b2
      unfold Gr.nbIn
      simp only [Gr.dxOf, Gr.dyOf]
      omega
    have hnb : Gr.nbOf (up d) 3 = up d - 1 := by have := Gr.nb_eq hin.1; omega
    have hfw := hF.is.fwd (up d) hul (by omega) 3 (by omega) hin.1 (by rw [hnb]; exact (walk_nz (base_5 d _)).2 ((base_nz hd _).2 b1))
    rw [hnb] at hfw
    have hne : F (up d - 1) ≠ 0 := fun e => by have := (hF.is.zero (up d - 1) (by omega)).1 e; omega
    omega
  have hpos : 0 < F far := by have := hfar.top (up d - 1) (by omega); omega
  have hfu : far ≠ up d := fun e => by rw [e] at hpos; omega
  -- the furthest cell is no wall
  have hfn : base d far ≠ 0 := (walk_nz (base_5 d far)).1 ((hF.is.back far hfar.lt hpos).1)
  obtain ⟨c2, hc2⟩ : ∃ c2, c2 = Gr.upd (base d) far 4 := ⟨_, rfl⟩
  have c2far : c2 far = 4 := by rw [hc2]; exact Gr.upd_at _ _ _
  have c2ne : ∀ i, i ≠ far → c2 i = base d i := fun i hi => by rw [hc2]; exact Gr.upd_ne _ _ hi
  have c2up : c2 (up d) = 3 := by rw [c2ne _ (fun e => hfu e.symm), base_up]
  have c2old : ∀ i, i ≠ far → i ≠ up d → c2 i = dug d 5 i := fun i h1 h2 => by rw [c2ne i h1, base_ne d h2]
  -- what the shop does
  have hshop : (∀ i, c i = c2 i) ∨ ∃ k, k < 384 ∧ c2 k = 1 ∧ ∀ i, c i = if i = k then 5 else c2 i := by
    rw [hc]
    unfold stocked
    rw [← hc2]
    split
    · cases hs : shop c2 F (F far / 2) with
      | none => exact .inl fun i => rfl
      | some k =>
        right
        unfold shop at hs
        rw [List.find?_range_eq_some] at hs
        obtain ⟨hp, hk, _⟩ := hs
        rw [Bool.and_eq_true] at hp
        exact ⟨k, List.mem_range.1 hk, by simpa using hp.2, fun i => rfl⟩
    · exact .inl fun i => rfl
  have h2all : ∀ i, 0 ≤ dug d 5 i ∧ dug d 5 i ≤ 2 := dug_2 d 5
  have c2nz : ∀ i, c2 i ≠ 0 ↔ dug d 5 i ≠ 0 := by
    intro i
    by_cases e1 : i = far
    · rw [e1, c2far]
      exact ⟨fun _ => (base_nz hd far).1 hfn, fun _ => by omega⟩
    · rw [c2ne i e1]; exact base_nz hd i
  have c3 : ∀ i, c2 i = 3 ↔ i = up d := by
    intro i
    constructor
    · intro h
      by_cases e2 : i = up d
      · exact e2
      · by_cases e1 : i = far
        · rw [e1, c2far] at h; omega
        · rw [c2old i e1 e2] at h
          have := h2all i; omega
    · intro e; rw [e]; exact c2up
  have c4 : ∀ i, c2 i = 4 ↔ i = far := by
    intro i
    constructor
    · intro h
      by_cases e1 : i = far
      · exact e1
      · by_cases e2 : i = up d
        · rw [e2, c2up] at h; omega
        · rw [c2old i e1 e2] at h
          have := h2all i; omega
    · intro e; rw [e]; exact c2far
  have c5 : ∀ i, c2 i ≠ 5 := by
    intro i
    by_cases e1 : i = far
    · rw [e1, c2far]; omega
    · by_cases e2 : i = up d
      · rw [e2, c2up]; omega
      · rw [c2old i e1 e2]
        have := h2all i; omega
  have cdoor : ∀ i, c2 i = 2 → dug d 5 i = 2 := by
    intro i h
    by_cases e1 : i = far
    · rw [e1, c2far] at h; omega
    · by_cases e2 : i = up d
      · rw [e2, c2up] at h; omega
      · rw [c2old i e1 e2] at h; exact h
  have hnz : ∀ i, c i ≠ 0 ↔ dug d 5 i ≠ 0 := by
    intro i
    rcases hshop with hs | ⟨k, hk, hk1, hs⟩
    · rw [hs i]; exact c2nz i
    · rw [hs i]
      by_cases e : i = k
      · rw [if_pos e]
        have := (c2nz k).1 (by omega)
        rw [e]
        exact ⟨fun _ => this, fun _ => by omega⟩
      · rw [if_neg e]; exact c2nz i
  refine ⟨h5, hnz, hul, hfar.lt, ?_, ?_, ?_, ?_, hpos, ?_⟩
  · intro i
    rcases hshop with hs | ⟨k, hk, hk1, hs⟩
    · rw [hs i]; exact c3 i
    · rw [hs i]
      by_cases e : i = k
      · rw [if_pos e]
        constructor
        · intro h; omega
        · intro e2; rw [← e, e2, c2up] at hk1; omega
      · rw [if_neg e]; exact c3 i
  · intro i
    rcases hshop with hs | ⟨k, hk, hk1, hs⟩
    · rw [hs i]; exact c4 i
    · rw [hs i]
      by_cases e : i = k
      · rw [if_pos e]
        constructor
        · intro h; omega
        · intro e2; rw [← e, e2, c2far] at hk1; omega
      · rw [if_neg e]; exact c4 i
  · intro i hi
    rcases hshop with hs | ⟨k, hk, hk1, hs⟩
    · rw [hs i] at hi; exact cdoor i hi
    · rw [hs i] at hi
      by_cases e : i = k
      · rw [if_pos e] at hi; omega
      · rw [if_neg e] at hi; exact cdoor i hi
  · refine isField_congr hF.is (fun i _ => ?_) (fun _ _ => Iff.rfl) (fun _ _ => rfl)
    rw [walk_nz (base_5 d i), walk_nz (h5 i), base_nz hd i, hnz i]
  · rcases hshop with hs | ⟨k, hk, hk1, hs⟩
    · left
      intro i
      rw [hs i]; exact c5 i
    · right
      refine ⟨k, hk, fun i => ?_⟩
      rw [hs i]
      by_cases e : i = k
      · rw [if_pos e]; simp [e]
      · rw [if_neg e]
        constructor
        · intro h; exact absurd h (c5 i)
        · intro h; exact absurd h e

/-- Every cell that can be walked on is reached, no other one. -/
theorem Facts.reach {d : Dice} (hd : Fair d) {c F : Nat → Int} {far : Nat} (h : Facts d c F far) (i : Nat) (hi : i < 384) : 0 ≤ F i ↔ c i ≠ 0 := by
  constructor
  · intro h0
    by_cases e : F i = 0
    · have := (h.fld.zero i hi).1 e
      rw [this, (h.is3 _).2 rfl]; omega
    · exact (walk_nz (h.five i)).1 (h.fld.back i hi (by omega)).1
  · intro hc
    refine hangs hd (c := c) (fun j _ => h.nz j) (P := fun j => 0 ≤ F j) ?_ ?_ i hi hc
    · intro j e hj he hP hin hcn
      exact (h.fld.fwd j hj hP e he hin ((walk_nz (h.five _)).2 hcn)).1
    · have := (h.fld.zero _ h.upl).2 rfl
      omega

theorem findFrom_at (c : Nat → Int) (v : Int) (k : Nat) (hk : c k = v) (hn : ∀ i, i < k → c i ≠ v) : ∀ (n m : Nat), m ≤ k → k < m + n → Gr.findFrom c v n m = (k : Int)
  | 0, m, h1, h2 => by omega
  | n + 1, m, h1, h2 => by
    unfold Gr.findFrom
    by_cases e : m = k
    · rw [e, if_pos hk]
    · rw [if_neg (hn m (by omega))]
      exact findFrom_at c v k hk hn n (m + 1) (by omega) (by omega)

theorem findFrom_no (c : Nat → Int) (v : Int) (hn : ∀ i, c i ≠ v) : ∀ (n m : Nat), Gr.findFrom c v n m = -1
  | 0, m => rfl
  | n + 1, m => by
    unfold Gr.findFrom
    rw [if_neg (hn m)]
    exact findFrom_no c v hn n (m + 1)

theorem find_at {c : Nat → Int} {v : Int} {k : Nat} (hk : k < 384) (h : ∀ i, c i = v ↔ i = k) : Gr.find 384 c v = (k : Int) := by
  unfold Gr.find
  rw [show min 384 384 = 384 by omega]
  exact findFrom_at c v k ((h k).2 rfl) (fun i hi e => by have := (h i).1 e; omega) 384 0 (by omega) (by omega)

theorem find_no {c : Nat → Int} {v : Int} (h : ∀ i, c i ≠ v) : Gr.find 384 c v = -1 := findFrom_no c v h _ _

end Gn

end Go.Proofs.Ytbploaihicakeaa

namespace Go.Proofs.Ytbploaihicakeaa
open Go.RowKit

/-- Of a seed and a floor: its dice. -/
theorem dice_of (s f : Int) : ∃ d : Gn.Dice, (∀ a b n, Gn.D s f a b n = d a b n) ∧ Gn.Fair d := ⟨fun a b n => Gn.D s f a b n, fun _ _ _ => rfl, fun a b n h => Gn.D_bd s f a b n h⟩

theorem Arr.refFind {w : World} {G : Nat} {c : Nat → Int} (h : Arr w G 5 384 (Byts c)) (h5 : ∀ i, 0 ≤ c i ∧ c i ≤ 5) (kind v : Int) (hv : Gr.find 384 c kind = v) :
    Calls Try.prog 30 #[.slice (some ⟨G, 0, none⟩) 384 384, .int .i64 kind] w fun e w' => e = .returned (.int .i64 v) ∧ w' = w := by
  have hh := refFind_any w.heap.size (some ⟨G, 0, none⟩) 384 384 c kind w (h.vec _ h.lt (by decide)) (fun i => by have := h5 i; omega)
  rw [hv] at hh
  exact hh

end Go.Proofs.Ytbploaihicakeaa
