/-
  A list that is like another one, apart; one row of it otherwise; entities that come and go, in ents.
  Entities that come and go, in ents: Spawn and Free.
  Entities that go, in ents: Free; a list of free rows that is made.
  The law package's own known: the chapter's example.
  Rows, free ones and ids, as numbers: how many are not free; that an id is one row's alone.
  What the document's chapter, said again, answers of a list: At, Hero, Id, Of; Spawn and Free; and the law package's own Same.
  Entities that come and go, as the document's chapter, said again, answers; and the law package's own Same.
-/
import Derived.Test.YtbploaihicakeaaPart09
import Derived.Deep.RegionWith
import Derived.Laws.AppendOwnNone
import Derived.Deep.Cut
namespace Go.Proofs.Ytbploaihicakeaa
open Go.RowKit

theorem Ents.flat {w : World} {b n : Nat} {E : Nat → Nat → Int} (h : Ents w b n E) {c : Nat} (hc : c < n * 11) : w.cell? ⟨b, c, none⟩ = some (En.flat E c) := by
  have := h.2.2 (c / 11) (c % 11) (by omega) (by omega)
  rwa [show c / 11 * 11 + c % 11 = c by omega] at this

theorem Ents.set {w : World} {b n : Nat} {E : Nat → Nat → Int} (h : Ents w b n E) {p i : Nat} (hp : p ≠ b) (u : Value) : Ents (w.setCell ⟨p, i, none⟩ u) b n E :=
  ⟨h.1, by simpa using h.2.1, fun i' j hi hj => (World.cell?_of_block (a := ⟨b, i' * 11 + j, none⟩) (heap_setCell_other w ⟨p, i, none⟩ b u hp.symm)).trans (h.2.2 i' j hi hj)⟩

/-- The cells of a list, as they are copied. -/
def En.list (n : Nat) (E : Nat → Nat → Int) : List Value := (List.range (n * 11)).map (En.flat E)

theorem En.list_len (n : Nat) (E : Nat → Nat → Int) : (En.list n E).length = n * 11 := by simp [En.list]

theorem En.list_at {n : Nat} {E : Nat → Nat → Int} {c : Nat} (hc : c < n * 11) : (En.list n E)[c]? = some (En.flat E c) := by
  unfold En.list
  rw [List.getElem?_map, List.getElem?_range hc]
  rfl

theorem En.list_one {n : Nat} {E : Nat → Nat → Int} : ∀ v ∈ En.list n E, v.oneCell' = true := by
  intro v hv
  unfold En.list at hv
  obtain ⟨c, _, rfl⟩ := List.mem_map.1 hv
  rfl

theorem Ents.src {w : World} {b n : Nat} {E : Nat → Nat → Int} (h : Ents w b n E) : ∀ j v, (En.list n E)[j]? = some v → w.cell? ((⟨b, 0, none⟩ : Addr).add j) = some v := by
  intro j v hj
  have hlt : j < n * 11 := by
    have := (List.getElem?_eq_some_iff.1 hj).1
    rwa [En.list_len] at this
  rw [En.list_at hlt] at hj
  rw [show (⟨b, 0, none⟩ : Addr).add j = ⟨b, j, none⟩ by rw [Go.WideShapes.add_plain, Nat.zero_add], h.flat hlt]
  exact hj

theorem Own.of_row {w : World} {g n : Nat} {E : Nat → Nat → Int} (hn : n ≤ 32) (h : w.heap[g]? = some (.cells (En.list n E).toArray 36 (0, 0))) : Own w g n E := by
  refine ⟨hn, _, _, Arr.lit h, by simp [En.list_len], fun c hc => ?_⟩
  show (En.list n E).toArray[c]?.getD undef = _
  rw [List.getElem?_toArray, En.list_at hc]
  rfl

end Go.Proofs.Ytbploaihicakeaa

namespace Go.Proofs.Ytbploaihicakeaa
open Go.RowKit

/-- An entity with another Gen. -/
def En.gen (e : Nat → Int) (g : Int) : Nat → Int := fun j => if j = 1 then g else e j

/-- A call hands back a list of its own, a row, and OK; nothing that was there has turned. -/
def Spawns (w : World) (n : Nat) (E : Nat → Nat → Int) (k : Nat) (e : Ending) (w' : World) : Prop :=
  ∃ g cap, e = .returned (.tuple #[.slice (some ⟨g, 0, none⟩) n cap, .int .i64 (k : Int), .int .i64 0]) ∧ w.heap.size ≤ g ∧ n ≤ cap ∧ cap ≤ maxLen ∧ Own w' g n E ∧ w.grownBy w' none

end Go.Proofs.Ytbploaihicakeaa

namespace Go.Proofs.Ytbploaihicakeaa
open Go.RowKit

/-- A free row: all zero but Gen. -/
def En.hole (g : Int) : Nat → Int := fun j => if j = 1 then g else 0

end Go.Proofs.Ytbploaihicakeaa

namespace Go.Proofs.Ytbploaihicakeaa
open Go.RowKit

/-- A list of free rows into which the first one has come. -/
def En.one : Nat → Nat → Int := En.put (fun _ _ => 0) 0 (En.gen (En.stats 2) 1)

theorem id_first (b c : Nat) (x : World) (h : Ents x b 32 En.one) (hc : 32 ≤ c) : Calls Try.prog 45 #[.slice (some ⟨b, 0, none⟩) 32 c, .int .i64 0] x (Says x (.int .i64 32)) := by
  have hG : En.Gens 32 En.one := fun i _ => by
    by_cases e : i = 0
    · subst e; decide
    · unfold En.one; rw [En.put_other e]; decide
  have := id_any b 32 c En.one 0 x h hc hG
  rwa [show En.id 32 En.one 0 = 32 by decide] at this

end Go.Proofs.Ytbploaihicakeaa

namespace Go.Proofs.Ytbploaihicakeaa
open Go.RowKit

/-- The first k rows hold fresh ones, the others are free and were never taken. -/
def En.Full (k : Nat) (E : Nat → Nat → Int) : Prop := (∀ j, j < k → E j 0 ≠ 0 ∧ E j 1 = 1) ∧ ∀ j, k ≤ j → E j 0 = 0 ∧ E j 1 = 0

theorem En.Full.zero : En.Full 0 (fun _ _ => 0) := ⟨fun j h => by omega, fun _ _ => ⟨rfl, rfl⟩⟩

theorem En.stats_kind {K : Int} (h : 1 ≤ K ∧ K ≤ 4) : En.stats K 0 = K := if_pos h

theorem En.Full.next {k : Nat} {E : Nat → Nat → Int} {K : Int} (h : En.Full k E) (hK : 1 ≤ K ∧ K ≤ 4) : En.Full (k + 1) (En.put E k (En.gen (En.stats K) 1)) := by
  refine ⟨fun j hj => ?_, fun j hj => ?_⟩
  · by_cases e : j = k
    · subst e
      rw [En.put_same]
      refine ⟨?_, rfl⟩
      show En.stats K 0 ≠ 0
      rw [En.stats_kind hK]
      omega
    · rw [En.put_other e]
      exact h.1 j (by omega)
  · rw [En.put_other (by omega)]
    exact h.2 j (by omega)

theorem En.Full.gens {k : Nat} {E : Nat → Nat → Int} (h : En.Full k E) : En.Gens 32 E := fun i _ => by
  by_cases e : i < k
  · rw [(h.1 i e).2]; omega
  · rw [(h.2 i (by omega)).2]; omega

theorem En.Full.first {k : Nat} {E : Nat → Nat → Int} (h : En.Full k E) (hk : k < 32) : En.first (En.freeQ E) 32 = (k : Int) :=
  En.first_hit (fun j hj => decide_eq_false (h.1 j hj).1) (decide_eq_true (h.2 k (Nat.le_refl _)).1) hk

theorem En.Full.stop {E : Nat → Nat → Int} (h : En.Full 32 E) : En.first (En.freeQ E) 32 = -1 :=
  En.first_none (fun j hj => decide_eq_false (h.1 j hj).1)

/-- How many of the first rows are not free. -/
def En.live (E : Nat → Nat → Int) : Nat → Int
  | 0 => 0
  | m + 1 => En.live E m + (if E m 0 = 0 then 0 else 1)

theorem En.live_le (E : Nat → Nat → Int) : ∀ m : Nat, 0 ≤ En.live E m ∧ En.live E m ≤ m
  | 0 => ⟨Int.le_refl _, Int.le_refl _⟩
  | m + 1 => by
      have := En.live_le E m
      unfold En.live
      split <;> omega

theorem En.live_all {E : Nat → Nat → Int} : ∀ {m : Nat}, En.live E m = m → ∀ j, j < m → E j 0 ≠ 0
  | 0, _, j, hj => by omega
  | m + 1, h, j, hj => by
      have hl := En.live_le E m
      unfold En.live at h
      by_cases e : E m 0 = 0
      · rw [if_pos e] at h; omega
      · rw [if_neg e] at h
        by_cases ej : j = m
        · rw [ej]; exact e
        · exact En.live_all (m := m) (by omega) j (by omega)

theorem En.live_none {E : Nat → Nat → Int} : ∀ {m : Nat}, (∀ j, j < m → E j 0 ≠ 0) → En.live E m = m
  | 0, _ => rfl
  | m + 1, h => by
      unfold En.live
      rw [if_neg (h m (by omega)), En.live_none (fun j hj => h j (by omega))]
      omega

theorem En.live_zero : ∀ m : Nat, En.live (fun _ _ => 0) m = 0
  | 0 => rfl
  | m + 1 => by
      unfold En.live
      rw [En.live_zero m]
      simp

theorem En.live_past {E : Nat → Nat → Int} {k : Nat} {e : Nat → Int} : ∀ {m : Nat}, m ≤ k → En.live (En.put E k e) m = En.live E m
  | 0, _ => rfl
  | m + 1, h => by
      unfold En.live
      rw [En.live_past (by omega), En.put_other (by omega)]

theorem En.live_put {E : Nat → Nat → Int} {k : Nat} {e : Nat → Int} : ∀ {m : Nat}, k < m → En.live (En.put E k e) m = En.live E m + (if e 0 = 0 then 0 else 1) - (if E k 0 = 0 then 0 else 1)
  | 0, h => by omega
  | m + 1, h => by
      unfold En.live
      by_cases e : k = m
      · subst e
        rw [En.live_past (Nat.le_refl _), En.put_same]
        omega
      · rw [En.live_put (by omega), En.put_other (by omega)]
        omega

/-- An id is one row's alone. -/
theorem En.id_one {i k : Nat} {g h : Int} (hi : i < 32) (hk : k < 32) (e : (i : Int) + 32 * g = (k : Int) + 32 * h) : i = k := by omega

theorem En.of_id {E : Nat → Nat → Int} {k : Nat} (hk : k < 32) (h : E k 0 ≠ 0) : En.first (En.ofQ E ((k : Int) + 32 * E k 1)) 32 = (k : Int) :=
  En.first_hit (fun j hj => by
    by_cases e : E j 0 = 0
    · exact En.ofQ_free e
    · rw [En.ofQ_some e]
      exact decide_eq_false (fun e2 => by have := En.id_one (by omega) hk e2; omega)) (by rw [En.ofQ_some h]; exact decide_eq_true rfl) hk

theorem En.of_gone {E : Nat → Nat → Int} {k : Nat} {g : Int} (hk : k < 32) (h : E k 0 = 0) : En.first (En.ofQ E ((k : Int) + 32 * g)) 32 = -1 :=
  En.first_none (fun j hj => by
    by_cases e : E j 0 = 0
    · exact En.ofQ_free e
    · rw [En.ofQ_some e]
      exact decide_eq_false (fun e2 => by have := En.id_one hj hk e2; subst this; exact e h))

theorem En.Gens.spawn {E : Nat → Nat → Int} (h : En.Gens 32 E) (k : Nat) (e : Nat → Int) : En.Gens 32 (En.put E k (En.gen e ((E k 1 + 1) % 256))) := fun i hi => by
  by_cases e1 : i = k
  · rw [e1, En.put_same]
    show 0 ≤ (E k 1 + 1) % 256 ∧ (E k 1 + 1) % 256 ≤ 255
    omega
  · rw [En.put_other e1]
    exact h i hi

theorem En.Gens.free {E : Nat → Nat → Int} (h : En.Gens 32 E) (k : Nat) : En.Gens 32 (En.put E k (En.hole (E k 1))) := fun i hi => by
  by_cases e1 : i = k
  · rw [e1, En.put_same]
    show 0 ≤ E k 1 ∧ E k 1 ≤ 255
    subst e1
    exact h i hi
  · rw [En.put_other e1]
    exact h i hi

theorem En.live_spawn {E : Nat → Nat → Int} {k : Nat} {K g : Int} (hk : k < 32) (hf : E k 0 = 0) (hK : 1 ≤ K ∧ K ≤ 4) : En.live (En.put E k (En.gen (En.stats K) g)) 32 = En.live E 32 + 1 := by
  rw [En.live_put hk, if_pos hf, if_neg (show ¬ En.gen (En.stats K) g 0 = 0 by show ¬ En.stats K 0 = 0; rw [En.stats_kind hK]; omega)]
  omega

theorem En.live_free {E : Nat → Nat → Int} {k : Nat} {g : Int} (hk : k < 32) (hf : E k 0 ≠ 0) : En.live (En.put E k (En.hole g)) 32 = En.live E 32 - 1 := by
  rw [En.live_put hk, if_neg hf, if_pos (show En.hole g 0 = 0 from rfl)]
  omega

theorem En.live_same {E : Nat → Nat → Int} {k : Nat} {g : Int} (hk : k < 32) (hf : E k 0 = 0) : En.live (En.put E k (En.hole g)) 32 = En.live E 32 := by
  rw [En.live_put hk, if_pos hf, if_pos (show En.hole g 0 = 0 from rfl)]
  omega

end Go.Proofs.Ytbploaihicakeaa

namespace Go.Proofs.Ytbploaihicakeaa
open Go.RowKit

end Go.Proofs.Ytbploaihicakeaa

namespace Go.Proofs.Ytbploaihicakeaa
open Go.RowKit

theorem Own.of_append {w : World} {base n : Nat} {v : Value} {E : Nat → Nat → Int} (h : w.ownsRow base 36 11 v n (En.list n E)) (hv : v ≠ .slice none 0 0) (hn : n ≤ 32) :
    ∃ g cap, v = .slice (some ⟨g, 0, none⟩) n cap ∧ base ≤ g ∧ n ≤ cap ∧ cap ≤ maxLen ∧ Own w g n E := by
  rcases h.2 with ⟨h', _⟩ | ⟨g, cap, cur, rfl, hb, hg, hnc, hcm, hcs, htake⟩
  · exact absurd h' hv
  · exact ⟨g, cap, rfl, hb, hnc, hcm, Own.of_owns h hn (fun c hc => En.list_at hc)⟩

theorem En.flat_src {w w' : World} {b n : Nat} {E : Nat → Nat → Int} (h : Ents w b n E) (hg : w.grownBy w' none) : ∀ j v, (En.list n E)[j]? = some v → w'.cell? ((⟨b, 0, none⟩ : Addr).add j) = some v := (h.on hg).src

set_option maxHeartbeats 800000 in
theorem refSpawn_bad (b n c : Nat) (e : Nat → Int) (w : World) (hk : ¬ (1 ≤ e 0 ∧ e 0 ≤ 4)) :
    Calls Try.prog 26 #[.slice (some ⟨b, 0, none⟩) n c, .agg (En.cells e)] w (Says w (.tuple #[.slice none 0 0, .int .i64 0, .int .i64 3])) := by
  have hg := hide (World.grownBy_alloc w (.cells (En.cells e) 36) none)
  unfold En.cells at hg ⊢
  by_cases h1 : e 0 < 1
  · clear hk
    go_enter Try.func26, Try.ntmps26
    go_wp2
    go_ret3
    exact ⟨rfl, unhide hg⟩
  · have h4 : 4 < e 0 := by omega
    clear hk
    go_enter Try.func26, Try.ntmps26
    go_wp2
    go_ret3
    exact ⟨rfl, unhide hg⟩

set_option maxHeartbeats 1600000 in
theorem refSpawn_full (b n c : Nat) (E : Nat → Nat → Int) (e : Nat → Int) (w : World) (hE : Ents w b n E) (hk : 1 ≤ e 0 ∧ e 0 ≤ 4) (hf : ∀ j, j < n → En.freeQ E j = false) :
    Calls Try.prog 26 #[.slice (some ⟨b, 0, none⟩) n c, .agg (En.cells e)] w (Says w (.tuple #[.slice none 0 0, .int .i64 0, .int .i64 5])) := by
  have hn := hE.1
  have hg := hide (World.grownBy_alloc w (.cells (En.cells e) 36) none)
  have hE' := hide (hE.on (unhide hg))
  have hf' := hide hf
  obtain ⟨W, hW⟩ : ∃ W, W = w.alloc (.cells (En.cells e) 36) := ⟨_, rfl⟩
  rw [← hW] at hg hE'
  obtain ⟨k1, k2⟩ := hk
  have k3 : ¬ e 0 < 1 := by omega
  have k4 : ¬ 4 < e 0 := by omega
  have hW' := hide hW
  clear hE hf hW
  unfold En.cells at hW' ⊢
  go_enter Try.func26, Try.ntmps26
  go_wp2_with fail
  rw [← unhide hW']
  clear hW' k1 k2 k3 k4
  go_loop [7] (fun i => ∃ k : Nat, k ≤ n ∧ i = .int .i64 (k : Int)) (fun i => 40 - (intOf i).toNat)
  case atStart => exact ⟨0, by omega, rfl⟩
  case round =>
    obtain ⟨k, hk, rfl⟩ := hrel
    by_cases hlt : k < n
    · obtain ⟨u0, _⟩ := (unhide hE').row hlt
      have hlt' : (k : Int) < (n : Int) := by omega
      have h32 : (k : Int) < 32 := by omega
      have hz : (E k 0 == 0) = false := by have := unhide hf' k hlt; simpa [En.freeQ] using this
      have HL := hide hlt
      clear hlt
      go_wp2
      go_round
      case rel => exact ⟨k + 1, by have := unhide HL; omega, by go_num⟩
      case measure => simp [intOf]; omega
    · have hge : ¬ (k : Int) < (n : Int) := by omega
      go_wp2
      go_ret3
      exact ⟨rfl, unhide hg⟩

set_option maxRecDepth 8000 in
set_option maxHeartbeats 4000000 in
theorem refSpawn_some (b n c r : Nat) (E : Nat → Nat → Int) (e : Nat → Int) (w : World) (hE : Ents w b n E) (hk : 1 ≤ e 0 ∧ e 0 ≤ 4) (hr : r < n) (hq : E r 0 = 0) (hf : ∀ j, j < r → En.freeQ E j = false) (hG : En.Gens n E) :
    Calls Try.prog 26 #[.slice (some ⟨b, 0, none⟩) n c, .agg (En.cells e)] w (Spawns w n (En.put E r (En.gen e ((E r 1 + 1) % 256))) r) := by
  have hn := hE.1
  have hg := hide (World.grownBy_alloc w (.cells (En.cells e) 36) none)
  have hE' := hide (hE.on (unhide hg))
  have hbox := hide (Arr.lit (heap_alloc_new w (.cells (En.cells e) 36)))
  have hf' := hide hf
  obtain ⟨g0, g1⟩ := hG r hr
  obtain ⟨W, hW⟩ : ∃ W, W = w.alloc (.cells (En.cells e) 36) := ⟨_, rfl⟩
  have hWs : Hid (W.heap.size = w.heap.size + 1) := by rw [hW]; simp [Hid]
  rw [← hW] at hg hE' hbox
  obtain ⟨k1, k2⟩ := hk
  have k3 : ¬ e 0 < 1 := by omega
  have k4 : ¬ 4 < e 0 := by omega
  have hW' := hide hW
  have hbw := hide hE.2.1
  obtain ⟨i0, hi, hz0, hz1, hz2⟩ := info_parts info_ent
  obtain ⟨G2, hG2⟩ : ∃ G2, G2 = (E r 1 + 1) % 256 := ⟨_, rfl⟩
  have hst : Hid (∀ (x : World) (g : Nat), Own x g n E → Own (x.setCells g (r * 11) (En.cells (En.gen e G2)).toList) g n (En.put E r (En.gen e G2))) := fun x g h => h.store r _
  have hgs : Hid (∀ (x : World) (g : Nat), w.grownBy x none → w.heap.size ≤ g → w.grownBy (x.setCells g (r * 11) (En.cells (En.gen e G2)).toList) none) := fun x g h hg => own_sets hg _ _ x h
  obtain ⟨F, hF⟩ : ∃ F, F = En.put E r (En.gen e G2) := ⟨_, rfl⟩
  rw [← hF] at hst
  rw [← hG2, ← hF]
  have hG2' := hide hG2
  have hq' := hide hq
  clear hE hf hW hG hF hG2 hq
  unfold En.cells at hW' hbox ⊢
  go_enter Try.func26, Try.ntmps26
  go_wp2_with fail
  rw [← unhide hW']
  clear hW' k1 k2 k3 k4
  go_loop [7] (fun i => ∃ k : Nat, k ≤ r ∧ i = .int .i64 (k : Int)) (fun i => 40 - (intOf i).toNat)
  case atStart => exact ⟨0, by omega, rfl⟩
  case round =>
    obtain ⟨k, hk, rfl⟩ := hrel
    by_cases hlt : k < r
    · obtain ⟨u0, _⟩ := (unhide hE').row (k := k) (by omega)
      have hlt' : (k : Int) < (n : Int) := by omega
      have h32 : (k : Int) < 32 := by omega
      have hz : (E k 0 == 0) = false := by have := unhide hf' k hlt; simpa [En.freeQ] using this
      have HL := hide hlt
      clear hlt
      go_wp2
      go_round
      case rel => exact ⟨k + 1, by have := unhide HL; omega, by go_num⟩
      case measure => simp [intOf]; omega
    · obtain rfl : k = r := by omega
      obtain ⟨u0, u1, _⟩ := (unhide hE').row hr
      rw [unhide hq'] at u0
      have hlt' : (k : Int) < (n : Int) := by omega
      have h32 : (k : Int) < 32 := by omega
      go_wp2_with (at_builtin; refine wpList_append_own _ rfl _ _ 26 rfl W.heap.size 36 i0 (.agg #[.int .i64 0, .int .i64 0, .int .i64 0, .int .i64 0, .int .i64 0, .int .i64 0, .int .i64 0, .int .i64 0, .int .i64 0, .int .i64 0, .int .i64 0]) 11 88 Try.underlying26 hi hz0 hz1 hz2 rfl (by decide) _ 0 [] rfl (World.ownsRow_made _ _ _ (Nat.le_refl _) (by decide) (by simp)) ⟨b, 0, none⟩ n c (En.list n E) rfl (En.list_len n E) (En.flat_src (unhide hE') (World.grownBy_alloc _ _ _)) En.list_one ?c4 ?c5 ?c6 ?_)
      case c4 => unfold maxLen; omega
      case c5 => omega
      try (case c6 => simp)
      intro v' w1 hown hgrow hnil
      obtain ⟨g, cap, rfl, hlo, hnc, hcm, hown1⟩ := Own.of_append hown hnil hn
      have hgW := grown_own (World.grownBy_alloc W (.cells #[] 36) none) hgrow (by intro m hm; simp [Value.ownBlock] at hm; omega)
      have hgr1 := hide (grown_trans (unhide hg) hgW)
      have hbox1 := hide ((unhide hbox).grown hgW (by simp))
      have hlo' : w.heap.size < g := by have := unhide hWs; omega
      have hcapf := hide (And.intro hlo' (And.intro hnc hcm))
      have hs1 : w1.cell? ⟨b, k * 11 + 1, none⟩ = some (.int .i64 (E k 1)) := ((unhide hE').on hgW).2.2 k 1 hr (by omega)
      have hz := fun j (hj : j < 11) => (unhide hbox1).cell (i := j) hj
      have z0 := hz 0 (by omega)
      have z1 := hz 1 (by omega)
      have z2 := hz 2 (by omega)
      have z3 := hz 3 (by omega)
      have z4 := hz 4 (by omega)
      have z5 := hz 5 (by omega)
      have z6 := hz 6 (by omega)
      have z7 := hz 7 (by omega)
      have z8 := hz 8 (by omega)
      have z9 := hz 9 (by omega)
      have z10 := hz 10 (by omega)
      simp only [List.getElem?_toArray, List.getElem?_cons_zero, List.getElem?_cons_succ, Option.getD_some] at z0 z1 z2 z3 z4 z5 z6 z7 z8 z9 z10
      have zf := (unhide hbox1).free 1
      have hown1' := hide hown1
      clear hown hgrow hnil hlo hnc hcm hown1 hi hz0 hz1 hz2 hgW hz u0 u1
      obtain ⟨w2, hw2⟩ : ∃ w2, w2 = w1.setCell ⟨w.heap.size, 1, none⟩ (.int .i64 G2) := ⟨_, rfl⟩
      have hown2 : Hid (Own w2 g n E) := by
        have hne : w.heap.size ≠ g := by omega
        obtain ⟨hn', m, F', hA, hm, hF'⟩ := unhide hown1'
        obtain ⟨cur, q1, q2, q3⟩ := hA
        rw [hw2]
        exact ⟨hn', m, F', ⟨cur, (heap_setCell_other w1 ⟨w.heap.size, 1, none⟩ g _ hne.symm).trans q1, q2, q3⟩, hm, hF'⟩
      have hgr2 : Hid (w.grownBy w2 none) := by rw [hw2]; exact grown_store (unhide hgr1) ⟨w.heap.size, 1, none⟩ (Nat.le_refl _) _
      obtain ⟨t0, t1, t2, t3, t4, t5, t6, t7, t8, t9, t10⟩ := (unhide hown2).ents.row hr
      have f := fun i => (unhide hown2).free i
      have hb2 := (unhide hbox1).store 1 (.int .i64 G2)
      rw [← hw2] at hb2
      have y0 : w2.cell? ⟨w.heap.size, 0, none⟩ = some (.int .i64 (e 0)) := hb2.cell (i := 0) (by show 0 < 11; omega)
      have y1 : w2.cell? ⟨w.heap.size, 1, none⟩ = some (.int .i64 G2) := hb2.cell (i := 1) (by show 1 < 11; omega)
      have y2 : w2.cell? ⟨w.heap.size, 2, none⟩ = some (.int .i64 (e 2)) := hb2.cell (i := 2) (by show 2 < 11; omega)
      have y3 : w2.cell? ⟨w.heap.size, 3, none⟩ = some (.int .i64 (e 3)) := hb2.cell (i := 3) (by show 3 < 11; omega)
      have y4 : w2.cell? ⟨w.heap.size, 4, none⟩ = some (.int .i64 (e 4)) := hb2.cell (i := 4) (by show 4 < 11; omega)
      have y5 : w2.cell? ⟨w.heap.size, 5, none⟩ = some (.int .i64 (e 5)) := hb2.cell (i := 5) (by show 5 < 11; omega)
      have y6 : w2.cell? ⟨w.heap.size, 6, none⟩ = some (.int .i64 (e 6)) := hb2.cell (i := 6) (by show 6 < 11; omega)
      have y7 : w2.cell? ⟨w.heap.size, 7, none⟩ = some (.int .i64 (e 7)) := hb2.cell (i := 7) (by show 7 < 11; omega)
      have y8 : w2.cell? ⟨w.heap.size, 8, none⟩ = some (.int .i64 (e 8)) := hb2.cell (i := 8) (by show 8 < 11; omega)
      have y9 : w2.cell? ⟨w.heap.size, 9, none⟩ = some (.int .i64 (e 9)) := hb2.cell (i := 9) (by show 9 < 11; omega)
      have y10 : w2.cell? ⟨w.heap.size, 10, none⟩ = some (.int .i64 (e 10)) := hb2.cell (i := 10) (by show 10 < 11; omega)
      have hw2' := hide hw2
      clear hb2
      clear hw2
      go_upto_region 9 with fail
      rw [← unhide hG2', ← unhide hw2']
      clear hs1 z0 z1 z2 z3 z4 z5 z6 z7 z8 z9 z10 zf hw2'
      go_wp2
      go_ret3
      exact ⟨g, cap, rfl, Nat.le_of_lt (unhide hcapf).1, (unhide hcapf).2.1, (unhide hcapf).2.2, unhide hst _ _ (unhide hown2), unhide hgs _ _ (unhide hgr2) (Nat.le_of_lt (unhide hcapf).1)⟩

end Go.Proofs.Ytbploaihicakeaa
