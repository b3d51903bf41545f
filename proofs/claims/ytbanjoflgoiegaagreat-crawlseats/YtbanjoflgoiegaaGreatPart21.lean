/-
  NavSpot GenFacts GenRefHold GenRefStairs GoodsFits EntSpawn
-/
import Derived.Test.YtbanjoflgoiegaaGreatPart19
import Derived.Test.YtbanjoflgoiegaaGreatPart16
import Derived.Deep.RegionLaw
import Derived.Deep.RegionWith
import Derived.Deep.Cut
import Derived.Deep.AppendLies
import Derived.Test.YtbanjoflgoiegaaGreatPart20
import Derived.BigQuiet
import Derived.Test.YtbanjoflgoiegaaGreatPart18
import Derived.Test.YtbanjoflgoiegaaGreatPart17
namespace Go.Proofs.YtbanjoflgoiegaaGreat
open Go.RowKit

def Nv.best (F : Nat → Int) (st : Nat → Bool) : Nat → Int
  | 0 => -1
  | k + 1 => if 0 ≤ F k ∧ st k = false ∧ (Nv.best F st k < 0 ∨ F k < F (Nv.best F st k).toNat) then (k : Int) else Nv.best F st k

theorem Nv.best_cases (F : Nat → Int) (st : Nat → Bool) : ∀ k, Nv.best F st k = -1 ∨ ∃ p : Nat, p < k ∧ Nv.best F st k = (p : Int)
  | 0 => .inl rfl
  | k + 1 => by
      unfold Nv.best
      split
      · exact .inr ⟨k, by omega, rfl⟩
      · rcases Nv.best_cases F st k with h | ⟨p, hp, h⟩
        · exact .inl h
        · exact .inr ⟨p, by omega, h⟩

theorem Nv.best_congr {F H : Nat → Int} {st : Nat → Bool} : ∀ k, (∀ i, i < k → F i = H i) → Nv.best F st k = Nv.best H st k
  | 0, _ => rfl
  | k + 1, h => by
      have ih := Nv.best_congr (st := st) k fun i hi => h i (by omega)
      unfold Nv.best
      rw [ih, h k (by omega)]
      rcases Nv.best_cases H st k with e | ⟨p, hp, e⟩
      · rw [e]; simp
      · rw [e, Int.toNat_natCast, h p (by omega)]

theorem Nv.best_skip {F : Nat → Int} {st : Nat → Bool} {k : Nat} (h : F k < 0 ∨ st k = true) : Nv.best F st (k + 1) = Nv.best F st k := by
  show (if _ then _ else _) = _
  rw [if_neg]
  rintro ⟨h1, h2, _⟩
  rcases h with h | h
  · omega
  · rw [h] at h2; cases h2

theorem Nv.best_first {F : Nat → Int} {st : Nat → Bool} {k : Nat} (h1 : 0 ≤ F k) (h2 : st k = false) (h : Nv.best F st k = -1) : Nv.best F st (k + 1) = (k : Int) := by
  show (if _ then _ else _) = _
  rw [if_pos ⟨h1, h2, .inl (by omega)⟩]

theorem Nv.best_less {F : Nat → Int} {st : Nat → Bool} {k p : Nat} (h1 : 0 ≤ F k) (h2 : st k = false) (h : Nv.best F st k = (p : Int)) (hlt : F k < F p) : Nv.best F st (k + 1) = (k : Int) := by
  show (if _ then _ else _) = _
  rw [if_pos ⟨h1, h2, .inr (by rw [h, Int.toNat_natCast]; exact hlt)⟩]

theorem Nv.best_more {F : Nat → Int} {st : Nat → Bool} {k p : Nat} (h : Nv.best F st k = (p : Int)) (hlt : ¬ F k < F p) : Nv.best F st (k + 1) = Nv.best F st k := by
  show (if _ then _ else _) = _
  rw [if_neg]
  rintro ⟨_, _, h3 | h3⟩
  · omega
  · rw [h, Int.toNat_natCast] at h3; exact hlt h3

def Nv.IsSpot (f : Nat → Int) (E : Nat → Nat → Int) (n : Nat) (x y v : Int) : Prop :=
  ∃ F : Nat → Int, Gr.IsField (fun i => Gr.openB f 0 (fun _ => false) i = true) (Gr.tgt f (fun _ => Nv.num x y) 1) F ∧ v = Nv.best F (Nv.st E n) 384

theorem Nv.IsSpot.one {f : Nat → Int} {E : Nat → Nat → Int} {n : Nat} {x y v v' : Int} (h : Nv.IsSpot f E n x y v) (h' : Nv.IsSpot f E n x y v') : v' = v := by
  obtain ⟨F, hF, rfl⟩ := h
  obtain ⟨H, hH, rfl⟩ := h'
  exact Nv.best_congr 384 fun i hi => hH.one hF i hi

def Nv.SaysSpot (w : World) (f : Nat → Int) (E : Nat → Nat → Int) (n : Nat) (x y : Int) (e : Ending) (w' : World) : Prop := ∃ v, Nv.IsSpot f E n x y v ∧ e = .returned (.int .i64 v) ∧ w.grownBy w' none

theorem Nv.num_bd (x y : Int) : -1 ≤ Nv.num x y ∧ Nv.num x y < 384 := by
  rcases Nv.num_cases x y with h | ⟨p, hp, h⟩ <;> omega

theorem Nv.one_row (w : World) (v : Int) (T : TypeId) : Vec (w.alloc (.cells #[.int .i64 v] T)).heap.size (w.alloc (.cells #[.int .i64 v] T)) (some ⟨w.heap.size, 0, none⟩) 1 (Ints fun _ => v) :=
  ⟨by unfold maxLen; omega, .inr ⟨_, 0, rfl, by simp, fun i hi => by
    obtain rfl : i = 0 := by omega
    exact cell_boxed w _ T _ rfl⟩⟩

set_option maxRecDepth 8000 in
set_option maxHeartbeats 1600000 in
theorem navSpot_any (ca a : Option Addr) (cc n c : Nat) (f : Nat → Int) (E : Nat → Nat → Int) (x y : Int) (w : World)
    (hc : Vec w.heap.size w ca 384 (Byts f)) (hf : ∀ i, 0 ≤ f i ∧ f i ≤ 255) (hL : Nv.Lst w a n c E) (hW : Nv.Words n E)
    (x1 : -9223372036854775808 ≤ x) (x2 : x ≤ 9223372036854775807) (y1 : -9223372036854775808 ≤ y) (y2 : y ≤ 9223372036854775807) :
    Calls Tryz.prog 144 #[.slice ca 384 cc, .slice a n c, .int .i64 x, .int .i64 y] w (Nv.SaysSpot w f E n x y) := by
  have hc' := hide hc
  have hf' := hide hf
  have hL' := hide hL
  have hW' := hide hW
  have cn := hide (fun w' => numberAt_any x y w' x1 x2 y1 y2)
  have hv := hide (Nv.num_bd x y)
  have hs0 : Hid (∀ F, Gr.IsField (fun i => Gr.openB f 0 (fun _ => false) i = true) (Gr.tgt f (fun _ => Nv.num x y) 1) F → Nv.IsSpot f E n x y (Nv.best F (Nv.st E n) 384)) := fun F h => ⟨F, h, rfl⟩
  generalize Nv.num x y = v at *
  clear hc hf hL hW x1 x2 y1 y2
  go_enter Tryz.func144, Tryz.ntmps144
  go_wp2_with fail
  refine (taken_any a n c E _ (unhide hL') (unhide hW')).mono ?_
  rintro e w2 ⟨g, rfl, hg, hA, hB⟩
  have hA' := hide hA
  have hB' := hide hB
  clear hA hB
  go_wp2_with fail
  refine (point_any _ _ _).mono ?_
  rintro e w1 ⟨rfl, rfl⟩
  go_wp2_with fail
  refine (unhide cn _).mono ?_
  rintro e w1 ⟨rfl, rfl⟩
  go_wp2_with fail
  obtain ⟨w3, hw3⟩ : ∃ w3, w3 = w1.alloc (.cells #[.int .i64 v] 3) := ⟨_, rfl⟩
  have hB3 : Below w.heap.size w w3 := by rw [hw3]; exact (unhide hB').alloc (unhide hB').size _
  have hA3 : Arr w3 g 4 384 (Bols (Nv.st E n)) := by rw [hw3]; exact (unhide hA').alloc _
  have hV : Vec w3.heap.size w3 (some ⟨w1.heap.size, 0, none⟩) 1 (Ints fun _ => v) := by rw [hw3]; exact Nv.one_row w1 v _
  obtain ⟨v1, v2⟩ := unhide hv
  rw [← hw3]
  refine (field_any ca none (some ⟨w1.heap.size, 0, none⟩) 0 1 cc 0 1 f (fun _ => v) (fun _ => false) w3 (((unhide hc').kept hB3).mono hB3.size) (unhide hf') ⟨by unfold maxLen; omega, .inl rfl⟩ hV (fun _ => ⟨by omega, by omega⟩)).mono ?_
  rintro e w4 ⟨F, ⟨g2, rfl, hg2, hA4, hB4⟩, hF⟩
  have hspot := hide (unhide hs0 F hF)
  have hgw' := hide (below_grown (hB3.trans (hB4.mono hB3.size)))
  have hAb' := hide (hA3.kept hB4 hA3.lt)
  have hA4' := hide hA4
  clear hA4 hB4 hA3 hV hB3 hw3 hF hs0 v1 v2 cn hA' hB' hg2
  go_wp2_with fail
  go_loop [11, 25] (fun s i => ∃ k : Nat, k ≤ 384 ∧ s = .int .i64 (Nv.best F (Nv.st E n) k) ∧ i = .int .i64 (k : Int)) (fun _ i => 384 - (intOf i).toNat)
  case atStart => exact ⟨0, by omega, rfl, rfl⟩
  case round =>
    obtain ⟨k, hk, rfl, rfl⟩ := hrel
    by_cases hlt : k < 384
    · have hlt' : (k : Int) < 384 := by omega
      have HL := hide hlt
      have hck : w4.cell? ⟨g2, k, none⟩ = some (.int .i64 (F k)) := (unhide hA4').cell hlt
      have hcs : w4.cell? ⟨g, k, none⟩ = some (.bool (Nv.st E n k)) := (unhide hAb').cell hlt
      clear hlt hk
      by_cases h1 : F k < 0
      · have hb := hide (Nv.best_skip (F := F) (st := Nv.st E n) (k := k) (.inl h1))
        generalize Nv.best F (Nv.st E n) k = r at hb
        go_wp2
        go_round
        case rel => exact ⟨k + 1, by have := unhide HL; omega, by rw [unhide hb], by go_num⟩
        case measure => have := unhide HL; simp [intOf]; omega
      · by_cases h2 : Nv.st E n k = true
        · have hb := hide (Nv.best_skip (F := F) (st := Nv.st E n) (k := k) (.inr h2))
          rw [h2] at hcs
          generalize Nv.best F (Nv.st E n) k = r at hb
          clear h2
          go_wp2
          go_round
          case rel => exact ⟨k + 1, by have := unhide HL; omega, by rw [unhide hb], by go_num⟩
          case measure => have := unhide HL; simp [intOf]; omega
        · rw [Bool.not_eq_true] at h2
          rw [h2] at hcs
          rcases Nv.best_cases F (Nv.st E n) k with e | ⟨p, hp, e⟩
          · have hb := hide (Nv.best_first (by omega) h2 e)
            rw [e]
            clear h2 e
            go_wp2
            go_round
            case rel => exact ⟨k + 1, by have := unhide HL; omega, by rw [unhide hb], by go_num⟩
            case measure => have := unhide HL; simp [intOf]; omega
          · have hcp : w4.cell? ⟨g2, p, none⟩ = some (.int .i64 (F p)) := (unhide hA4').cell (by have := unhide HL; omega)
            have hp' : (p : Int) < 384 := by have := unhide HL; omega
            by_cases h3 : F k < F p
            · have hb := hide (Nv.best_less (by omega) h2 e h3)
              rw [e]
              clear h2 e hp
              go_wp2
              go_round
              case rel => exact ⟨k + 1, by have := unhide HL; omega, by rw [unhide hb], by go_num⟩
              case measure => have := unhide HL; simp [intOf]; omega
            · have hb := hide ((Nv.best_more (st := Nv.st E n) e h3).trans e)
              rw [e]
              clear h2 e hp
              go_wp2
              go_round
              case rel => exact ⟨k + 1, by have := unhide HL; omega, by rw [unhide hb], by go_num⟩
              case measure => have := unhide HL; simp [intOf]; omega
    · have hge : ¬ (k : Int) < 384 := by omega
      obtain rfl : k = 384 := by omega
      generalize Nv.best F (Nv.st E n) 384 = r at hspot
      go_wp2
      go_ret
      exact ⟨_, unhide hspot, rfl, unhide hgw'⟩

end Go.Proofs.YtbanjoflgoiegaaGreat

namespace Go.Proofs.YtbanjoflgoiegaaGreat

namespace Gn

theorem path_in {d : Dice} (hd : Fair d) (k i : Nat) (h : path d k i) : i < 384 ∧ 1 ≤ i % 24 ∧ i % 24 ≤ 22 ∧ 1 ≤ i / 24 ∧ i / 24 ≤ 14 := by
  have key : ∀ (n : Nat) (x y : Int), (1 ≤ x ∧ x ≤ 22) ∧ 1 ≤ y ∧ y ≤ 14 → ∀ i, onPath (mx d (k + 1)) (my d (k + 1)) (d ((k + 1 : Nat) : Int) 4 2 == 0) n x y i → i < 384 ∧ 1 ≤ i % 24 ∧ i % 24 ≤ 22 ∧ 1 ≤ i / 24 ∧ i / 24 ≤ 14 := by
    have ht := mid_bd hd (k + 1)
    intro n
    induction n with
    | zero =>
      intro x y hb i hi
      have hi' : i = (y * 24 + x).toNat := hi
      omega
    | succ n ih =>
      intro x y hb i hi
      rcases hi with rfl | hi
      · omega
      · exact ih _ _ (step_bd x y _ _ _ hb (by omega)) i hi
  have hb := mid_bd hd k
  exact key _ _ _ (by omega) i h

theorem dug_in {d : Dice} (hd : Fair d) (i : Nat) (h : dug d 5 i ≠ 0) : 1 ≤ i % 24 ∧ i % 24 ≤ 22 ∧ 1 ≤ i / 24 ∧ i / 24 ≤ 14 := by
  rcases (dug_nz d 5 i).1 h with ⟨k, _, hin⟩ | ⟨k, _, hp⟩
  · have hb := room_bd hd k
    unfold inRoom at hin
    omega
  · exact (path_in hd k i hp).2

theorem up_lt {d : Dice} (hd : Fair d) : up d < 384 := by
  have := mid_bd hd 0
  unfold up
  omega

theorem beside_up {d : Dice} (hd : Fair d) : dug d 5 (up d - 1) ≠ 0 ∧ dug d 5 (up d) ≠ 0 ∧ 1 ≤ up d ∧ (up d - 1) / 24 = up d / 24 := by
  have hb := room_bd hd 0
  have hm := mid_in hd 0
  have hu := up_eq hd
  have hmb := mid_bd hd 0
  have hx : rx d 0 ≤ mx d 0 - 1 := by unfold mx; omega
  refine ⟨(dug_nz d 5 _).2 (.inl ⟨0, by omega, ?_⟩), (dug_nz d 5 _).2 (.inl ⟨0, by omega, ?_⟩), by omega, by omega⟩
  · have h := inRoom_at hd (k := 0) (x := mx d 0 - 1) (y := my d 0) hx (by omega) hm.2.2.1 hm.2.2.2
    rwa [show (my d 0 * 24 + (mx d 0 - 1)).toNat = up d - 1 by omega] at h
  · have h := inRoom_at hd (k := 0) (x := mx d 0) (y := my d 0) hm.1 hm.2.1 hm.2.2.1 hm.2.2.2
    rwa [show (my d 0 * 24 + mx d 0).toNat = up d by omega] at h

theorem base_up (d : Dice) : base d (up d) = 3 := Gr.upd_at _ _ _
theorem base_ne (d : Dice) {i : Nat} (h : i ≠ up d) : base d i = dug d 5 i := Gr.upd_ne _ _ h

theorem base_nz {d : Dice} (hd : Fair d) (i : Nat) : base d i ≠ 0 ↔ dug d 5 i ≠ 0 := by
  by_cases e : i = up d
  · rw [e, base_up]
    have := (beside_up hd).2.1
    constructor
    · exact fun _ => this
    · exact fun _ => by omega
  · rw [base_ne d e]

theorem walk_nz {c : Int} (h : 0 ≤ c ∧ c ≤ 5) : Gr.walkB c = true ↔ c ≠ 0 := by
  rw [Gr.walkB_iff]; omega

structure Facts (d : Dice) (c F : Nat → Int) (far : Nat) : Prop where
  five : ∀ i, 0 ≤ c i ∧ c i ≤ 5
  nz : ∀ i, c i ≠ 0 ↔ dug d 5 i ≠ 0
  upl : up d < 384
  farl : far < 384
  is3 : ∀ i, c i = 3 ↔ i = up d
  is4 : ∀ i, c i = 4 ↔ i = far
  door : ∀ i, c i = 2 → dug d 5 i = 2
  fld : Gr.IsField (fun i => Gr.walkB (c i) = true) (fun i => i = up d) F
  pos : 0 < F far
  five1 : (∀ i, c i ≠ 5) ∨ ∃ k, k < 384 ∧ ∀ i, c i = 5 ↔ i = k

theorem IsLevel.facts {d : Dice} (hd : Fair d) {c F : Nat → Int} (h : IsLevel d c F) : ∃ far, Facts d c F far := by
  have h5 := h.five
  obtain ⟨far, hF, hfar, hc⟩ := h
  refine ⟨far, ?_⟩
  have hul := up_lt hd
  obtain ⟨b1, b2, b3, b4⟩ := beside_up hd
  have hF0 : F (up d) = 0 := (hF.is.zero _ hul).2 rfl
  -- the cell left of it is one step away
  have hleft : 0 < F (up d - 1) := by
    have hin : Gr.nbIn (up d) 3 ∧ ((up d / 24 : Nat) + Gr.dyOf 3) * 24 + ((up d % 24 : Nat) + Gr.dxOf 3) = ((up d - 1 : Nat) : Int) := by
      have hdi := dug_in hd _ b2
      unfold Gr.nbIn
      simp only [Gr.dxOf, Gr.dyOf]
      omega
    have hnb : Gr.nbOf (up d) 3 = up d - 1 := by have := Gr.nb_eq hin.1; omega
    have hfw := hF.is.fwd (up d) hul (by omega) 3 (by omega) hin.1 (by rw [hnb]; exact (walk_nz (base_5 d _)).2 ((base_nz hd _).2 b1))
    rw [hnb] at hfw
    have hne : F (up d - 1) ≠ 0 := fun e => by have := (hF.is.zero (up d - 1) (by omega)).1 e; omega
    omega
  have hpos : 0 < F far := by have := hfar.top (up d - 1) (by omega); omega
  have hfu : far ≠ up d := fun e => by rw [e] at hpos; omega
  -- the furthest cell is no wall
  have hfn : base d far ≠ 0 := (walk_nz (base_5 d far)).1 ((hF.is.back far hfar.lt hpos).1)
  obtain ⟨c2, hc2⟩ : ∃ c2, c2 = Gr.upd (base d) far 4 := ⟨_, rfl⟩
  have c2far : c2 far = 4 := by rw [hc2]; exact Gr.upd_at _ _ _
  have c2ne : ∀ i, i ≠ far → c2 i = base d i := fun i hi => by rw [hc2]; exact Gr.upd_ne _ _ hi
  have c2up : c2 (up d) = 3 := by rw [c2ne _ (fun e => hfu e.symm), base_up]
  have c2old : ∀ i, i ≠ far → i ≠ up d → c2 i = dug d 5 i := fun i h1 h2 => by rw [c2ne i h1, base_ne d h2]
  -- what the shop does
  have hshop : (∀ i, c i = c2 i) ∨ ∃ k, k < 384 ∧ c2 k = 1 ∧ ∀ i, c i = if i = k then 5 else c2 i := by
    rw [hc]
    unfold stocked
    rw [← hc2]
    split
    · cases hs : shop c2 F (F far / 2) with
      | none => exact .inl fun i => rfl
      | some k =>
        right
        unfold shop at hs
        rw [List.find?_range_eq_some] at hs
        obtain ⟨hp, hk, _⟩ := hs
        rw [Bool.and_eq_true] at hp
        exact ⟨k, List.mem_range.1 hk, by simpa using hp.2, fun i => rfl⟩
    · exact .inl fun i => rfl
  have h2all : ∀ i, 0 ≤ dug d 5 i ∧ dug d 5 i ≤ 2 := dug_2 d 5
  have c2nz : ∀ i, c2 i ≠ 0 ↔ dug d 5 i ≠ 0 := by
    intro i
    by_cases e1 : i = far
    · rw [e1, c2far]
      exact ⟨fun _ => (base_nz hd far).1 hfn, fun _ => by omega⟩
    · rw [c2ne i e1]; exact base_nz hd i
  have c3 : ∀ i, c2 i = 3 ↔ i = up d := by
    intro i
    constructor
    · intro h
      by_cases e2 : i = up d
      · exact e2
      · by_cases e1 : i = far
        · rw [e1, c2far] at h; omega
        · rw [c2old i e1 e2] at h
          have := h2all i; omega
    · intro e; rw [e]; exact c2up
  have c4 : ∀ i, c2 i = 4 ↔ i = far := by
    intro i
    constructor
    · intro h
      by_cases e1 : i = far
      · exact e1
      · by_cases e2 : i = up d
        · rw [e2, c2up] at h; omega
        · rw [c2old i e1 e2] at h
          have := h2all i; omega
    · intro e; rw [e]; exact c2far
  have c5 : ∀ i, c2 i ≠ 5 := by
    intro i
    by_cases e1 : i = far
    · rw [e1, c2far]; omega
    · by_cases e2 : i = up d
      · rw [e2, c2up]; omega
      · rw [c2old i e1 e2]
        have := h2all i; omega
  have cdoor : ∀ i, c2 i = 2 → dug d 5 i = 2 := by
    intro i h
    by_cases e1 : i = far
    · rw [e1, c2far] at h; omega
    · by_cases e2 : i = up d
      · rw [e2, c2up] at h; omega
      · rw [c2old i e1 e2] at h; exact h
  have hnz : ∀ i, c i ≠ 0 ↔ dug d 5 i ≠ 0 := by
    intro i
    rcases hshop with hs | ⟨k, hk, hk1, hs⟩
    · rw [hs i]; exact c2nz i
    · rw [hs i]
      by_cases e : i = k
      · rw [if_pos e]
        have := (c2nz k).1 (by omega)
        rw [e]
        exact ⟨fun _ => this, fun _ => by omega⟩
      · rw [if_neg e]; exact c2nz i
  refine ⟨h5, hnz, hul, hfar.lt, ?_, ?_, ?_, ?_, hpos, ?_⟩
  · intro i
    rcases hshop with hs | ⟨k, hk, hk1, hs⟩
    · rw [hs i]; exact c3 i
    · rw [hs i]
      by_cases e : i = k
      · rw [if_pos e]
        constructor
        · intro h; omega
        · intro e2; rw [← e, e2, c2up] at hk1; omega
      · rw [if_neg e]; exact c3 i
  · intro i
    rcases hshop with hs | ⟨k, hk, hk1, hs⟩
    · rw [hs i]; exact c4 i
    · rw [hs i]
      by_cases e : i = k
      · rw [if_pos e]
        constructor
        · intro h; omega
        · intro e2; rw [← e, e2, c2far] at hk1; omega
      · rw [if_neg e]; exact c4 i
  · intro i hi
    rcases hshop with hs | ⟨k, hk, hk1, hs⟩
    · rw [hs i] at hi; exact cdoor i hi
    · rw [hs i] at hi
      by_cases e : i = k
      · rw [if_pos e] at hi; omega
      · rw [if_neg e] at hi; exact cdoor i hi
  · refine isField_congr hF.is (fun i _ => ?_) (fun _ _ => Iff.rfl) (fun _ _ => rfl)
    rw [walk_nz (base_5 d i), walk_nz (h5 i), base_nz hd i, hnz i]
  · rcases hshop with hs | ⟨k, hk, hk1, hs⟩
    · left
      intro i
      rw [hs i]; exact c5 i
    · right
      refine ⟨k, hk, fun i => ?_⟩
      rw [hs i]
      by_cases e : i = k
      · rw [if_pos e]; simp [e]
      · rw [if_neg e]
        constructor
        · intro h; exact absurd h (c5 i)
        · intro h; exact absurd h e

theorem Facts.reach {d : Dice} (hd : Fair d) {c F : Nat → Int} {far : Nat} (h : Facts d c F far) (i : Nat) (hi : i < 384) : 0 ≤ F i ↔ c i ≠ 0 := by
  constructor
  · intro h0
    by_cases e : F i = 0
    · have := (h.fld.zero i hi).1 e
      rw [this, (h.is3 _).2 rfl]; omega
    · exact (walk_nz (h.five i)).1 (h.fld.back i hi (by omega)).1
  · intro hc
    refine hangs hd (c := c) (fun j _ => h.nz j) (P := fun j => 0 ≤ F j) ?_ ?_ i hi hc
    · intro j e hj he hP hin hcn
      exact (h.fld.fwd j hj hP e he hin ((walk_nz (h.five _)).2 hcn)).1
    · have := (h.fld.zero _ h.upl).2 rfl
      omega

end Gn

end Go.Proofs.YtbanjoflgoiegaaGreat

namespace Go.Proofs.YtbanjoflgoiegaaGreat
open Go.RowKit

namespace Gn

theorem those_nodup (p : Nat → Bool) (n : Nat) : (those p n).Nodup := List.Pairwise.filter _ List.nodup_range

end Gn

structure RefBase (w : World) (B G gF L : Nat) (c F : Nat → Int) (vE : Value) (nE : Nat) (xs : List Value) (vI : Value) (wr : World) : Prop where
  cells : Arr wr G 5 384 (Byts c)
  fld : Arr wr gF 3 384 (Ints F)
  res : Arr wr B 58 3 (fun _ => .slice none 0 0)
  box : Arr wr L 58 3 (fun j => if j = 0 then .slice (some ⟨G, 0, none⟩) 384 384 else if j = 1 then vE else vI)
  ents : wr.ownsRow (L + 1) 54 11 vE nE xs
  grown : w.grownBy wr none
  o0 : w.heap.size ≤ B
  o1 : B < G
  o2 : G < gF
  o3 : gF < L

theorem RefBase.own {w : World} {B G gF L : Nat} {c F : Nat → Int} {vE : Value} {nE : Nat} {xs : List Value} {vI : Value} {wr wx : World} {r : Option Nat} (h : RefBase w B G gF L c F vE nE xs vI wr) (hg : wr.grownBy wx r) (hr : ∀ n, r = some n → L < n ∧ vE.ownBlock ≠ some n) : RefBase w B G gF L c F vE nE xs vI wx := by
  have h0 := h.o0
  have h1 := h.o1
  have h2 := h.o2
  have h3 := h.o3
  refine ⟨h.cells.grown hg (fun e => ?_), h.fld.grown hg (fun e => ?_), h.res.grown hg (fun e => ?_), h.box.grown hg (fun e => ?_), h.ents.kept hg ?_, grown_own h.grown hg (fun n e => ?_), h0, h1, h2, h3⟩
  · have := (hr _ e).1; omega
  · have := (hr _ e).1; omega
  · have := (hr _ e).1; omega
  · have := (hr _ e).1; omega
  · cases hv : vE.ownBlock with
    | none => exact .inl rfl
    | some n => exact .inr fun e => (hr n e.symm).2 hv
  · have := (hr _ e).1; omega

theorem RefBase.on {w : World} {B G gF L : Nat} {c F : Nat → Int} {vE : Value} {nE : Nat} {xs : List Value} {vI : Value} {wr wx : World} (h : RefBase w B G gF L c F vE nE xs vI wr) (hg : wr.grownBy wx none) : RefBase w B G gF L c F vE nE xs vI wx :=
  h.own hg (fun n e => by cases e)

theorem RefBase.setI {w : World} {B G gF L : Nat} {c F : Nat → Int} {vE : Value} {nE : Nat} {xs : List Value} {vI : Value} {wr : World} (h : RefBase w B G gF L c F vE nE xs vI wr) (vN : Value) : RefBase w B G gF L c F vE nE xs vN (wr.setCell ⟨L, 2, none⟩ vN) := by
  have h0 := h.o0
  have h1 := h.o1
  have h2 := h.o2
  have h3 := h.o3
  have hg := grown_put wr L 2 vN
  refine ⟨h.cells.grown hg (by simp; omega), h.fld.grown hg (by simp; omega), h.res.grown hg (by simp; omega), (h.box.store 2 vN).congr fun j hj => ?_, h.ents.kept hg ?_, grown_own h.grown hg (fun n e => by cases e; omega), h0, h1, h2, h3⟩
  · rcases (show j = 0 ∨ j = 1 ∨ j = 2 by omega) with rfl | rfl | rfl <;> rfl
  · cases hv : vE.ownBlock with
    | none => exact .inl rfl
    | some n => exact .inr fun e => by have := (h.ents.lt n hv).1; cases e; omega

theorem RefBase.setE {w : World} {B G gF L : Nat} {c F : Nat → Int} {vE : Value} {nE : Nat} {xs : List Value} {vI : Value} {wr wx : World} (h : RefBase w B G gF L c F vE nE xs vI wr) (hg : wr.grownBy wx vE.ownBlock) {vN : Value} {n' : Nat} {xs' : List Value} (hN : wx.ownsRow (L + 1) 54 11 vN n' xs') : RefBase w B G gF L c F vN n' xs' vI (wx.setCell ⟨L, 1, none⟩ vN) := by
  have h0 := h.o0
  have h1 := h.o1
  have h2 := h.o2
  have h3 := h.o3
  have hp := grown_put wx L 1 vN
  have hL : ∀ n, vE.ownBlock = some n → L < n := fun n e => (h.ents.lt n e).1
  refine ⟨(h.cells.grown hg (fun e => ?_)).grown hp (by simp; omega), (h.fld.grown hg (fun e => ?_)).grown hp (by simp; omega), (h.res.grown hg (fun e => ?_)).grown hp (by simp; omega), ((h.box.grown hg (fun e => ?_)).store 1 vN).congr fun j hj => ?_, hN.kept hp ?_, grown_own (grown_own h.grown hg (fun n e => ?_)) hp (fun n e => by cases e; omega), h0, h1, h2, h3⟩
  · have := hL _ e; omega
  · have := hL _ e; omega
  · have := hL _ e; omega
  · have := hL _ e; omega
  · rcases (show j = 0 ∨ j = 1 ∨ j = 2 by omega) with rfl | rfl | rfl <;> rfl
  · cases hv : vN.ownBlock with
    | none => exact .inl rfl
    | some n => exact .inr fun e => by have := (hN.lt n hv).1; cases e; omega
  · have := hL _ e; omega

structure RefItm (w : World) (B G gF L U bI : Nat) (c F : Nat → Int) (vE : Value) (nE : Nat) (xs : List Value) (vI : Value) (M : Nat → Bool) (acc : List Gn.Itm) (wr : World) : Prop where
  base : RefBase w B G gF L c F vE nE xs vI wr
  used : Arr wr U 4 384 (Bols M)
  items : wr.ownsRow bI 62 4 vI acc.length (Gn.flatI acc)
  sep : ∀ n, vE.ownBlock = some n → n < U
  o4 : L < U
  o5 : U < bI
  o6 : bI ≤ wr.heap.size

theorem RefItm.on {w : World} {B G gF L U bI : Nat} {c F : Nat → Int} {vE : Value} {nE : Nat} {xs : List Value} {vI : Value} {M : Nat → Bool} {acc : List Gn.Itm} {wr wx : World} (h : RefItm w B G gF L U bI c F vE nE xs vI M acc wr) (hg : wr.grownBy wx none) : RefItm w B G gF L U bI c F vE nE xs vI M acc wx :=
  ⟨h.base.on hg, h.used.grown hg (by simp), h.items.kept hg (by cases vI.ownBlock <;> simp), h.sep, h.o4, h.o5, Nat.le_trans h.o6 hg.size⟩

theorem RefItm.add {w : World} {B G gF L U bI : Nat} {c F : Nat → Int} {vE : Value} {nE : Nat} {xs : List Value} {vI vN : Value} {M : Nat → Bool} {acc : List Gn.Itm} {p : Gn.Itm} {wr wx : World} (h : RefItm w B G gF L U bI c F vE nE xs vI M acc wr) (hN : wx.ownsRow bI 62 4 vN (acc.length + 1) (Gn.flatI acc ++ Gn.itemCells p)) (hg : wr.grownBy wx vI.ownBlock) :
    RefItm w B G gF L U bI c F vE nE xs vN M (acc ++ [p]) (wx.setCell ⟨L, 2, none⟩ vN) := by
  have h4 := h.o4
  have h5 := h.o5
  have hp := grown_put wx L 2 vN
  have hb : RefBase w B G gF L c F vE nE xs vI wx := h.base.own hg (fun n e => by
    have := (h.items.lt n e).1
    refine ⟨by omega, fun e' => ?_⟩
    have := h.sep n e'
    omega)
  refine ⟨hb.setI vN, (h.used.grown hg (fun e => ?_)).grown hp (by simp; omega), ?_, h.sep, h.o4, h.o5, Nat.le_trans h.o6 (Nat.le_trans hg.size hp.size)⟩
  · have := (h.items.lt _ e).1; omega
  · rw [Gn.flatI_more, List.length_append]
    refine hN.kept hp ?_
    cases hv : vN.ownBlock with
    | none => exact .inl rfl
    | some n => exact .inr fun e => by have := (hN.lt n hv).1; cases e; omega

structure RefMon (w : World) (B G gF L U bE : Nat) (c F : Nat → Int) (vE : Value) (M : Nat → Bool) (acc : List (Int × Nat)) (wr : World) : Prop where
  base : RefBase w B G gF L c F vE acc.length (Gn.flat acc) (.slice none 0 0) wr
  used : Arr wr U 4 384 (Bols M)
  ents : wr.ownsRow bE 54 11 vE acc.length (Gn.flat acc)
  o4 : L < U
  o5 : U < bE
  o6 : bE ≤ wr.heap.size

theorem RefMon.own {w : World} {B G gF L U bE : Nat} {c F : Nat → Int} {vE : Value} {M : Nat → Bool} {acc : List (Int × Nat)} {wr wx : World} {r : Option Nat} (h : RefMon w B G gF L U bE c F vE M acc wr) (hg : wr.grownBy wx r) (hr : ∀ n, r = some n → U < n ∧ vE.ownBlock ≠ some n) : RefMon w B G gF L U bE c F vE M acc wx := by
  have h4 := h.o4
  refine ⟨h.base.own hg (fun n e => ⟨by have := (hr n e).1; omega, (hr n e).2⟩), h.used.grown hg (fun e => ?_), h.ents.kept hg ?_, h.o4, h.o5, Nat.le_trans h.o6 hg.size⟩
  · have := (hr _ e).1; omega
  · cases hv : vE.ownBlock with
    | none => exact .inl rfl
    | some n => exact .inr fun e => (hr n e.symm).2 hv

theorem RefMon.on {w : World} {B G gF L U bE : Nat} {c F : Nat → Int} {vE : Value} {M : Nat → Bool} {acc : List (Int × Nat)} {wr wx : World} (h : RefMon w B G gF L U bE c F vE M acc wr) (hg : wr.grownBy wx none) : RefMon w B G gF L U bE c F vE M acc wx :=
  h.own hg (fun n e => by cases e)

theorem RefMon.add {w : World} {B G gF L U bE : Nat} {c F : Nat → Int} {vE vN : Value} {M : Nat → Bool} {acc : List (Int × Nat)} {p : Int × Nat} {wr wx : World} (h : RefMon w B G gF L U bE c F vE M acc wr) (hN : wx.ownsRow bE 54 11 vN (acc.length + 1) (Gn.flat acc ++ Gn.entCells p)) (hg : wr.grownBy wx vE.ownBlock) :
    RefMon w B G gF L U bE c F vN M (acc ++ [p]) (wx.setCell ⟨L, 1, none⟩ vN) := by
  have h4 := h.o4
  have h5 := h.o5
  have hp := grown_put wx L 1 vN
  have hN' : wx.ownsRow bE 54 11 vN (acc ++ [p]).length (Gn.flat (acc ++ [p])) := by
    rw [Gn.flat_more, List.length_append]
    exact hN
  refine ⟨h.base.setE hg (owns_mono hN' (by omega)), (h.used.grown hg (fun e => ?_)).grown hp (by simp; omega), hN'.kept hp ?_, h.o4, h.o5, Nat.le_trans h.o6 (Nat.le_trans hg.size hp.size)⟩
  · have := (h.ents.lt _ e).1; omega
  · cases hv : vN.ownBlock with
    | none => exact .inl rfl
    | some n => exact .inr fun e => by have := (hN.lt n hv).1; cases e; omega

end Go.Proofs.YtbanjoflgoiegaaGreat

namespace Go.Proofs.YtbanjoflgoiegaaGreat
open Go.RowKit

structure RefStr (w : World) (B G gF : Nat) (c F : Nat → Int) (wr : World) : Prop where
  cells : Arr wr G 5 384 (Byts c)
  fld : Arr wr gF 3 384 (Ints F)
  res : Arr wr B 58 3 (fun _ => .slice none 0 0)
  grown : w.grownBy wr none
  o0 : w.heap.size ≤ B
  o1 : B < G
  o2 : G < gF

theorem RefStr.on {w : World} {B G gF : Nat} {c F : Nat → Int} {wr wx : World} (h : RefStr w B G gF c F wr) (hg : wr.grownBy wx none) : RefStr w B G gF c F wx :=
  ⟨h.cells.grown hg (by simp), h.fld.grown hg (by simp), h.res.grown hg (by simp), grown_none h.grown hg, h.o0, h.o1, h.o2⟩

theorem RefStr.put {w : World} {B G gF : Nat} {c F : Nat → Int} {wr : World} (h : RefStr w B G gF c F wr) (k : Nat) (v : Int) : RefStr w B G gF (Gr.upd c k v) F (wr.setCell ⟨G, k, none⟩ (.int .u8 v)) := by
  have h0 := h.o0
  have h1 := h.o1
  have h2 := h.o2
  have hg := grown_put wr G k (.int .u8 v)
  exact ⟨h.cells.byte k v, h.fld.grown hg (by simp; omega), h.res.grown hg (by simp; omega), grown_own h.grown hg (fun n e => by cases e; omega), h0, h1, h2⟩

end Go.Proofs.YtbanjoflgoiegaaGreat

namespace Go.Proofs.YtbanjoflgoiegaaGreat
open Go.RowKit

def Gd.fitsB (c : Nat → Int) (k p a b : Int) : Bool :=
  decide (1 ≤ k ∧ k ≤ 4) && (if p = 1 then Gr.walkB (Gr.at 384 c a b) else if p = 2 then Gd.isSeat a && (decide (0 ≤ b) && (decide (b < 4) && decide (k ≠ 4)))
    else if p = 3 then Gd.isSeat a && (Gd.serves k 7 && decide (b = k - 2)) else if p = 4 then decide (0 ≤ a) && (decide (a < 3) && (decide (b = 0) && decide (k ≠ 4))) else false)

end Go.Proofs.YtbanjoflgoiegaaGreat

namespace Go.Proofs.YtbanjoflgoiegaaGreat
open Go.RowKit

theorem Ents.flat {w : World} {b n : Nat} {E : Nat → Nat → Int} (h : Ents w b n E) {c : Nat} (hc : c < n * 11) : w.cell? ⟨b, c, none⟩ = some (En.flat E c) := by
  have := h.2.2 (c / 11) (c % 11) (by omega) (by omega)
  rwa [show c / 11 * 11 + c % 11 = c by omega] at this

theorem Ents.set {w : World} {b n : Nat} {E : Nat → Nat → Int} (h : Ents w b n E) {p i : Nat} (hp : p ≠ b) (u : Value) : Ents (w.setCell ⟨p, i, none⟩ u) b n E :=
  ⟨h.1, by simpa using h.2.1, fun i' j hi hj => (World.cell?_of_block (a := ⟨b, i' * 11 + j, none⟩) (heap_setCell_other w ⟨p, i, none⟩ b u hp.symm)).trans (h.2.2 i' j hi hj)⟩

def En.list (n : Nat) (E : Nat → Nat → Int) : List Value := (List.range (n * 11)).map (En.flat E)

theorem En.list_len (n : Nat) (E : Nat → Nat → Int) : (En.list n E).length = n * 11 := by simp [En.list]

theorem En.list_at {n : Nat} {E : Nat → Nat → Int} {c : Nat} (hc : c < n * 11) : (En.list n E)[c]? = some (En.flat E c) := by
  unfold En.list
  rw [List.getElem?_map, List.getElem?_range hc]
  rfl

theorem En.list_one {n : Nat} {E : Nat → Nat → Int} : ∀ v ∈ En.list n E, v.oneCell' = true := by
  intro v hv
  unfold En.list at hv
  obtain ⟨c, _, rfl⟩ := List.mem_map.1 hv
  rfl

theorem Ents.src {w : World} {b n : Nat} {E : Nat → Nat → Int} (h : Ents w b n E) : ∀ j v, (En.list n E)[j]? = some v → w.cell? ((⟨b, 0, none⟩ : Addr).add j) = some v := by
  intro j v hj
  have hlt : j < n * 11 := by
    have := (List.getElem?_eq_some_iff.1 hj).1
    rwa [En.list_len] at this
  rw [En.list_at hlt] at hj
  rw [show (⟨b, 0, none⟩ : Addr).add j = ⟨b, j, none⟩ by rw [Go.WideShapes.add_plain, Nat.zero_add], h.flat hlt]
  exact hj

theorem Own.of_row {w : World} {g n : Nat} {E : Nat → Nat → Int} (hn : n ≤ 32) (h : w.heap[g]? = some (.cells (En.list n E).toArray 54 (0, 0))) : Own w g n E := by
  refine ⟨hn, _, _, Arr.lit h, by simp [En.list_len], fun c hc => ?_⟩
  show (En.list n E).toArray[c]?.getD undef = _
  rw [List.getElem?_toArray, En.list_at hc]
  rfl

set_option maxHeartbeats 800000 in
theorem twin_any (b n c : Nat) (E : Nat → Nat → Int) (w : World) (hE : Ents w b n E) :
    Calls Tryz.prog 146 #[.slice (some ⟨b, 0, none⟩) n c] w (Lists w n E) := by
  have hn := hE.1
  have hE' := hide hE
  obtain ⟨i0, hi, hz0, hz1, hz2⟩ := info_parts info_ent
  have hsz : (Tryz.prog.info? 54).map (·.size) = some 11 := by rw [hi]; simp [hz1]
  clear hE
  go_enter Tryz.func146, Tryz.ntmps146
  go_wp2_with (at_make; refine wpList_make_full _ rfl _ _ 26 rfl w.heap.size 54 i0 (.agg #[.int .i64 0, .int .i64 0, .int .i64 0, .int .i64 0, .int .i64 0, .int .i64 0, .int .i64 0, .int .i64 0, .int .i64 0, .int .i64 0, .int .i64 0]) 11 Tryz.underlying26 hi hz0 hz1 .i64 .i64 _ _ n rfl rfl rfl rfl ?q3 ?q4 ?q5 ?_)
  any_goals (first | (rw [hz2]; omega) | (unfold maxLen; omega) | exact Nat.le_refl _)
  intro w1 hown hgrow
  obtain ⟨cur, hg, hcs⟩ : ∃ cur, w1.heap[w.heap.size]? = some (.cells cur 54 (0, 0)) ∧ cur.size = n * 11 := by
    rcases hown.2 with ⟨h', _⟩ | ⟨g', cap', cur, h', _, hg, _, _, hcs, _⟩
    · simp at h'
    · simp only [Value.slice.injEq, Option.some.injEq, Addr.mk.injEq, and_true, true_and] at h'
      obtain ⟨rfl, rfl⟩ := h'
      exact ⟨cur, hg, hcs⟩
  have hg' := hide hg
  have hgrow' := hide hgrow
  have hcs' := hide hcs
  clear hown hg hgrow hcs hi hz0 hz1 hz2
  obtain ⟨w2, hrun, hrow, hgr2⟩ := run_copy_whole 26 26 3 54 Tryz.underlying26 11 hsz w.heap.size n n ⟨b, 0, none⟩ c cur _ (unhide hg') (En.list n E) (En.list_len n E) ((unhide hE').on (unhide hgrow')).src ((En.list_len n E).trans (unhide hcs').symm) En.list_one
  have hfin := hide (show Own w2 w.heap.size n E from Own.of_row hn hrow)
  have hgf := hide (grown_own (unhide hgrow') hgr2 (fun m e => by cases e; exact Nat.le_refl _))
  clear hrow hgr2 hg' hgrow' hcs'
  go_wp2
  go_ret
  exact ⟨w.heap.size, n, rfl, Nat.le_refl _, Nat.le_refl _, by unfold maxLen; omega, unhide hfin, unhide hgf⟩

set_option maxHeartbeats 1600000 in
theorem with_any (b n c k : Nat) (E : Nat → Nat → Int) (e : Nat → Int) (w : World) (hE : Ents w b n E) (hk : k < n) :
    Calls Tryz.prog 143 #[.slice (some ⟨b, 0, none⟩) n c, .int .i64 (k : Int), .agg (En.cells e)] w (Lists w n (En.put E k e)) := by
  have hn := hE.1
  have hk' : (k : Int) < (n : Int) := by omega
  have ct := hide (twin_any b n c E (w.alloc (.cells (En.cells e) 54)) (hE.on (World.grownBy_alloc _ _ _)))
  have hbox := hide (Arr.lit (heap_alloc_new w (.cells (En.cells e) 54)))
  have hst : Hid (∀ (x : World) (g : Nat), Own x g n E → Own (x.setCells g (k * 11) (En.cells e).toList) g n (En.put E k e)) := fun x g h => h.store k e
  have hgs : Hid (∀ (x : World) (g : Nat), w.grownBy x none → w.heap.size ≤ g → w.grownBy (x.setCells g (k * 11) (En.cells e).toList) none) := fun x g h hg => own_sets hg _ _ x h
  have hrowc : Hid (∀ (x : World) (g : Nat), Ents x g n E → _) := fun x g h => h.row hk
  clear hE
  unfold En.cells at ct hbox hst hgs ⊢
  go_enter Tryz.func143, Tryz.ntmps143
  go_wp2_with fail
  refine (unhide ct).mono ?_
  rintro _ w1 ⟨g, cap, rfl, hlo, hnc, hcm, hown, hgr⟩
  obtain ⟨u0, u1, u2, u3, u4, u5, u6, u7, u8, u9, u10⟩ := unhide hrowc w1 g hown.ents
  have f := fun i => hown.free i
  have z := fun j (hj : j < 11) => ((unhide hbox).grown hgr (by simp)).cell (i := j) hj
  have z0 := z 0 (by omega)
  have z1 := z 1 (by omega)
  have z2 := z 2 (by omega)
  have z3 := z 3 (by omega)
  have z4 := z 4 (by omega)
  have z5 := z 5 (by omega)
  have z6 := z 6 (by omega)
  have z7 := z 7 (by omega)
  have z8 := z 8 (by omega)
  have z9 := z 9 (by omega)
  have z10 := z 10 (by omega)
  simp only [List.getElem?_toArray, List.getElem?_cons_zero, List.getElem?_cons_succ, Option.getD_some] at z0 z1 z2 z3 z4 z5 z6 z7 z8 z9 z10
  have hown' := hide hown
  have hgr' := hide (grown_trans (World.grownBy_alloc w _ none) hgr)
  have hlo' : Hid (w.heap.size ≤ g) := by
    have : w.heap.size ≤ (w.alloc (.cells #[.int .i64 (e 0), .int .i64 (e 1), .int .i64 (e 2), .int .i64 (e 3), .int .i64 (e 4), .int .i64 (e 5), .int .i64 (e 6), .int .i64 (e 7), .int .i64 (e 8), .int .i64 (e 9), .int .i64 (e 10)] 54)).heap.size := (World.grownBy_alloc w _ none).size
    exact Nat.le_trans this hlo
  have hcap := hide (And.intro hnc hcm)
  clear hown hgr hlo hnc hcm z ct
  go_wp2
  go_ret
  exact ⟨g, cap, rfl, unhide hlo', (unhide hcap).1, (unhide hcap).2, unhide hst _ _ (unhide hown'), unhide hgs _ _ (unhide hgr') (unhide hlo')⟩

end Go.Proofs.YtbanjoflgoiegaaGreat
