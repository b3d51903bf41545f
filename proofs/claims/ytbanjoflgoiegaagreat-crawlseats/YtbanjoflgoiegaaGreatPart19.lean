/-
  EntLow NavTaken NavToward GoodsWant GoodsWanted
-/
import Derived.Test.YtbanjoflgoiegaaGreatPart16
import Derived.BigQuiet
import Derived.Test.YtbanjoflgoiegaaGreatPart07
import Derived.Test.YtbanjoflgoiegaaGreatPart12
import Derived.Test.YtbanjoflgoiegaaGreatPart18
namespace Go.Proofs.YtbanjoflgoiegaaGreat
open Go.RowKit

theorem En.atQ_free {E : Nat → Nat → Int} {x y : Int} {k : Nat} (h : E k 0 = 0) : En.atQ E x y k = false := by simp [En.atQ, h]
theorem En.atQ_some {E : Nat → Nat → Int} {x y : Int} {k : Nat} (h : ¬ E k 0 = 0) : En.atQ E x y k = (decide (E k 3 = x) && decide (E k 4 = y)) := by simp [En.atQ, h]
theorem En.heroQ_free {E : Nat → Nat → Int} {s : Int} {k : Nat} (h : E k 0 = 0) : En.heroQ E s k = false := by simp [En.heroQ, h]
theorem En.heroQ_some {E : Nat → Nat → Int} {s : Int} {k : Nat} (_ : ¬ E k 0 = 0) : En.heroQ E s k = (decide (E k 0 = 1) && decide (E k 2 = s)) := rfl
theorem En.ofQ_free {E : Nat → Nat → Int} {id : Int} {k : Nat} (h : E k 0 = 0) : En.ofQ E id k = false := by simp [En.ofQ, h]
theorem En.ofQ_some {E : Nat → Nat → Int} {id : Int} {k : Nat} (h : ¬ E k 0 = 0) : En.ofQ E id k = decide ((k : Int) + 32 * E k 1 = id) := by simp [En.ofQ, h]

set_option maxHeartbeats 1600000 in
theorem lowAt_any (b n c p0 p1 p2 : Nat) (E : Nat → Nat → Int) (x y : Int) (w : World) (hE : Ents w b n E) (hc : n ≤ c) (hp0 : w.cell? ⟨p0, 0, none⟩ = some (.slice (some ⟨b, 0, none⟩) n c)) (hp1 : w.cell? ⟨p1, 0, none⟩ = some (.int .i64 x)) (hp2 : w.cell? ⟨p2, 0, none⟩ = some (.int .i64 y)) (hl0 : p0 < w.heap.size) (hl1 : p1 < w.heap.size) (hl2 : p2 < w.heap.size) :
    Calls Tryz.prog 108 #[.slice (some ⟨b, 0, none⟩) n c, .func (.func 140) #[] #[.pointer (some ⟨p0, 0, none⟩), .pointer (some ⟨p1, 0, none⟩), .pointer (some ⟨p2, 0, none⟩)]] w (Says w (.int .i64 (En.first (En.atQ E x y) n))) := by
  have hn := hE.1
  have cd : Hid (∀ wx, w.grownBy wx none → ∀ k : Nat, k < n → Calls Tryz.prog 140 #[.int .i64 (k : Int), .pointer (some ⟨p0, 0, none⟩), .pointer (some ⟨p1, 0, none⟩), .pointer (some ⟨p2, 0, none⟩)] wx (Says wx (.bool (decide (E k 3 = x) && decide (E k 4 = y))))) := fun wx hg k hk =>
    atC_any b n c p0 p1 p2 k E x y wx (hE.on hg) hk ((grown_cell hg p0 0 hl0 (by simp)).trans hp0) ((grown_cell hg p1 0 hl1 (by simp)).trans hp1) ((grown_cell hg p2 0 hl2 (by simp)).trans hp2)
  have hE' := hide hE
  clear hE hp0 hl0 hp1 hl1 hp2 hl2
  go_enter Tryz.func108, Tryz.ntmps108
  go_wp2_with (go_at_call 141; refine (rows_any _ _ _ _ hn hc).mono ?_; rintro e w' ⟨rfl, hw⟩; subst w')
  go_loopw [10] (fun i wr => ∃ k : Nat, k ≤ n ∧ i = .int .i64 (k : Int) ∧ (∀ j, j < k → En.atQ E x y j = false) ∧ w.grownBy wr none) (fun i _ => 40 - (intOf i).toNat)
  case atStart => exact ⟨0, by omega, rfl, fun j hj => by omega, World.grownBy.refl _ _⟩
  case round =>
    obtain ⟨k, hk, rfl, hno, hgr⟩ := hrel
    have hno' := hide hno
    have hgr' := hide hgr
    clear hno hgr
    by_cases hlt : k < n
    · obtain ⟨u0, u1, u2, u3, u4, u5, u6, u7, u8, u9, u10⟩ := ((unhide hE').on (unhide hgr')).row hlt
      have hlt' : (k : Int) < (n : Int) := by omega
      have HL := hide hlt
      clear hlt
      go_wp2_with fail
      refine (isFree_any (E k) _).mono ?_
      rintro e w1 ⟨rfl, hg0⟩
      have hg1 := grown_trans (unhide hgr') (grown_trans (World.grownBy_alloc _ _ _) hg0)
      have hgr1 := hide hg1
      clear u0 u1 u2 u3 u4 u5 u6 u7 u8 u9 u10 hg0
      by_cases hf : E k 0 = 0
      · have hq : Hid (En.atQ E x y k = false) := En.atQ_free hf
        rw [decide_eq_true hf]
        clear hf hg1
        go_wp2
        go_roundw
        case rel => exact ⟨k + 1, by have := unhide HL; omega, by go_num, fun j hj => by
          by_cases e : j = k
          · rw [e]; exact unhide hq
          · exact unhide hno' j (by omega), unhide hgr1⟩
        case measure => simp [intOf]; omega
      · have hq : Hid (En.atQ E x y k = (decide (E k 3 = x) && decide (E k 4 = y))) := En.atQ_some hf
        have hf0 := hide hf
        rw [decide_eq_false hf]
        have cdk := hide (unhide cd w1 hg1 k (unhide HL))
        obtain ⟨r, hr⟩ : ∃ r : Bool, r = (decide (E k 3 = x) && decide (E k 4 = y)) := ⟨_, rfl⟩
        rw [← hr] at cdk hq
        clear hf hg1 hr
        go_wp2_with fail
        refine (unhide cdk).mono ?_
        rintro e w2 ⟨rfl, hg2⟩
        have hgr2 := hide (grown_trans (unhide hgr1) hg2)
        clear hg2 cdk
        cases r
        · go_wp2
          go_roundw
          case rel => exact ⟨k + 1, by have := unhide HL; omega, by go_num, fun j hj => by
            by_cases e : j = k
            · rw [e]; exact unhide hq
            · exact unhide hno' j (by omega), unhide hgr2⟩
          case measure => simp [intOf]; omega
        · have he := hide (En.first_hit (unhide hno') (unhide hq) (unhide HL))
          go_wp2
          go_ret
          exact ⟨ret_int (unhide he).symm, unhide hgr2⟩
    · have hge : ¬ (k : Int) < (n : Int) := by omega
      have he := hide (En.first_none (n := n) (fun j hj => unhide hno' j (by omega)))
      go_wp2
      go_ret
      exact ⟨ret_int (unhide he).symm, unhide hgr'⟩

set_option maxHeartbeats 1600000 in
theorem lowHero_any (b n c p0 p1 : Nat) (E : Nat → Nat → Int) (seat : Int) (w : World) (hE : Ents w b n E) (hc : n ≤ c) (hp0 : w.cell? ⟨p0, 0, none⟩ = some (.slice (some ⟨b, 0, none⟩) n c)) (hp1 : w.cell? ⟨p1, 0, none⟩ = some (.int .i64 seat)) (hl0 : p0 < w.heap.size) (hl1 : p1 < w.heap.size) :
    Calls Tryz.prog 108 #[.slice (some ⟨b, 0, none⟩) n c, .func (.func 109) #[] #[.pointer (some ⟨p0, 0, none⟩), .pointer (some ⟨p1, 0, none⟩)]] w (Says w (.int .i64 (En.first (En.heroQ E seat) n))) := by
  have hn := hE.1
  have cd : Hid (∀ wx, w.grownBy wx none → ∀ k : Nat, k < n → Calls Tryz.prog 109 #[.int .i64 (k : Int), .pointer (some ⟨p0, 0, none⟩), .pointer (some ⟨p1, 0, none⟩)] wx (Says wx (.bool (decide (E k 0 = 1) && decide (E k 2 = seat))))) := fun wx hg k hk =>
    heroC_any b n c p0 p1 k E seat wx (hE.on hg) hk ((grown_cell hg p0 0 hl0 (by simp)).trans hp0) ((grown_cell hg p1 0 hl1 (by simp)).trans hp1)
  have hE' := hide hE
  clear hE hp0 hl0 hp1 hl1
  go_enter Tryz.func108, Tryz.ntmps108
  go_wp2_with (go_at_call 141; refine (rows_any _ _ _ _ hn hc).mono ?_; rintro e w' ⟨rfl, hw⟩; subst w')
  go_loopw [10] (fun i wr => ∃ k : Nat, k ≤ n ∧ i = .int .i64 (k : Int) ∧ (∀ j, j < k → En.heroQ E seat j = false) ∧ w.grownBy wr none) (fun i _ => 40 - (intOf i).toNat)
  case atStart => exact ⟨0, by omega, rfl, fun j hj => by omega, World.grownBy.refl _ _⟩
  case round =>
    obtain ⟨k, hk, rfl, hno, hgr⟩ := hrel
    have hno' := hide hno
    have hgr' := hide hgr
    clear hno hgr
    by_cases hlt : k < n
    · obtain ⟨u0, u1, u2, u3, u4, u5, u6, u7, u8, u9, u10⟩ := ((unhide hE').on (unhide hgr')).row hlt
      have hlt' : (k : Int) < (n : Int) := by omega
      have HL := hide hlt
      clear hlt
      go_wp2_with fail
      refine (isFree_any (E k) _).mono ?_
      rintro e w1 ⟨rfl, hg0⟩
      have hg1 := grown_trans (unhide hgr') (grown_trans (World.grownBy_alloc _ _ _) hg0)
      have hgr1 := hide hg1
      clear u0 u1 u2 u3 u4 u5 u6 u7 u8 u9 u10 hg0
      by_cases hf : E k 0 = 0
      · have hq : Hid (En.heroQ E seat k = false) := En.heroQ_free hf
        rw [decide_eq_true hf]
        clear hf hg1
        go_wp2
        go_roundw
        case rel => exact ⟨k + 1, by have := unhide HL; omega, by go_num, fun j hj => by
          by_cases e : j = k
          · rw [e]; exact unhide hq
          · exact unhide hno' j (by omega), unhide hgr1⟩
        case measure => simp [intOf]; omega
      · have hq : Hid (En.heroQ E seat k = (decide (E k 0 = 1) && decide (E k 2 = seat))) := En.heroQ_some hf
        have hf0 := hide hf
        rw [decide_eq_false hf]
        have cdk := hide (unhide cd w1 hg1 k (unhide HL))
        obtain ⟨r, hr⟩ : ∃ r : Bool, r = (decide (E k 0 = 1) && decide (E k 2 = seat)) := ⟨_, rfl⟩
        rw [← hr] at cdk hq
        clear hf hg1 hr
        go_wp2_with fail
        refine (unhide cdk).mono ?_
        rintro e w2 ⟨rfl, hg2⟩
        have hgr2 := hide (grown_trans (unhide hgr1) hg2)
        clear hg2 cdk
        cases r
        · go_wp2
          go_roundw
          case rel => exact ⟨k + 1, by have := unhide HL; omega, by go_num, fun j hj => by
            by_cases e : j = k
            · rw [e]; exact unhide hq
            · exact unhide hno' j (by omega), unhide hgr2⟩
          case measure => simp [intOf]; omega
        · have he := hide (En.first_hit (unhide hno') (unhide hq) (unhide HL))
          go_wp2
          go_ret
          exact ⟨ret_int (unhide he).symm, unhide hgr2⟩
    · have hge : ¬ (k : Int) < (n : Int) := by omega
      have he := hide (En.first_none (n := n) (fun j hj => unhide hno' j (by omega)))
      go_wp2
      go_ret
      exact ⟨ret_int (unhide he).symm, unhide hgr'⟩

theorem entAt_any (b n c : Nat) (E : Nat → Nat → Int) (x y : Int) (w : World) (hE : Ents w b n E) (hc : n ≤ c) :
    Calls Tryz.prog 102 #[.slice (some ⟨b, 0, none⟩) n c, .int .i64 x, .int .i64 y] w (Says w (.int .i64 (En.first (En.atQ E x y) n))) := by
  obtain ⟨W, hW⟩ : ∃ W, W = (((w.alloc (.cells #[.slice (some ⟨b, 0, none⟩) n c] 26)).alloc (.cells #[.int .i64 x] 3)).alloc (.cells #[.int .i64 y] 3)) := ⟨_, rfl⟩
  have hg : w.grownBy W none := by
    rw [hW]
    repeat (refine grown_alloc ?_ _)
    exact World.grownBy.refl _ _
  have hs : W.heap.size = w.heap.size + 3 := by rw [hW]; simp
  have q0 : W.cell? ⟨w.heap.size, 0, none⟩ = some (.slice (some ⟨b, 0, none⟩) n c) := by rw [hW]; exact cell_past _ (by simp; omega) (cell_past _ (by simp) (cell_boxed _ _ _ _ rfl))
  have q1 : W.cell? ⟨w.heap.size + 1, 0, none⟩ = some (.int .i64 x) := by rw [hW]; exact cell_past _ (by simp) (cell_boxed _ _ _ _ (by simp))
  have q2 : W.cell? ⟨w.heap.size + 2, 0, none⟩ = some (.int .i64 y) := by rw [hW]; exact cell_boxed _ _ _ _ (by simp)
  have hl := hide (lowAt_any b n c w.heap.size (w.heap.size + 1) (w.heap.size + 2) E x y W (hE.on hg) hc q0 q1 q2 (by omega) (by omega) (by omega))
  have hg' := hide hg
  have hW' := hide hW
  clear hE hW hg hs q0 q1 q2
  go_enter Tryz.func102, Tryz.ntmps102
  go_wp2_with fail
  rw [← unhide hW']
  refine (unhide hl).mono ?_
  rintro e w1 ⟨rfl, hg1⟩
  have hg2 := hide (grown_trans (unhide hg') hg1)
  clear hg1
  go_wp2
  go_ret
  exact ⟨rfl, unhide hg2⟩

theorem hero_any (b n c : Nat) (E : Nat → Nat → Int) (seat : Int) (w : World) (hE : Ents w b n E) (hc : n ≤ c) :
    Calls Tryz.prog 68 #[.slice (some ⟨b, 0, none⟩) n c, .int .i64 seat] w (Says w (.int .i64 (En.first (En.heroQ E seat) n))) := by
  obtain ⟨W, hW⟩ : ∃ W, W = ((w.alloc (.cells #[.slice (some ⟨b, 0, none⟩) n c] 26)).alloc (.cells #[.int .i64 seat] 3)) := ⟨_, rfl⟩
  have hg : w.grownBy W none := by
    rw [hW]
    repeat (refine grown_alloc ?_ _)
    exact World.grownBy.refl _ _
  have hs : W.heap.size = w.heap.size + 2 := by rw [hW]; simp
  have q0 : W.cell? ⟨w.heap.size, 0, none⟩ = some (.slice (some ⟨b, 0, none⟩) n c) := by rw [hW]; simp
  have q1 : W.cell? ⟨w.heap.size + 1, 0, none⟩ = some (.int .i64 seat) := by rw [hW]; simp
  have hl := hide (lowHero_any b n c w.heap.size (w.heap.size + 1) E seat W (hE.on hg) hc q0 q1 (by omega) (by omega))
  have hg' := hide hg
  have hW' := hide hW
  clear hE hW hg hs q0 q1
  go_enter Tryz.func68, Tryz.ntmps68
  go_wp2_with fail
  rw [← unhide hW']
  refine (unhide hl).mono ?_
  rintro e w1 ⟨rfl, hg1⟩
  have hg2 := hide (grown_trans (unhide hg') hg1)
  clear hg1
  go_wp2
  go_ret
  exact ⟨rfl, unhide hg2⟩

set_option maxHeartbeats 800000 in
theorem entRefAt_same (b n c : Nat) (E : Nat → Nat → Int) (x y : Int) (w : World) (hE : Ents w b n E) :
    Calls Tryz.prog 24 #[.slice (some ⟨b, 0, none⟩) n c, .int .i64 x, .int .i64 y] w fun e w' => e = .returned (.int .i64 (En.first (En.atQ E x y) n)) ∧ w' = w := by
  have hn := hE.1
  have hE' := hide hE
  skip
  clear hE
  go_enter Tryz.func24, Tryz.ntmps24
  go_wp2_with fail
  go_loop [7] (fun i => ∃ k : Nat, k ≤ n ∧ i = .int .i64 (k : Int) ∧ ∀ j, j < k → En.atQ E x y j = false) (fun i => 40 - (intOf i).toNat)
  case atStart => exact ⟨0, by omega, rfl, fun j hj => by omega⟩
  case round =>
    obtain ⟨k, hk, rfl, hno⟩ := hrel
    have hno' := hide hno
    clear hno
    by_cases hlt : k < n
    · obtain ⟨u0, _, _, u3, u4, _⟩ := (unhide hE').row hlt
      have hlt' : (k : Int) < (n : Int) := by omega
      have HL := hide hlt
      skip
      clear hlt
      by_cases hf : E k 0 = 0
      · have hq : Hid (En.atQ E x y k = false) := En.atQ_free hf
        go_wp2
        go_round
        case rel => exact ⟨k + 1, by have := unhide HL; omega, by go_num, fun j hj => by
          by_cases e : j = k
          · rw [e]; exact unhide hq
          · exact unhide hno' j (by omega)⟩
        case measure => simp [intOf]; omega
      · have hf' : (E k 0 == 0) = false := by simp [hf]
        by_cases h3 : E k 3 = x
        · by_cases h4 : E k 4 = y
          · have hq : Hid (En.atQ E x y k = true) := by show En.atQ E x y k = true; rw [En.atQ_some hf]; simp [h3, h4]
            have he := hide (En.first_hit (unhide hno') (unhide hq) (unhide HL))
            go_wp2
            go_ret
            exact ⟨ret_int (unhide he).symm, rfl⟩
          · have hq : Hid (En.atQ E x y k = false) := by show En.atQ E x y k = false; rw [En.atQ_some hf]; simp [h4]
            have h4' : (E k 4 == y) = false := by simp [h4]
            go_wp2
            go_round
            case rel => exact ⟨k + 1, by have := unhide HL; omega, by go_num, fun j hj => by
              by_cases e : j = k
              · rw [e]; exact unhide hq
              · exact unhide hno' j (by omega)⟩
            case measure => simp [intOf]; omega
        · have hq : Hid (En.atQ E x y k = false) := by show En.atQ E x y k = false; rw [En.atQ_some hf]; simp [h3]
          have h3' : (E k 3 == x) = false := by simp [h3]
          go_wp2
          go_round
          case rel => exact ⟨k + 1, by have := unhide HL; omega, by go_num, fun j hj => by
            by_cases e : j = k
            · rw [e]; exact unhide hq
            · exact unhide hno' j (by omega)⟩
          case measure => simp [intOf]; omega
    · have hge : ¬ (k : Int) < (n : Int) := by omega
      have he := hide (En.first_none (n := n) (fun j hj => unhide hno' j (by omega)))
      go_wp2
      go_ret
      exact ⟨ret_int (unhide he).symm, rfl⟩

end Go.Proofs.YtbanjoflgoiegaaGreat

namespace Go.Proofs.YtbanjoflgoiegaaGreat
open Go.RowKit

def Nv.st (E : Nat → Nat → Int) (n : Nat) (c : Nat) : Bool := decide (0 ≤ En.first (En.atQ E ((c % 24 : Nat) : Int) ((c / 24 : Nat) : Int)) n)

def Nv.stTo (E : Nat → Nat → Int) (n : Nat) : Nat → Nat → Bool
  | 0, _ => false
  | k + 1, c => if Nv.num (E k 3) (E k 4) = (c : Int) then decide (0 ≤ En.first (En.atQ E (E k 3) (E k 4)) n) else Nv.stTo E n k c

theorem Nv.num_at {x y : Int} {c : Nat} (h : Nv.num x y = (c : Int)) : x = ((c % 24 : Nat) : Int) ∧ y = ((c / 24 : Nat) : Int) ∧ c < 384 := by
  unfold Nv.num at h
  split at h
  · rename_i hin
    rw [Gr.inB_iff] at hin
    omega
  · omega

theorem Nv.num_of {c : Nat} (hc : c < 384) : Nv.num ((c % 24 : Nat) : Int) ((c / 24 : Nat) : Int) = (c : Int) := by
  unfold Nv.num
  rw [if_pos (by rw [Gr.inB_iff]; omega)]
  omega

theorem Nv.stTo_eq (E : Nat → Nat → Int) (n : Nat) (c : Nat) : ∀ k, (Nv.stTo E n k c = true → Nv.st E n c = true) ∧ ((∃ j, j < k ∧ Nv.num (E j 3) (E j 4) = (c : Int)) → Nv.stTo E n k c = Nv.st E n c)
  | 0 => ⟨fun h => by simp [Nv.stTo] at h, fun ⟨j, h, _⟩ => by omega⟩
  | k + 1 => by
      obtain ⟨h1, h2⟩ := Nv.stTo_eq E n c k
      unfold Nv.stTo
      by_cases e : Nv.num (E k 3) (E k 4) = (c : Int)
      · rw [if_pos e]
        obtain ⟨ex, ey, _⟩ := Nv.num_at e
        have : decide (0 ≤ En.first (En.atQ E (E k 3) (E k 4)) n) = Nv.st E n c := by unfold Nv.st; rw [← ex, ← ey]
        rw [this]
        exact ⟨id, fun _ => rfl⟩
      · rw [if_neg e]
        refine ⟨h1, fun ⟨j, hj, he⟩ => h2 ⟨j, ?_, he⟩⟩
        by_cases ej : j = k
        · subst ej; exact absurd he e
        · omega

theorem Nv.stTo_all (E : Nat → Nat → Int) (n : Nat) (c : Nat) (hc : c < 384) : Nv.stTo E n n c = Nv.st E n c := by
  obtain ⟨h1, h2⟩ := Nv.stTo_eq E n c n
  by_cases h : Nv.st E n c = true
  · refine h2 ?_
    unfold Nv.st at h
    rw [decide_eq_true_eq] at h
    rcases En.first_cases (En.atQ E ((c % 24 : Nat) : Int) ((c / 24 : Nat) : Int)) n with ⟨h0, _⟩ | ⟨k, hk, _, hq, _⟩
    · omega
    · refine ⟨k, hk, ?_⟩
      simp only [En.atQ, Bool.and_eq_true, decide_eq_true_eq] at hq
      rw [hq.2.1, hq.2.2]
      exact Nv.num_of hc
  · have hn : ¬ Nv.stTo E n n c = true := fun e => h (h1 e)
    rw [Bool.not_eq_true] at h hn
    rw [h, hn]

def Nv.Lst (w : World) (a : Option Addr) (n c : Nat) (E : Nat → Nat → Int) : Prop := n ≤ 32 ∧ n ≤ c ∧ (n = 0 ∨ ∃ b, a = some ⟨b, 0, none⟩ ∧ Ents w b n E)

theorem Nv.Lst.on {w w' : World} {a : Option Addr} {n c : Nat} {E : Nat → Nat → Int} (h : Nv.Lst w a n c E) (hg : w.grownBy w' none) : Nv.Lst w' a n c E := by
  obtain ⟨h1, h2, h3 | ⟨b, e, hE⟩⟩ := h
  · exact ⟨h1, h2, .inl h3⟩
  · exact ⟨h1, h2, .inr ⟨b, e, hE.on hg⟩⟩

def Nv.Words (n : Nat) (E : Nat → Nat → Int) : Prop := ∀ i, i < n → (-9223372036854775808 ≤ E i 3 ∧ E i 3 ≤ 9223372036854775807) ∧ (-9223372036854775808 ≤ E i 4 ∧ E i 4 ≤ 9223372036854775807)

theorem info_bools : (Tryz.prog.info? 4).map (fun i => (i.zero, i.size, i.bytes)) = some (some (.bool false), 1, 1) := by kernel_rfl

theorem Nv.st_more {E : Nat → Nat → Int} {n k m : Nat} (hm : Nv.num (E k 3) (E k 4) = (m : Int)) (j : Nat) : (if j = m then Value.bool (decide (0 ≤ En.first (En.atQ E (E k 3) (E k 4)) n)) else .bool (Nv.stTo E n k j)) = .bool (Nv.stTo E n (k + 1) j) := by
  show _ = Value.bool (if Nv.num (E k 3) (E k 4) = (j : Int) then _ else _)
  rw [hm]
  by_cases e : j = m
  · rw [if_pos e, if_pos (by omega)]
  · rw [if_neg e, if_neg (by omega)]

theorem Nv.st_same {E : Nat → Nat → Int} {n k : Nat} (hm : Nv.num (E k 3) (E k 4) = -1) (j : Nat) : Nv.stTo E n k j = Nv.stTo E n (k + 1) j := by
  show _ = if Nv.num (E k 3) (E k 4) = (j : Int) then _ else _
  rw [hm, if_neg (by omega)]

theorem Nv.num_cases (x y : Int) : Nv.num x y = -1 ∨ ∃ m : Nat, m < 384 ∧ Nv.num x y = (m : Int) := by
  unfold Nv.num
  by_cases h : Gr.inB x y = true
  · rw [if_pos h]
    rw [Gr.inB_iff] at h
    exact .inr ⟨(y * 24 + x).toNat, by omega, by omega⟩
  · rw [if_neg h]; exact .inl rfl

set_option maxRecDepth 8000 in
set_option maxHeartbeats 1600000 in
theorem taken_any (a : Option Addr) (n c : Nat) (E : Nat → Nat → Int) (w : World) (hL : Nv.Lst w a n c E) (hW : Nv.Words n E) :
    Calls Tryz.prog 165 #[.slice a n c] w (Made w 4 384 (Bols (Nv.st E n))) := by
  have hn := hL.1
  have hL' := hide hL
  have hW' := hide hW
  obtain ⟨i0, hi, hz0, hz1, hz2⟩ := info_parts info_bools
  clear hL hW
  go_enter Tryz.func165, Tryz.ntmps165
  obtain ⟨G, hG⟩ : ∃ G, G = w.heap.size := ⟨_, rfl⟩
  have hG' := hide hG
  clear hG
  go_wp2_with (at_make; refine wpList_make_full _ rfl _ _ 93 rfl G 4 i0 (.bool false) 1 Tryz.underlying93 hi hz0 hz1 .i64 .i64 _ _ 384 rfl rfl rfl rfl ?q3 ?q4 (Nat.le_of_eq (unhide hG')) ?_)
  case q3 => rw [hz2]; omega
  case q4 => unfold maxLen; omega
  intro w2 hown hgrow
  rw [← unhide hG'] at hown ⊢
  have hA := hide (Arr.zero hown)
  have hB0 : Below G w w2 := (Below.refl _ _).grown hgrow (Nat.le_of_eq (unhide hG')) (by intro k hk; cases hk)
  clear hown hgrow hi hz0 hz1 hz2
  go_wp2_with fail
  go_loopw [10] (fun i wr => ∃ k : Nat, k ≤ n ∧ i = .int .i64 (k : Int) ∧ Arr wr G 4 384 (Bols (Nv.stTo E n k)) ∧ Below G w wr) (fun i _ => 40 - (intOf i).toNat)
  case atStart => exact ⟨0, Nat.zero_le _, rfl, unhide hA, hB0⟩
  case round =>
    obtain ⟨k, hk, rfl, hA1, hB1⟩ := hrel
    have hA2 := hide hA1
    have hB2 := hide hB1
    clear hA1 hA hB0 hB1
    by_cases hlt : k < n
    · obtain ⟨_, hnc, h0 | ⟨b, rfl, hE⟩⟩ := unhide hL'
      · omega
      have hgr : w.grownBy wr none := below_grown (by rw [← unhide hG']; exact unhide hB2)
      obtain ⟨u0, u1, u2, u3, u4, u5, u6, u7, u8, u9, u10⟩ := (hE.on hgr).row hlt
      have hE' := hide (hE.on hgr)
      have hlt' : (k : Int) < (n : Int) := by omega
      have HL := hide hlt
      have hww := hide (unhide hW' k hlt)
      obtain ⟨X, hX⟩ : ∃ X, X = E k 3 := ⟨_, rfl⟩
      obtain ⟨Y, hY⟩ : ∃ Y, Y = E k 4 := ⟨_, rfl⟩
      rw [← hX] at u3
      rw [← hY] at u4
      rw [← hX, ← hY] at hww
      have hX' := hide hX
      have hY' := hide hY
      clear hE hgr hlt hX hY
      go_wp2_with fail
      refine (point_any _ _ _).mono ?_
      rintro e w1 ⟨rfl, rfl⟩
      go_wp2_with fail
      obtain ⟨⟨x1, x2⟩, y1, y2⟩ := unhide hww
      refine (numberAt_any X Y _ x1 x2 y1 y2).mono ?_
      rintro e w1 ⟨rfl, rfl⟩
      clear x1 x2 y1 y2
      clear u0 u1 u2 u3 u4 u5 u6 u7 u8 u9 u10
      rcases Nv.num_cases X Y with hm | ⟨m, hm, hme⟩
      · rw [hm]
        have hs : Hid (∀ j, Nv.stTo E n k j = Nv.stTo E n (k + 1) j) := fun j => Nv.st_same (by rw [← unhide hX', ← unhide hY']; exact hm) j
        clear hm
        go_wp2
        go_roundw
        case rel => exact ⟨k + 1, by have := unhide HL; omega, by go_num, ((unhide hA2).alloc _).congr fun j _ => by show Value.bool _ = Value.bool _; rw [unhide hs j], (unhide hB2).alloc (Nat.le_of_lt (unhide hA2).lt) _⟩
        case measure => have := unhide HL; simp [intOf]; omega
      · rw [hme]
        have hs : Hid (∀ j, (if j = m then Value.bool (decide (0 ≤ En.first (En.atQ E X Y) n)) else .bool (Nv.stTo E n k j)) = .bool (Nv.stTo E n (k + 1) j)) := fun j => by
          rw [unhide hX', unhide hY']
          exact Nv.st_more (by rw [← unhide hX', ← unhide hY']; exact hme) j
        have hm' : (m : Int) < 384 := by omega
        have HM := hide hm
        clear hm hme
        go_wp2_with fail
        refine (entAt_any b n c E X Y _ ((unhide hE').on (World.grownBy_alloc _ _ _)) hnc).mono ?_
        rintro e w1 ⟨rfl, hg⟩
        have hg1 := grown_trans (World.grownBy_alloc _ _ _) hg
        have hA3 := hide ((unhide hA2).grown hg1 (by simp))
        have hB3 : Hid (Below G w w1) := (unhide hB2).trans (none_below hg1 |>.mono (Nat.le_of_lt (unhide hA2).lt))
        have hcc := (unhide hA3).cell (unhide HM)
        have hff := (unhide hA3).free m
        generalize En.first (En.atQ E X Y) n = r at hs
        clear hg hg1
        go_wp2
        go_roundw
        case rel => exact ⟨k + 1, by have := unhide HL; omega, by go_num, ((unhide hA3).store m _).congr fun j _ => unhide hs j, (unhide hB3).setCell (Nat.le_refl _) _⟩
        case measure => have := unhide HL; simp [intOf]; omega
    · have hge : ¬ (k : Int) < (n : Int) := by omega
      obtain rfl : k = n := by omega
      have hA3 := hide ((unhide hA2).congr (G := Bols (Nv.st E k)) fun j hj => by show Value.bool _ = Value.bool _; rw [Nv.stTo_all E k j hj])
      clear hA2 hk hlt
      go_wp2
      go_ret
      exact ⟨G, rfl, Nat.le_of_eq (unhide hG').symm, unhide hA3, by rw [← unhide hG']; exact unhide hB2⟩

end Go.Proofs.YtbanjoflgoiegaaGreat

namespace Go.Proofs.YtbanjoflgoiegaaGreat
open Go.RowKit

def Nv.blk (E : Nat → Nat → Int) (n m : Nat) (c : Nat) : Bool := if c = m then false else Nv.st E n c

def Nv.wayFrom (q : Nat → Bool) : Nat → Nat → Int
  | 0, _ => 0
  | m + 1, k => if q k = true then (k : Int) else Nv.wayFrom q m (k + 1)

theorem Nv.way_hit {q : Nat → Bool} : ∀ (m k i : Nat), (∀ j, i ≤ j → j < k → q j = false) → q k = true → i ≤ k → k < i + m → Nv.wayFrom q m i = (k : Int)
  | 0, k, i, _, _, h1, h2 => by omega
  | m + 1, k, i, hno, hk, h1, h2 => by
      unfold Nv.wayFrom
      by_cases e : i = k
      · rw [e, if_pos hk]
      · rw [if_neg (by rw [hno i (Nat.le_refl _) (by omega)]; simp), Nv.way_hit m k (i + 1) (fun j hj1 hj2 => hno j (by omega) hj2) hk (by omega) (by omega)]

theorem Nv.way_none {q : Nat → Bool} : ∀ (m i : Nat), (∀ j, i ≤ j → j < i + m → q j = false) → Nv.wayFrom q m i = 0
  | 0, _, _ => rfl
  | m + 1, i, hno => by
      unfold Nv.wayFrom
      rw [if_neg (by rw [hno i (Nat.le_refl _) (by omega)]; simp), Nv.way_none m (i + 1) (fun j hj1 hj2 => hno j (by omega) (by omega))]

theorem Nv.way_congr {q r : Nat → Bool} : ∀ (m i : Nat), (∀ j, i ≤ j → j < i + m → q j = r j) → Nv.wayFrom q m i = Nv.wayFrom r m i
  | 0, _, _ => rfl
  | m + 1, i, h => by
      unfold Nv.wayFrom
      rw [h i (Nat.le_refl _) (by omega), Nv.way_congr m (i + 1) (fun j hj1 hj2 => h j (by omega) (by omega))]

def Nv.next (m k : Nat) : Int := Nv.num (((m % 24 : Nat) : Int) + (Fx.way (k : Int)).1) (((m / 24 : Nat) : Int) + (Fx.way (k : Int)).2)

def Nv.may (F : Nat → Int) (st : Nat → Bool) (m k : Nat) : Bool := decide (0 ≤ Nv.next m k) && (decide (F (Nv.next m k).toNat = F m - 1) && !(st (Nv.next m k).toNat))

def Nv.step (F : Nat → Int) (st : Nat → Bool) (m : Nat) : Int := if F m < 1 then 0 else Nv.wayFrom (Nv.may F st m) 4 1

theorem Nv.step_congr {F H : Nat → Int} {st : Nat → Bool} {m : Nat} (hm : m < 384) (h : ∀ i, i < 384 → F i = H i) : Nv.step F st m = Nv.step H st m := by
  unfold Nv.step
  rw [h m hm]
  by_cases h1 : H m < 1
  · rw [if_pos h1, if_pos h1]
  · rw [if_neg h1, if_neg h1]
    refine Nv.way_congr 4 1 fun j _ _ => ?_
    unfold Nv.may
    rcases Nv.num_cases (((m % 24 : Nat) : Int) + (Fx.way (j : Int)).1) (((m / 24 : Nat) : Int) + (Fx.way (j : Int)).2) with hn | ⟨p, hp, hn⟩
    · have : ¬ 0 ≤ Nv.next m j := by unfold Nv.next; rw [hn]; omega
      simp [this]
    · have e : Nv.next m j = (p : Int) := hn
      rw [e, Int.toNat_natCast, h p hp, h m hm]

theorem Nv.next_cases (m k : Nat) : Nv.next m k = -1 ∨ ∃ p : Nat, p < 384 ∧ Nv.next m k = (p : Int) := Nv.num_cases _ _

theorem Nv.next_ne {m k p : Nat} (hk : 1 ≤ k) (hk4 : k ≤ 4) (h : Nv.next m k = (p : Int)) : p ≠ m := by
  obtain ⟨e1, e2, _⟩ := Nv.num_at h
  rintro rfl
  rcases (show k = 1 ∨ k = 2 ∨ k = 3 ∨ k = 4 by omega) with rfl | rfl | rfl | rfl
  · rw [show (Fx.way ((1 : Nat) : Int)).2 = -1 from rfl] at e2; omega
  · rw [show (Fx.way ((2 : Nat) : Int)).1 = 1 from rfl] at e1; omega
  · rw [show (Fx.way ((3 : Nat) : Int)).2 = 1 from rfl] at e2; omega
  · rw [show (Fx.way ((4 : Nat) : Int)).1 = -1 from rfl] at e1; omega

theorem Nv.may_out {F : Nat → Int} {st : Nat → Bool} {m k : Nat} (h : Nv.next m k = -1) : Nv.may F st m k = false := by
  unfold Nv.may
  rw [h]
  rfl

theorem Nv.may_in {F : Nat → Int} {st : Nat → Bool} {m k p : Nat} (h : Nv.next m k = (p : Int)) : Nv.may F st m k = (decide (F p = F m - 1) && !(st p)) := by
  unfold Nv.may
  rw [h, Int.toNat_natCast, decide_eq_true (by omega), Bool.true_and]

def Nv.IsToward (f t : Nat → Int) (tlen : Nat) (E : Nat → Nat → Int) (n : Nat) (x y v : Int) : Prop :=
  (Nv.num x y = -1 ∧ v = 0) ∨ ∃ (m : Nat) (F : Nat → Int), Nv.num x y = (m : Int) ∧ Gr.IsField (fun i => Gr.openB f 384 (Nv.blk E n m) i = true) (Gr.tgt f t tlen) F ∧ v = Nv.step F (Nv.st E n) m

theorem Nv.IsToward.at {f t : Nat → Int} {tlen : Nat} {E : Nat → Nat → Int} {n : Nat} {x y v : Int} (h : Nv.IsToward f t tlen E n x y v) {m : Nat} (hm : Nv.num x y = (m : Int)) : ∃ F : Nat → Int, Gr.IsField (fun i => Gr.openB f 384 (Nv.blk E n m) i = true) (Gr.tgt f t tlen) F ∧ v = Nv.step F (Nv.st E n) m := by
  rcases h with ⟨h1, _⟩ | ⟨k, F, hk, hF, hv⟩
  · omega
  · obtain rfl : k = m := by omega
    exact ⟨F, hF, hv⟩

theorem Nv.IsToward.one {f t : Nat → Int} {tlen : Nat} {E : Nat → Nat → Int} {n : Nat} {x y v v' : Int} (h : Nv.IsToward f t tlen E n x y v) (h' : Nv.IsToward f t tlen E n x y v') : v' = v := by
  rcases Nv.num_cases x y with hm | ⟨m, hm, hme⟩
  · rcases h with ⟨_, rfl⟩ | ⟨k, F, hk, _⟩
    · rcases h' with ⟨_, rfl⟩ | ⟨k, F, hk, _⟩
      · rfl
      · omega
    · omega
  · obtain ⟨F, hF, rfl⟩ := h.at hme
    obtain ⟨H, hH, rfl⟩ := h'.at hme
    exact Nv.step_congr hm fun i hi => hH.one hF i hi

def Nv.SaysToward (w : World) (f t : Nat → Int) (tlen : Nat) (E : Nat → Nat → Int) (n : Nat) (x y : Int) (e : Ending) (w' : World) : Prop := ∃ v, Nv.IsToward f t tlen E n x y v ∧ e = .returned (.int .i64 v) ∧ w.grownBy w' none

set_option maxRecDepth 8000 in
set_option maxHeartbeats 1600000 in
theorem navToward_any (ca a ta : Option Addr) (cc n c tlen tc : Nat) (f t : Nat → Int) (E : Nat → Nat → Int) (x y : Int) (w : World)
    (hc : Vec w.heap.size w ca 384 (Byts f)) (hf : ∀ i, 0 ≤ f i ∧ f i ≤ 255) (hL : Nv.Lst w a n c E) (hW : Nv.Words n E) (ht : Vec w.heap.size w ta tlen (Ints t)) (htb : ∀ i, -9223372036854775808 ≤ t i ∧ t i ≤ 9223372036854775807)
    (x1 : -9223372036854775808 ≤ x) (x2 : x ≤ 9223372036854775807) (y1 : -9223372036854775808 ≤ y) (y2 : y ≤ 9223372036854775807) :
    Calls Tryz.prog 215 #[.slice ca 384 cc, .slice a n c, .int .i64 x, .int .i64 y, .slice ta tlen tc] w (Nv.SaysToward w f t tlen E n x y) := by
  have hc' := hide hc
  have hf' := hide hf
  have hL' := hide hL
  have hW' := hide hW
  have ht' := hide ht
  have htb' := hide htb
  have cn := hide (fun w' => numberAt_any x y w' x1 x2 y1 y2)
  clear hc hf hL hW ht htb
  go_enter Tryz.func215, Tryz.ntmps215
  go_wp2_with fail
  refine (point_any _ _ _).mono ?_
  rintro e w1 ⟨rfl, rfl⟩
  go_wp2_with fail
  refine (unhide cn _).mono ?_
  rintro e w1 ⟨rfl, rfl⟩
  rcases Nv.num_cases x y with hm | ⟨m, hm, hme⟩
  · rw [hm]
    have he : Hid (Nv.IsToward f t tlen E n x y 0) := .inl ⟨hm, rfl⟩
    clear hm x1 x2 y1 y2
    go_wp2
    go_ret
    exact ⟨0, unhide he, rfl, World.grownBy.refl _ _⟩
  rw [hme]
  have hme' := hide hme
  obtain ⟨ex, ey, _⟩ := Nv.num_at hme
  have hm' : (m : Int) < 384 := by omega
  have HM := hide hm
  have ex' := hide ex
  have ey' := hide ey
  clear hm hme x1 x2 y1 y2 cn ex ey
  go_wp2_with fail
  refine (taken_any a n c E _ (unhide hL') (unhide hW')).mono ?_
  rintro e w2 ⟨g, rfl, hg, hA, hB⟩
  have hcc := hA.cell (unhide HM)
  have hff := hA.free m
  obtain ⟨w3, hw3⟩ : ∃ w3, w3 = w2.setCell ⟨g, m, none⟩ (.bool false) := ⟨_, rfl⟩
  have hA3 : Arr w3 g 4 384 (Bols (Nv.blk E n m)) := by
    rw [hw3]
    refine (hA.store m (.bool false)).congr fun j _ => ?_
    show _ = Value.bool (if j = m then false else Nv.st E n j)
    by_cases e : j = m
    · rw [if_pos e, if_pos e]
    · rw [if_neg e, if_neg e]; rfl
  have hB3 : Below w1.heap.size w1 w3 := by rw [hw3]; exact hB.setCell hg _
  have hw3' := hide hw3
  have hA3' := hide hA3
  have hB3' := hide hB3
  have cF := hide (field_any ca (some ⟨g, 0, none⟩) ta 384 tlen cc 384 tc f t (Nv.blk E n m) w3 (((unhide hc').kept hB3).mono hB3.size) (unhide hf') (hA3.vec _ hA3.lt (by unfold maxLen; omega)) (((unhide ht').kept hB3).mono hB3.size) (unhide htb'))
  clear hA hB hA3 hB3 hw3
  go_wp2_with fail
  rw [← unhide hw3']
  refine (unhide cF).mono ?_
  rintro e w4 ⟨F, ⟨g2, rfl, hg2, hA4, hB4⟩, hF⟩
  have hstep : Nv.IsToward f t tlen E n x y (Nv.step F (Nv.st E n) m) := .inr ⟨m, F, unhide hme', hF, rfl⟩
  have hgw : w1.grownBy w4 none := below_grown ((unhide hB3').trans (hB4.mono (unhide hB3').size))
  have hAb := (unhide hA3').kept hB4 (unhide hA3').lt
  have hhi : F m ≤ 400 := by
    by_cases h0 : 0 ≤ F m
    · have := fieldHigh hF (F m).toNat m (unhide HM) (by omega)
      omega
    · omega
  have hAb' := hide hAb
  have hA4' := hide hA4
  have hgw' := hide hgw
  have hst' := hide hstep
  have hc4 : w4.cell? ⟨g2, m, none⟩ = some (.int .i64 (F m)) := hA4.cell (unhide HM)
  have rA := hide (Fl.rep_int x (by rw [unhide ex']; omega) (by rw [unhide ex']; omega))
  have rB := hide (Fl.rep_int y (by rw [unhide ey']; omega) (by rw [unhide ey']; omega))
  generalize floatOfInt FloatKind.f64 x = A at *
  generalize floatOfInt FloatKind.f64 y = B at *
  clear hAb hA4 hgw hstep hg2 hB4 cF hcc hff hw3' hA3' hB3' hF hme'
  by_cases hlo : F m < 1
  · have hr : Hid (Nv.IsToward f t tlen E n x y 0) := by
      have h := unhide hst'
      rwa [show Nv.step F (Nv.st E n) m = 0 from if_pos hlo] at h
    go_wp2
    go_ret
    exact ⟨0, unhide hr, rfl, unhide hgw'⟩
  have hr : Hid (Nv.IsToward f t tlen E n x y (Nv.wayFrom (Nv.may F (Nv.st E n) m) 4 1)) := by
    have h := unhide hst'
    rwa [show Nv.step F (Nv.st E n) m = Nv.wayFrom (Nv.may F (Nv.st E n) m) 4 1 from if_neg hlo] at h
  clear hst'
  go_wp2_with fail
  go_loopw [15] (fun i wr => ∃ k : Nat, 1 ≤ k ∧ k ≤ 5 ∧ i = .int .i64 (k : Int) ∧ (∀ j : Nat, 1 ≤ j → j < k → Nv.may F (Nv.st E n) m j = false) ∧ w4.grownBy wr none) (fun i _ => 5 - (intOf i).toNat)
  case atStart => exact ⟨1, by omega, by omega, rfl, fun j h1 h2 => by omega, World.grownBy.refl _ _⟩
  case round =>
    obtain ⟨k, h1, h5, rfl, hno, hgr⟩ := hrel
    have hno' := hide hno
    have hgr' := hide hgr
    have hc5 : wr.cell? ⟨g2, m, none⟩ = some (.int .i64 (F m)) := ((unhide hA4').grown hgr (by simp)).cell (unhide HM)
    clear hno hgr hc4
    by_cases hlt : k ≤ 4
    · have hlt' : (k : Int) ≤ 4 := by omega
      have HL := hide hlt
      have H1 := hide h1
      have wb := hide (Fx.way_bd (k : Int))
      clear hlt h1 h5
      go_wp2_with fail
      refine (step_rep _ _).mono ?_
      rintro e wx ⟨a2, b2, rfl, ra, rb, rfl⟩
      obtain ⟨d1, d2, d3, d4⟩ := unhide wb
      obtain ⟨ra3, ea, Ra⟩ := Fl.rep_add (unhide rA) ra (by rw [unhide ex']; omega) (by rw [unhide ex']; omega)
      obtain ⟨rb3, eb, Rb⟩ := Fl.rep_add (unhide rB) rb (by rw [unhide ey']; omega) (by rw [unhide ey']; omega)
      have hsum := fun wq : World => run_complex_sum (P := Tryz.prog) wq .add (.inl rfl) 173 .f64 A B a2 b2 ra3 rb3 (by unfold cSumBits; rw [ea, eb]; rfl)
      have cN := hide (fun wq => navNumber_any ra3 rb3 _ _ wq (Fl.std_rep Ra) (Fl.std_rep Rb))
      have hnx : Hid (Nv.num (x + (Fx.way (k : Int)).1) (y + (Fx.way (k : Int)).2) = Nv.next m k) := by show _ = Nv.num _ _; rw [unhide ex', unhide ey']
      rw [unhide hnx] at cN
      clear ra rb ea eb Ra Rb d1 d2 d3 d4
      go_wp2_with fail
      refine (unhide cN _).mono ?_
      rintro e wy ⟨rfl, rfl⟩
      clear hsum cN hnx wb
      have hup : Hid (Nv.may F (Nv.st E n) m k = false → ∀ j : Nat, 1 ≤ j → j < k + 1 → Nv.may F (Nv.st E n) m j = false) := fun h j h1 h2 => by
        by_cases e : j = k
        · rw [e]; exact h
        · exact unhide hno' j h1 (by omega)
      rcases Nv.next_cases m k with hn | ⟨p, hp, hn⟩
      · rw [hn]
        have hno2 := hide (unhide hup (Nv.may_out hn))
        clear hn
        go_wp2_with fail
        go_quiet (fail)
        go_wp2
        go_roundw
        case rel => exact ⟨k + 1, by have := unhide H1; omega, by have := unhide HL; omega, by go_num, unhide hno2, grown_drew (unhide hgr') _⟩
        case measure => have := unhide HL; simp [intOf]; omega
      · rw [hn]
        have hmay := Nv.may_in (F := F) (st := Nv.st E n) hn
        have hpm := Nv.next_ne (unhide H1) (unhide HL) hn
        have hc6 : wy.cell? ⟨g2, p, none⟩ = some (.int .i64 (F p)) := ((unhide hA4').grown (unhide hgr') (by simp)).cell hp
        have hc7 : wy.cell? ⟨g, p, none⟩ = some (.bool (Nv.st E n p)) := by
          have h : wy.cell? ⟨g, p, none⟩ = some (.bool (if p = m then false else Nv.st E n p)) := ((unhide hAb').grown (unhide hgr') (by simp)).cell hp
          rwa [if_neg hpm] at h
        have hp' : (p : Int) < 384 := by omega
        by_cases hq : F p = F m - 1
        · have hq' : (F p == F m - 1) = true := by rw [beq_iff_eq]; exact hq
          rw [decide_eq_true hq, Bool.true_and] at hmay
          clear hn hpm hq hp
          by_cases hs : Nv.st E n p = true
          · rw [hs] at hc7 hmay
            have hno2 := hide (unhide hup hmay)
            clear hs hmay
            go_wp2_with fail
            go_quiet (fail)
            go_wp2
            go_roundw
            case rel => exact ⟨k + 1, by have := unhide H1; omega, by have := unhide HL; omega, by go_num, unhide hno2, grown_drew (unhide hgr') _⟩
            case measure => have := unhide HL; simp [intOf]; omega
          · rw [Bool.not_eq_true] at hs
            rw [hs] at hc7 hmay
            have hr2 : Hid (Nv.IsToward f t tlen E n x y (k : Int)) := by
              have h := unhide hr
              rwa [Nv.way_hit 4 k 1 (unhide hno') hmay (unhide H1) (by have := unhide HL; omega)] at h
            clear hs hmay
            go_wp2_with fail
            go_quiet (fail)
            go_wp2
            go_ret
            exact ⟨_, unhide hr2, rfl, grown_trans (unhide hgw') (grown_drew (unhide hgr') _)⟩
        · have hq' : (F p == F m - 1) = false := by rw [beq_eq_false_iff_ne]; exact hq
          rw [decide_eq_false hq, Bool.false_and] at hmay
          have hno2 := hide (unhide hup hmay)
          clear hn hpm hq hp hmay hc7
          go_wp2_with fail
          go_quiet (fail)
          go_wp2
          go_roundw
          case rel => exact ⟨k + 1, by have := unhide H1; omega, by have := unhide HL; omega, by go_num, unhide hno2, grown_drew (unhide hgr') _⟩
          case measure => have := unhide HL; simp [intOf]; omega
    · have hge : ¬ (k : Int) ≤ 4 := by omega
      have hr2 : Hid (Nv.IsToward f t tlen E n x y 0) := by
        have h := unhide hr
        rwa [Nv.way_none 4 1 fun j h1 h2 => unhide hno' j h1 (by omega)] at h
      go_wp2
      go_ret
      exact ⟨0, unhide hr2, rfl, grown_trans (unhide hgw') (unhide hgr')⟩

end Go.Proofs.YtbanjoflgoiegaaGreat

namespace Go.Proofs.YtbanjoflgoiegaaGreat
open Go.RowKit

theorem Gd.ware_hit {I : Nat → Nat → Int} {n k : Nat} (hno : ∀ j : Nat, j < k → decide (0 ≤ Gd.find I n 4 (j : Int) 0) = false) (hk : 0 ≤ Gd.find I n 4 (k : Int) 0) (h3 : k < 3) : Gd.ware I n = Gd.find I n 4 (k : Int) 0 := by
  unfold Gd.ware
  rw [En.first_hit (q := fun k : Nat => decide (0 ≤ Gd.find I n 4 (k : Int) 0)) hno (decide_eq_true hk) h3, if_pos (by omega)]

theorem Gd.ware_none {I : Nat → Nat → Int} {n : Nat} (hno : ∀ j : Nat, j < 3 → decide (0 ≤ Gd.find I n 4 (j : Int) 0) = false) : Gd.ware I n = -1 := by
  unfold Gd.ware
  rw [En.first_none (q := fun k : Nat => decide (0 ≤ Gd.find I n 4 (k : Int) 0)) hno, if_neg (by omega)]

structure Gd.Near (x : World) (B gC gE gI cC cI k s : Nat) (X Y G : Int) : Prop where
  lB : B < x.heap.size
  lE : gE < x.heap.size
  k32 : k < 32
  s4 : s < 4
  b4 : x.cell? ⟨B, 4, none⟩ = some (.slice (some ⟨gC, 0, none⟩) 384 cC)
  b6 : x.cell? ⟨B, 6, none⟩ = some (.slice (some ⟨gI, 0, none⟩) 40 cI)
  b7 : x.cell? ⟨B, 7 + s, none⟩ = some (.int .i64 G)
  e2 : x.cell? ⟨gE, k * 11 + 2, none⟩ = some (.int .i64 (s : Int))
  e3 : x.cell? ⟨gE, k * 11 + 3, none⟩ = some (.int .i64 X)
  e4 : x.cell? ⟨gE, k * 11 + 4, none⟩ = some (.int .i64 Y)

theorem Gd.Near.on {x y : World} {B gC gE gI cC cI k s : Nat} {X Y G : Int} (h : Gd.Near x B gC gE gI cC cI k s X Y G) (hg : x.grownBy y none) : Gd.Near y B gC gE gI cC cI k s X Y G :=
  have t := fun (b i : Nat) (hb : b < x.heap.size) => grown_cell hg b i hb (by simp)
  { lB := Nat.lt_of_lt_of_le h.lB hg.size, lE := Nat.lt_of_lt_of_le h.lE hg.size, k32 := h.k32, s4 := h.s4, b4 := (t _ _ h.lB).trans h.b4, b6 := (t _ _ h.lB).trans h.b6, b7 := (t _ _ h.lB).trans h.b7, e2 := (t _ _ h.lE).trans h.e2, e3 := (t _ _ h.lE).trans h.e3, e4 := (t _ _ h.lE).trans h.e4 }

theorem Gd.Hold.near {x : World} {B gC gE gI cC cE cI : Nat} {s g c : Nat → Int} {E I : Nat → Nat → Int} (h : Gd.Hold x B gC gE gI cC cE cI s g c E I) {k t : Nat} (hk : k < 32) (ht : t < 4) (he : E k 2 = (t : Int)) : Gd.Near x B gC gE gI cC cI k t (E k 3) (E k 4) (g t) :=
  have r := h.lists.own.ents.row hk
  { lB := h.box.lt, lE := h.lists.ents.lt, k32 := hk, s4 := ht, b4 := h.box.cell (c := 4) (by omega), b6 := h.box.cell (c := 6) (by omega), b7 := by rw [h.box.cell (c := 7 + t) (by omega), Gd.box_gold _ _ _ _ _ _ _ _ t ht], e2 := by rw [← he]; exact r.2.2.1, e3 := r.2.2.2.1, e4 := r.2.2.2.2.1 }

set_option maxHeartbeats 1600000 in
theorem ware_not (B gC gE gI cC cI k s : Nat) (X Y G A : Int) (w : World) (hN : Gd.Near w B gC gE gI cC cI k s X Y G) (cA : ∀ m, Calls Tryz.prog 116 #[.slice (some ⟨gC, 0, none⟩) 384 cC, .int .i64 X, .int .i64 Y] (w.drewN m) fun e w' => e = .returned (.int .i64 A) ∧ w' = w.drewN m) (hA : ¬ A = 5) :
    Calls Tryz.prog 190 #[.pointer (some ⟨B, 0, none⟩), .pointer (some ⟨gE, k * 11, none⟩)] w (Says w (.int .i64 (-1))) := by
  obtain ⟨lB, lE, k32, s4, b4, b6, b7, e2, e3, e4⟩ := hN
  have s4' : (s : Int) < 4 := by omega
  have hA' : (A == 5) = false := by simp [hA]
  have hdr : Hid (∀ m, w.grownBy (w.drewN m) none) := fun m => grown_drew (World.grownBy.refl _ _) m
  go_enter Tryz.func190, Tryz.ntmps190
  go_wp2_with fail
  go_quiet ((go_at_call 116; exact Calls.quiet_of_same (cA _)))
  go_wp2
  go_ret
  exact ⟨rfl, unhide hdr _⟩

set_option maxHeartbeats 1600000 in
theorem ware_poor (B gC gE gI cC cI k s : Nat) (X Y G : Int) (w : World) (hN : Gd.Near w B gC gE gI cC cI k s X Y G) (cA : ∀ m, Calls Tryz.prog 116 #[.slice (some ⟨gC, 0, none⟩) 384 cC, .int .i64 X, .int .i64 Y] (w.drewN m) fun e w' => e = .returned (.int .i64 5) ∧ w' = w.drewN m) (hG : G < 5) :
    Calls Tryz.prog 190 #[.pointer (some ⟨B, 0, none⟩), .pointer (some ⟨gE, k * 11, none⟩)] w (Says w (.int .i64 (-1))) := by
  obtain ⟨lB, lE, k32, s4, b4, b6, b7, e2, e3, e4⟩ := hN
  have s4' : (s : Int) < 4 := by omega
  have hdr : Hid (∀ m, w.grownBy (w.drewN m) none) := fun m => grown_drew (World.grownBy.refl _ _) m
  go_enter Tryz.func190, Tryz.ntmps190
  go_wp2_with fail
  go_quiet ((go_at_call 116; exact Calls.quiet_of_same (cA _)))
  go_wp2
  go_ret
  exact ⟨rfl, unhide hdr _⟩

set_option maxHeartbeats 1600000 in
theorem ware_shop (B gC gE gI cC cI k s : Nat) (X Y G : Int) (w : World) (hN : Gd.Near w B gC gE gI cC cI k s X Y G) (cA : ∀ m, Calls Tryz.prog 116 #[.slice (some ⟨gC, 0, none⟩) 384 cC, .int .i64 X, .int .i64 Y] (w.drewN m) fun e w' => e = .returned (.int .i64 5) ∧ w' = w.drewN m) (hG : ¬ G < 5) (I : Nat → Nat → Int) (hI : Its w gI 0 40 I) :
    Calls Tryz.prog 190 #[.pointer (some ⟨B, 0, none⟩), .pointer (some ⟨gE, k * 11, none⟩)] w (Says w (.int .i64 (Gd.ware I 40))) := by
  have hN' := hide hN
  have hI' := hide hI
  obtain ⟨lB, lE, k32, s4, b4, b6, b7, e2, e3, e4⟩ := hN
  have s4' : (s : Int) < 4 := by omega
  have hdr : Hid (∀ m, w.grownBy (w.drewN m) none) := fun m => grown_drew (World.grownBy.refl _ _) m
  clear hI
  go_enter Tryz.func190, Tryz.ntmps190
  go_wp2_with fail
  go_quiet ((go_at_call 116; exact Calls.quiet_of_same (cA _)))
  obtain ⟨wq, hwq⟩ : ∃ wq, w.drewN nq = wq := ⟨_, rfl⟩
  have hgq := hide (unhide hdr nq)
  rw [hwq] at hgq ⊢
  clear b4 b6 b7 e2 e3 e4 cA hdr hwq
  go_wp2_with fail
  go_loopw [33] (fun i wr => ∃ j : Nat, j ≤ 3 ∧ i = .int .i64 (j : Int) ∧ (∀ t : Nat, t < j → decide (0 ≤ Gd.find I 40 4 (t : Int) 0) = false) ∧ w.grownBy wr none) (fun i _ => 200 - (intOf i).toNat)
  case atStart => exact ⟨0, by omega, rfl, fun j hj => by omega, unhide hgq⟩
  case round =>
    obtain ⟨j, hj, rfl, hno, hgr⟩ := hrel
    have hno' := hide hno
    have hgr' := hide hgr
    clear hno hgr
    by_cases hlt : j < 3
    · have hlt' : (j : Int) < 3 := by omega
      have HL := hide hlt
      have b6 := ((unhide hN').on (unhide hgr')).b6
      have cat := hide (goodsAt_any gI 40 cI I 4 (j : Int) 0 wr ((unhide hI').on (unhide hgr')))
      obtain ⟨f, hf⟩ : ∃ f, Gd.find I 40 4 (j : Int) 0 = f := ⟨_, rfl⟩
      rw [hf] at cat
      have hf' := hide hf
      clear hlt hf
      go_wp2_with fail
      refine (unhide cat).mono ?_
      rintro e w1 ⟨rfl, hg1⟩
      have hg2 := hide (grown_trans (unhide hgr') hg1)
      clear hg1 cat b6
      by_cases hpos : 0 ≤ f
      · have he := hide ((Gd.ware_hit (unhide hno') (by rw [unhide hf']; exact hpos) (unhide HL)).trans (unhide hf'))
        go_wp2
        go_ret
        exact ⟨ret_int (unhide he).symm, unhide hg2⟩
      · have hq := hide (show decide (0 ≤ Gd.find I 40 4 (j : Int) 0) = false by rw [unhide hf']; exact decide_eq_false hpos)
        have hneg : f < 0 := by omega
        go_wp2
        go_roundw
        case rel => exact ⟨j + 1, by have := unhide HL; omega, by go_num, fun t ht => by
          by_cases e : t = j
          · rw [e]; exact unhide hq
          · exact unhide hno' t (by omega), unhide hg2⟩
        case measure => simp [intOf]; omega
    · have hge : ¬ (j : Int) < 3 := by omega
      have he := hide (Gd.ware_none (I := I) (n := 40) (fun t ht => unhide hno' t (by omega)))
      go_wp2
      go_ret
      exact ⟨ret_int (unhide he).symm, unhide hgr'⟩

def Gd.want (I : Nat → Nat → Int) (s X Y : Int) (shop : Bool) (G input : Int) : Int :=
  if input = 5 then Gd.find I 40 1 X Y
  else if input = 10 then (if shop = true ∧ 5 ≤ G then Gd.ware I 40 else -1)
  else if input = 8 then (if 0 ≤ Gd.find I 40 1 X Y then -1 else Gd.car I 40 s (fun k => Gd.serves k 8))
  else if input = 6 then Gd.car I 40 s (fun k => Gd.serves k 6)
  else if input = 7 then Gd.car I 40 s (fun k => Gd.serves k 7)
  else -1

theorem wareSays_any (B gC gE gI cC cI k s : Nat) (X Y G : Int) (c : Nat → Int) (I : Nat → Nat → Int) (w : World) (hN : Gd.Near w B gC gE gI cC cI k s X Y G) (hC : Vec w.heap.size w (some ⟨gC, 0, none⟩) 384 (Byts c)) (hc : ∀ i, 0 ≤ c i ∧ c i ≤ 255) (hI : Its w gI 0 40 I) :
    Calls Tryz.prog 190 #[.pointer (some ⟨B, 0, none⟩), .pointer (some ⟨gE, k * 11, none⟩)] w (Says w (.int .i64 (if decide (Gr.at 384 c X Y = 5) = true ∧ 5 ≤ G then Gd.ware I 40 else -1))) := by
  have cA := fun m => at_any w.heap.size (some ⟨gC, 0, none⟩) 384 cC c X Y (w.drewN m) (hC.drew m) hc
  by_cases hA : Gr.at 384 c X Y = 5
  · rw [hA] at cA
    by_cases hG : G < 5
    · rw [if_neg (by omega)]
      exact ware_poor B gC gE gI cC cI k s X Y G w hN cA hG
    · rw [if_pos ⟨by simp [hA], by omega⟩]
      exact ware_shop B gC gE gI cC cI k s X Y G w hN cA hG I hI
  · rw [if_neg (by simp [hA])]
    exact ware_not B gC gE gI cC cI k s X Y G _ w hN cA hA

end Go.Proofs.YtbanjoflgoiegaaGreat

namespace Go.Proofs.YtbanjoflgoiegaaGreat
open Go.RowKit

set_option maxHeartbeats 3200000 in
theorem wanted_any (B gC gE gI cC cI k s : Nat) (X Y G input : Int) (c : Nat → Int) (I : Nat → Nat → Int) (w : World) (hN : Gd.Near w B gC gE gI cC cI k s X Y G) (hC : Vec w.heap.size w (some ⟨gC, 0, none⟩) 384 (Byts c)) (hc : ∀ i, 0 ≤ c i ∧ c i ≤ 255) (hI : Its w gI 0 40 I) :
    Calls Tryz.prog 180 #[.pointer (some ⟨B, 0, none⟩), .pointer (some ⟨gE, k * 11, none⟩), .int .i64 input] w (Says w (.int .i64 (Gd.want I (s : Int) X Y (decide (Gr.at 384 c X Y = 5)) G input))) := by
  have hN' := hide hN
  have hI' := hide hI
  have hC' := hide hC
  have hc' := hide hc
  obtain ⟨lB, lE, k32, s4, b4, b6, b7, e2, e3, e4⟩ := hN
  obtain ⟨r, hr⟩ : ∃ r, Gd.want I (s : Int) X Y (decide (Gr.at 384 c X Y = 5)) G input = r := ⟨_, rfl⟩
  rw [hr]
  have hr' := hide hr
  obtain ⟨f, hf⟩ : ∃ f, Gd.find I 40 1 X Y = f := ⟨_, rfl⟩
  have hf' := hide hf
  clear hI hC hc hr
  go_enter Tryz.func180, Tryz.ntmps180
  go_wp2_with fail
  refine wp_region_grown (by kernel_rfl) (by kernel_rfl) ?_
  intro St hS W hJ hx
  have c6 : ∀ σ, (W σ).cell? ⟨B, 6, none⟩ = some (.slice (some ⟨gI, 0, none⟩) 40 cI) := fun σ => (grown_cell (hJ σ) B 6 lB (by simp)).trans b6
  have cu : ∀ σ, Calls Tryz.prog 185 #[.pointer (some ⟨gE, k * 11, none⟩)] (W σ) fun e w'' => e = .returned (.agg #[.int .i64 1, .int .i64 X, .int .i64 Y]) ∧ ∃ σ', w'' = W σ' := fun σ => calls_class hJ hx (under_any gE (k * 11) X Y (W σ) ((unhide hN').on (hJ σ)).e3 ((unhide hN').on (hJ σ)).e4 ((unhide hN').on (hJ σ)).lE)
  have ca : ∀ σ, Calls Tryz.prog 189 #[.slice (some ⟨gI, 0, none⟩) 40 cI, .agg #[.int .i64 1, .int .i64 X, .int .i64 Y]] (W σ) fun e w'' => e = .returned (.int .i64 f) ∧ ∃ σ', w'' = W σ' := fun σ => by
    have h := goodsAt_any gI 40 cI I 1 X Y (W σ) ((unhide hI').on (hJ σ))
    rw [hf] at h
    exact calls_class hJ hx h
  have hJ' := hide hJ
  clear hJ hx hf b4 b6 b7 e2 e3 e4
  repeat (go_big_quiet_step (first | (go_at_call 185; exact cu _) | (go_at_call 189; exact ca _)))
  refine wpQuiet_nil ?_
  rintro _ ⟨σ, rfl⟩
  obtain ⟨wq, hwq⟩ : ∃ wq, W σ = wq := ⟨_, rfl⟩
  have hgq := hide (unhide hJ' σ)
  rw [hwq] at hgq ⊢
  clear c6 cu ca hJ' hwq
  clear σ W hS St
  by_cases h5 : input = 5
  · have he := hide (show f = r by rw [← unhide hr', Gd.want, if_pos h5, unhide hf'])
    subst h5
    go_wp2
    go_ret
    exact ⟨ret_int (unhide he), unhide hgq⟩
  · by_cases h10 : input = 10
    · have he := unhide hr'
      rw [Gd.want, if_neg h5, if_pos h10] at he
      have cw := wareSays_any B gC gE gI cC cI k s X Y G c I wq ((unhide hN').on (unhide hgq)) (((unhide hC').kept (none_below (unhide hgq))).mono (unhide hgq).size) (unhide hc') ((unhide hI').on (unhide hgq))
      rw [he] at cw
      have cw' := hide cw
      subst h10
      clear h5 he cw
      go_wp2_with fail
      refine (unhide cw').mono ?_
      rintro e w1 ⟨rfl, hg1⟩
      have hg2 := hide (grown_trans (unhide hgq) hg1)
      clear hg1 cw'
      go_wp2
      go_ret
      exact ⟨rfl, unhide hg2⟩
    · by_cases h8 : input = 8
      · have he := unhide hr'
        rw [Gd.want, if_neg h5, if_neg h10, if_pos h8, unhide hf'] at he
        subst h8
        clear h5 h10
        by_cases hp : 0 ≤ f
        · rw [if_pos hp] at he
          have he' := hide he
          clear he
          go_wp2
          go_ret
          exact ⟨ret_int (unhide he'), unhide hgq⟩
        · rw [if_neg hp] at he
          have hp' : f < 0 := by omega
          have cc := fun x (hx : wq.grownBy x none) => carried_any gI 40 cI I (s : Int) 8 x ((unhide hI').on (grown_trans (unhide hgq) hx))
          rw [he] at cc
          have b6 := ((unhide hN').on (unhide hgq)).b6
          have e2 := ((unhide hN').on (unhide hgq)).e2
          have lB' := ((unhide hN').on (unhide hgq)).lB
          have lE' := ((unhide hN').on (unhide hgq)).lE
          clear he
          go_wp2_with fail
          refine wp_region_grown (by kernel_rfl) (by kernel_rfl) ?_
          intro St hS W hJ hx
          have c6 : ∀ σ, (W σ).cell? ⟨B, 6, none⟩ = some (.slice (some ⟨gI, 0, none⟩) 40 cI) := fun σ => (grown_cell (hJ σ) B 6 lB' (by simp)).trans b6
          have c2 : ∀ σ, (W σ).cell? ⟨gE, k * 11 + 2, none⟩ = some (.int .i64 (s : Int)) := fun σ => (grown_cell (hJ σ) gE _ lE' (by simp)).trans e2
          have ca : ∀ σ, Calls Tryz.prog 191 #[.slice (some ⟨gI, 0, none⟩) 40 cI, .int .i64 (s : Int), .int .i64 8] (W σ) fun e w'' => e = .returned (.int .i64 r) ∧ ∃ σ', w'' = W σ' := fun σ => calls_class hJ hx (cc (W σ) (hJ σ))
          have hJ' := hide hJ
          clear hJ hx b6 e2 cc
          repeat (go_big_quiet_step ((go_at_call 191; exact ca _)))
          refine wpQuiet_nil ?_
          rintro _ ⟨σ, rfl⟩
          obtain ⟨wz, hwz⟩ : ∃ wz, W σ = wz := ⟨_, rfl⟩
          have hgz := hide (grown_trans (unhide hgq) (unhide hJ' σ))
          rw [hwz] at hgz ⊢
          clear c6 c2 ca hJ' hwz
          clear σ W hS St
          go_wp2
          go_ret
          exact ⟨rfl, unhide hgz⟩
      · by_cases h6 : input = 6
        · have he := unhide hr'
          rw [Gd.want, if_neg h5, if_neg h10, if_neg h8, if_pos h6] at he
          subst h6
          clear h5 h10 h8
          have cc := fun x (hx : wq.grownBy x none) => carried_any gI 40 cI I (s : Int) 6 x ((unhide hI').on (grown_trans (unhide hgq) hx))
          rw [he] at cc
          have b6 := ((unhide hN').on (unhide hgq)).b6
          have e2 := ((unhide hN').on (unhide hgq)).e2
          have lB' := ((unhide hN').on (unhide hgq)).lB
          have lE' := ((unhide hN').on (unhide hgq)).lE
          clear he
          go_wp2_with fail
          refine wp_region_grown (by kernel_rfl) (by kernel_rfl) ?_
          intro St hS W hJ hx
          have c6 : ∀ σ, (W σ).cell? ⟨B, 6, none⟩ = some (.slice (some ⟨gI, 0, none⟩) 40 cI) := fun σ => (grown_cell (hJ σ) B 6 lB' (by simp)).trans b6
          have c2 : ∀ σ, (W σ).cell? ⟨gE, k * 11 + 2, none⟩ = some (.int .i64 (s : Int)) := fun σ => (grown_cell (hJ σ) gE _ lE' (by simp)).trans e2
          have ca : ∀ σ, Calls Tryz.prog 191 #[.slice (some ⟨gI, 0, none⟩) 40 cI, .int .i64 (s : Int), .int .i64 6] (W σ) fun e w'' => e = .returned (.int .i64 r) ∧ ∃ σ', w'' = W σ' := fun σ => calls_class hJ hx (cc (W σ) (hJ σ))
          have hJ' := hide hJ
          clear hJ hx b6 e2 cc
          repeat (go_big_quiet_step ((go_at_call 191; exact ca _)))
          refine wpQuiet_nil ?_
          rintro _ ⟨σ, rfl⟩
          obtain ⟨wz, hwz⟩ : ∃ wz, W σ = wz := ⟨_, rfl⟩
          have hgz := hide (grown_trans (unhide hgq) (unhide hJ' σ))
          rw [hwz] at hgz ⊢
          clear c6 c2 ca hJ' hwz
          clear σ W hS St
          go_wp2
          go_ret
          exact ⟨rfl, unhide hgz⟩
        · by_cases h7 : input = 7
          · have he := unhide hr'
            rw [Gd.want, if_neg h5, if_neg h10, if_neg h8, if_neg h6, if_pos h7] at he
            subst h7
            clear h5 h10 h8 h6
            have cc := fun x (hx : wq.grownBy x none) => carried_any gI 40 cI I (s : Int) 7 x ((unhide hI').on (grown_trans (unhide hgq) hx))
            rw [he] at cc
            have b6 := ((unhide hN').on (unhide hgq)).b6
            have e2 := ((unhide hN').on (unhide hgq)).e2
            have lB' := ((unhide hN').on (unhide hgq)).lB
            have lE' := ((unhide hN').on (unhide hgq)).lE
            clear he
            go_wp2_with fail
            refine wp_region_grown (by kernel_rfl) (by kernel_rfl) ?_
            intro St hS W hJ hx
            have c6 : ∀ σ, (W σ).cell? ⟨B, 6, none⟩ = some (.slice (some ⟨gI, 0, none⟩) 40 cI) := fun σ => (grown_cell (hJ σ) B 6 lB' (by simp)).trans b6
            have c2 : ∀ σ, (W σ).cell? ⟨gE, k * 11 + 2, none⟩ = some (.int .i64 (s : Int)) := fun σ => (grown_cell (hJ σ) gE _ lE' (by simp)).trans e2
            have ca : ∀ σ, Calls Tryz.prog 191 #[.slice (some ⟨gI, 0, none⟩) 40 cI, .int .i64 (s : Int), .int .i64 7] (W σ) fun e w'' => e = .returned (.int .i64 r) ∧ ∃ σ', w'' = W σ' := fun σ => calls_class hJ hx (cc (W σ) (hJ σ))
            have hJ' := hide hJ
            clear hJ hx b6 e2 cc
            repeat (go_big_quiet_step ((go_at_call 191; exact ca _)))
            refine wpQuiet_nil ?_
            rintro _ ⟨σ, rfl⟩
            obtain ⟨wz, hwz⟩ : ∃ wz, W σ = wz := ⟨_, rfl⟩
            have hgz := hide (grown_trans (unhide hgq) (unhide hJ' σ))
            rw [hwz] at hgz ⊢
            clear c6 c2 ca hJ' hwz
            clear σ W hS St
            go_wp2
            go_ret
            exact ⟨rfl, unhide hgz⟩
          · have he := unhide hr'
            rw [Gd.want, if_neg h5, if_neg h10, if_neg h8, if_neg h6, if_neg h7] at he
            have he' := hide he
            clear he
            go_wp2
            go_ret
            exact ⟨ret_int (unhide he'), unhide hgq⟩

end Go.Proofs.YtbanjoflgoiegaaGreat
