/-
  EntFind EntLow NavTaken
-/
import Derived.Test.YtbanjoflgoiegaaGreatPart13
import Derived.Deep.Quiet
import Derived.Deep.QuietTactic
import Derived.BigQuiet
import Derived.Test.YtbanjoflgoiegaaGreatPart04
import Derived.Test.YtbanjoflgoiegaaGreatPart03
namespace Go.Proofs.YtbanjoflgoiegaaGreat
open Go.RowKit

def En.firstFrom (q : Nat → Bool) : Nat → Nat → Int
  | 0, _ => -1
  | m + 1, k => if q k = true then (k : Int) else En.firstFrom q m (k + 1)

def En.first (q : Nat → Bool) (n : Nat) : Int := En.firstFrom q n 0

theorem En.from_hit {q : Nat → Bool} : ∀ (m k i : Nat), (∀ j, i ≤ j → j < k → q j = false) → q k = true → i ≤ k → k < i + m → En.firstFrom q m i = (k : Int)
  | 0, k, i, _, _, h1, h2 => by omega
  | m + 1, k, i, hno, hk, h1, h2 => by
      unfold En.firstFrom
      by_cases e : i = k
      · rw [e, if_pos hk]
      · rw [if_neg (by rw [hno i (Nat.le_refl _) (by omega)]; simp), En.from_hit m k (i + 1) (fun j hj1 hj2 => hno j (by omega) hj2) hk (by omega) (by omega)]

theorem En.from_none {q : Nat → Bool} : ∀ (m i : Nat), (∀ j, i ≤ j → j < i + m → q j = false) → En.firstFrom q m i = -1
  | 0, _, _ => rfl
  | m + 1, i, hno => by
      unfold En.firstFrom
      rw [if_neg (by rw [hno i (Nat.le_refl _) (by omega)]; simp), En.from_none m (i + 1) (fun j hj1 hj2 => hno j (by omega) (by omega))]

theorem En.first_hit {q : Nat → Bool} {n k : Nat} (hno : ∀ j, j < k → q j = false) (hk : q k = true) (hn : k < n) : En.first q n = (k : Int) :=
  En.from_hit n k 0 (fun j _ h => hno j h) hk (by omega) (by omega)

theorem En.first_none {q : Nat → Bool} {n : Nat} (hno : ∀ j, j < n → q j = false) : En.first q n = -1 :=
  En.from_none n 0 (fun j _ h => hno j (by omega))

theorem En.first_cases (q : Nat → Bool) (n : Nat) : (En.first q n = -1 ∧ ∀ j, j < n → q j = false) ∨ ∃ k, k < n ∧ En.first q n = (k : Int) ∧ q k = true ∧ ∀ j, j < k → q j = false := by
  induction n with
  | zero => exact .inl ⟨rfl, fun j h => by omega⟩
  | succ n ih =>
    rcases ih with ⟨_, hno⟩ | ⟨k, hk, _, hq, hno⟩
    · by_cases hq : q n = true
      · exact .inr ⟨n, by omega, En.first_hit hno hq (by omega), hq, hno⟩
      · have h : ∀ j, j < n + 1 → q j = false := fun j hj => by
          by_cases e : j = n
          · rw [e]; simpa using hq
          · exact hno j (by omega)
        exact .inl ⟨En.first_none h, h⟩
    · exact .inr ⟨k, by omega, En.first_hit hno hq (by omega), hq, hno⟩

theorem En.first_congr {q r : Nat → Bool} {n : Nat} (h : ∀ j, j < n → q j = r j) : En.first q n = En.first r n := by
  rcases En.first_cases q n with ⟨h1, hno⟩ | ⟨k, hk, h1, hq, hno⟩
  · rw [h1, En.first_none (fun j hj => (h j hj).symm.trans (hno j hj))]
  · rw [h1, En.first_hit (fun j hj => (h j (by omega)).symm.trans (hno j hj)) ((h k hk).symm.trans hq) hk]

def En.freeQ (E : Nat → Nat → Int) : Nat → Bool := fun i => decide (E i 0 = 0)
def En.atQ (E : Nat → Nat → Int) (x y : Int) : Nat → Bool := fun i => !(decide (E i 0 = 0)) && (decide (E i 3 = x) && decide (E i 4 = y))
def En.heroQ (E : Nat → Nat → Int) (s : Int) : Nat → Bool := fun i => decide (E i 0 = 1) && decide (E i 2 = s)
def En.ofQ (E : Nat → Nat → Int) (id : Int) : Nat → Bool := fun i => !(decide (E i 0 = 0)) && decide ((i : Int) + 32 * E i 1 = id)

theorem Ents.row {w : World} {b n : Nat} {E : Nat → Nat → Int} (h : Ents w b n E) {k : Nat} (hk : k < n) :
    w.cell? ⟨b, k * 11, none⟩ = some (.int .i64 (E k 0)) ∧ w.cell? ⟨b, k * 11 + 1, none⟩ = some (.int .i64 (E k 1)) ∧ w.cell? ⟨b, k * 11 + 2, none⟩ = some (.int .i64 (E k 2)) ∧ w.cell? ⟨b, k * 11 + 3, none⟩ = some (.int .i64 (E k 3)) ∧
    w.cell? ⟨b, k * 11 + 4, none⟩ = some (.int .i64 (E k 4)) ∧ w.cell? ⟨b, k * 11 + 5, none⟩ = some (.int .i64 (E k 5)) ∧ w.cell? ⟨b, k * 11 + 6, none⟩ = some (.int .i64 (E k 6)) ∧ w.cell? ⟨b, k * 11 + 7, none⟩ = some (.int .i64 (E k 7)) ∧
    w.cell? ⟨b, k * 11 + 8, none⟩ = some (.int .i64 (E k 8)) ∧ w.cell? ⟨b, k * 11 + 9, none⟩ = some (.int .i64 (E k 9)) ∧ w.cell? ⟨b, k * 11 + 10, none⟩ = some (.int .i64 (E k 10)) :=
  ⟨h.2.2 k 0 hk (by omega), h.2.2 k 1 hk (by omega), h.2.2 k 2 hk (by omega), h.2.2 k 3 hk (by omega), h.2.2 k 4 hk (by omega), h.2.2 k 5 hk (by omega), h.2.2 k 6 hk (by omega), h.2.2 k 7 hk (by omega), h.2.2 k 8 hk (by omega), h.2.2 k 9 hk (by omega), h.2.2 k 10 hk (by omega)⟩

theorem atC_any (b n c p0 p1 p2 k : Nat) (E : Nat → Nat → Int) (x y : Int) (w : World) (hE : Ents w b n E) (hk : k < n) (hp0 : w.cell? ⟨p0, 0, none⟩ = some (.slice (some ⟨b, 0, none⟩) n c)) (hp1 : w.cell? ⟨p1, 0, none⟩ = some (.int .i64 x)) (hp2 : w.cell? ⟨p2, 0, none⟩ = some (.int .i64 y)) :
    Calls Tryz.prog 140 #[.int .i64 (k : Int), .pointer (some ⟨p0, 0, none⟩), .pointer (some ⟨p1, 0, none⟩), .pointer (some ⟨p2, 0, none⟩)] w (Says w (.bool (decide (E k 3 = x) && decide (E k 4 = y)))) := by
  obtain ⟨_, _, _, u3, u4, _⟩ := hE.row hk
  have hk' : (k : Int) < (n : Int) := by omega
  have hdr : Hid (∀ m, w.grownBy (w.drewN m) none) := fun m => grown_drew (World.grownBy.refl _ _) m
  clear hE
  by_cases h3 : E k 3 = x
  · by_cases h4 : E k 4 = y
    · have hd := hide (show (decide (E k 3 = x) && decide (E k 4 = y)) = true by simp [h3, h4])
      rw [h3] at u3
      rw [h4] at u4
      clear h3 h4
      go_enter Tryz.func140, Tryz.ntmps140
      go_wp2_with fail
      go_quiet (fail)
      go_wp2
      go_ret
      exact ⟨ret_bool (unhide hd).symm, unhide hdr _⟩
    · have hd := hide (show (decide (E k 3 = x) && decide (E k 4 = y)) = false by simp [h4])
      rw [h3] at u3
      clear h3
      go_enter Tryz.func140, Tryz.ntmps140
      go_wp2_with fail
      go_quiet (fail)
      go_wp2
      go_ret
      exact ⟨ret_bool (unhide hd).symm, unhide hdr _⟩
  · have hd := hide (show (decide (E k 3 = x) && decide (E k 4 = y)) = false by simp [h3])
    go_enter Tryz.func140, Tryz.ntmps140
    go_wp2_with fail
    go_quiet (fail)
    go_wp2
    go_ret
    exact ⟨ret_bool (unhide hd).symm, unhide hdr _⟩

theorem heroC_any (b n c p0 p1 k : Nat) (E : Nat → Nat → Int) (seat : Int) (w : World) (hE : Ents w b n E) (hk : k < n) (hp0 : w.cell? ⟨p0, 0, none⟩ = some (.slice (some ⟨b, 0, none⟩) n c)) (hp1 : w.cell? ⟨p1, 0, none⟩ = some (.int .i64 seat)) :
    Calls Tryz.prog 109 #[.int .i64 (k : Int), .pointer (some ⟨p0, 0, none⟩), .pointer (some ⟨p1, 0, none⟩)] w (Says w (.bool (decide (E k 0 = 1) && decide (E k 2 = seat)))) := by
  obtain ⟨u0, _, u2, _⟩ := hE.row hk
  have hk' : (k : Int) < (n : Int) := by omega
  have hdr : Hid (∀ m, w.grownBy (w.drewN m) none) := fun m => grown_drew (World.grownBy.refl _ _) m
  clear hE
  by_cases h1 : E k 0 = 1
  · have hd := hide (decide_eq_true h1)
    have h1' : (E k 0 == 1) = true := by simp [h1]
    clear h1
    go_enter Tryz.func109, Tryz.ntmps109
    go_wp2_with fail
    go_quiet (fail)
    go_wp2
    go_ret
    exact ⟨ret_bool (by rw [unhide hd, Bool.true_and]; rfl), unhide hdr _⟩
  · have hd := hide (decide_eq_false h1)
    have h1' : (E k 0 == 1) = false := by simp [h1]
    clear h1
    go_enter Tryz.func109, Tryz.ntmps109
    go_wp2_with fail
    go_quiet (fail)
    go_wp2
    go_ret
    exact ⟨ret_bool (by rw [unhide hd]; simp), unhide hdr _⟩

end Go.Proofs.YtbanjoflgoiegaaGreat

namespace Go.Proofs.YtbanjoflgoiegaaGreat
open Go.RowKit

theorem En.atQ_free {E : Nat → Nat → Int} {x y : Int} {k : Nat} (h : E k 0 = 0) : En.atQ E x y k = false := by simp [En.atQ, h]
theorem En.atQ_some {E : Nat → Nat → Int} {x y : Int} {k : Nat} (h : ¬ E k 0 = 0) : En.atQ E x y k = (decide (E k 3 = x) && decide (E k 4 = y)) := by simp [En.atQ, h]
theorem En.heroQ_free {E : Nat → Nat → Int} {s : Int} {k : Nat} (h : E k 0 = 0) : En.heroQ E s k = false := by simp [En.heroQ, h]
theorem En.heroQ_some {E : Nat → Nat → Int} {s : Int} {k : Nat} (_ : ¬ E k 0 = 0) : En.heroQ E s k = (decide (E k 0 = 1) && decide (E k 2 = s)) := rfl
theorem En.ofQ_free {E : Nat → Nat → Int} {id : Int} {k : Nat} (h : E k 0 = 0) : En.ofQ E id k = false := by simp [En.ofQ, h]
theorem En.ofQ_some {E : Nat → Nat → Int} {id : Int} {k : Nat} (h : ¬ E k 0 = 0) : En.ofQ E id k = decide ((k : Int) + 32 * E k 1 = id) := by simp [En.ofQ, h]

set_option maxHeartbeats 1600000 in
theorem lowAt_any (b n c p0 p1 p2 : Nat) (E : Nat → Nat → Int) (x y : Int) (w : World) (hE : Ents w b n E) (hc : n ≤ c) (hp0 : w.cell? ⟨p0, 0, none⟩ = some (.slice (some ⟨b, 0, none⟩) n c)) (hp1 : w.cell? ⟨p1, 0, none⟩ = some (.int .i64 x)) (hp2 : w.cell? ⟨p2, 0, none⟩ = some (.int .i64 y)) (hl0 : p0 < w.heap.size) (hl1 : p1 < w.heap.size) (hl2 : p2 < w.heap.size) :
    Calls Tryz.prog 108 #[.slice (some ⟨b, 0, none⟩) n c, .func (.func 140) #[] #[.pointer (some ⟨p0, 0, none⟩), .pointer (some ⟨p1, 0, none⟩), .pointer (some ⟨p2, 0, none⟩)]] w (Says w (.int .i64 (En.first (En.atQ E x y) n))) := by
  have hn := hE.1
  have cd : Hid (∀ wx, w.grownBy wx none → ∀ k : Nat, k < n → Calls Tryz.prog 140 #[.int .i64 (k : Int), .pointer (some ⟨p0, 0, none⟩), .pointer (some ⟨p1, 0, none⟩), .pointer (some ⟨p2, 0, none⟩)] wx (Says wx (.bool (decide (E k 3 = x) && decide (E k 4 = y))))) := fun wx hg k hk =>
    atC_any b n c p0 p1 p2 k E x y wx (hE.on hg) hk ((grown_cell hg p0 0 hl0 (by simp)).trans hp0) ((grown_cell hg p1 0 hl1 (by simp)).trans hp1) ((grown_cell hg p2 0 hl2 (by simp)).trans hp2)
  have hE' := hide hE
  clear hE hp0 hl0 hp1 hl1 hp2 hl2
  go_enter Tryz.func108, Tryz.ntmps108
  go_wp2_with (go_at_call 141; refine (rows_any _ _ _ _ hn hc).mono ?_; rintro e w' ⟨rfl, hw⟩; subst w')
  go_loopw [10] (fun i wr => ∃ k : Nat, k ≤ n ∧ i = .int .i64 (k : Int) ∧ (∀ j, j < k → En.atQ E x y j = false) ∧ w.grownBy wr none) (fun i _ => 40 - (intOf i).toNat)
  case atStart => exact ⟨0, by omega, rfl, fun j hj => by omega, World.grownBy.refl _ _⟩
  case round =>
    obtain ⟨k, hk, rfl, hno, hgr⟩ := hrel
    have hno' := hide hno
    have hgr' := hide hgr
    clear hno hgr
    by_cases hlt : k < n
    · obtain ⟨u0, u1, u2, u3, u4, u5, u6, u7, u8, u9, u10⟩ := ((unhide hE').on (unhide hgr')).row hlt
      have hlt' : (k : Int) < (n : Int) := by omega
      have HL := hide hlt
      clear hlt
      go_wp2_with fail
      refine (isFree_any (E k) _).mono ?_
      rintro e w1 ⟨rfl, hg0⟩
      have hg1 := grown_trans (unhide hgr') (grown_trans (World.grownBy_alloc _ _ _) hg0)
      have hgr1 := hide hg1
      clear u0 u1 u2 u3 u4 u5 u6 u7 u8 u9 u10 hg0
      by_cases hf : E k 0 = 0
      · have hq : Hid (En.atQ E x y k = false) := En.atQ_free hf
        rw [decide_eq_true hf]
        clear hf hg1
        go_wp2
        go_roundw
        case rel => exact ⟨k + 1, by have := unhide HL; omega, by go_num, fun j hj => by
          by_cases e : j = k
          · rw [e]; exact unhide hq
          · exact unhide hno' j (by omega), unhide hgr1⟩
        case measure => simp [intOf]; omega
      · have hq : Hid (En.atQ E x y k = (decide (E k 3 = x) && decide (E k 4 = y))) := En.atQ_some hf
        have hf0 := hide hf
        rw [decide_eq_false hf]
        have cdk := hide (unhide cd w1 hg1 k (unhide HL))
        obtain ⟨r, hr⟩ : ∃ r : Bool, r = (decide (E k 3 = x) && decide (E k 4 = y)) := ⟨_, rfl⟩
        rw [← hr] at cdk hq
        clear hf hg1 hr
        go_wp2_with fail
        refine (unhide cdk).mono ?_
        rintro e w2 ⟨rfl, hg2⟩
        have hgr2 := hide (grown_trans (unhide hgr1) hg2)
        clear hg2 cdk
        cases r
        · go_wp2
          go_roundw
          case rel => exact ⟨k + 1, by have := unhide HL; omega, by go_num, fun j hj => by
            by_cases e : j = k
            · rw [e]; exact unhide hq
            · exact unhide hno' j (by omega), unhide hgr2⟩
          case measure => simp [intOf]; omega
        · have he := hide (En.first_hit (unhide hno') (unhide hq) (unhide HL))
          go_wp2
          go_ret
          exact ⟨ret_int (unhide he).symm, unhide hgr2⟩
    · have hge : ¬ (k : Int) < (n : Int) := by omega
      have he := hide (En.first_none (n := n) (fun j hj => unhide hno' j (by omega)))
      go_wp2
      go_ret
      exact ⟨ret_int (unhide he).symm, unhide hgr'⟩

set_option maxHeartbeats 1600000 in
theorem lowHero_any (b n c p0 p1 : Nat) (E : Nat → Nat → Int) (seat : Int) (w : World) (hE : Ents w b n E) (hc : n ≤ c) (hp0 : w.cell? ⟨p0, 0, none⟩ = some (.slice (some ⟨b, 0, none⟩) n c)) (hp1 : w.cell? ⟨p1, 0, none⟩ = some (.int .i64 seat)) (hl0 : p0 < w.heap.size) (hl1 : p1 < w.heap.size) :
    Calls Tryz.prog 108 #[.slice (some ⟨b, 0, none⟩) n c, .func (.func 109) #[] #[.pointer (some ⟨p0, 0, none⟩), .pointer (some ⟨p1, 0, none⟩)]] w (Says w (.int .i64 (En.first (En.heroQ E seat) n))) := by
  have hn := hE.1
  have cd : Hid (∀ wx, w.grownBy wx none → ∀ k : Nat, k < n → Calls Tryz.prog 109 #[.int .i64 (k : Int), .pointer (some ⟨p0, 0, none⟩), .pointer (some ⟨p1, 0, none⟩)] wx (Says wx (.bool (decide (E k 0 = 1) && decide (E k 2 = seat))))) := fun wx hg k hk =>
    heroC_any b n c p0 p1 k E seat wx (hE.on hg) hk ((grown_cell hg p0 0 hl0 (by simp)).trans hp0) ((grown_cell hg p1 0 hl1 (by simp)).trans hp1)
  have hE' := hide hE
  clear hE hp0 hl0 hp1 hl1
  go_enter Tryz.func108, Tryz.ntmps108
  go_wp2_with (go_at_call 141; refine (rows_any _ _ _ _ hn hc).mono ?_; rintro e w' ⟨rfl, hw⟩; subst w')
  go_loopw [10] (fun i wr => ∃ k : Nat, k ≤ n ∧ i = .int .i64 (k : Int) ∧ (∀ j, j < k → En.heroQ E seat j = false) ∧ w.grownBy wr none) (fun i _ => 40 - (intOf i).toNat)
  case atStart => exact ⟨0, by omega, rfl, fun j hj => by omega, World.grownBy.refl _ _⟩
  case round =>
    obtain ⟨k, hk, rfl, hno, hgr⟩ := hrel
    have hno' := hide hno
    have hgr' := hide hgr
    clear hno hgr
    by_cases hlt : k < n
    · obtain ⟨u0, u1, u2, u3, u4, u5, u6, u7, u8, u9, u10⟩ := ((unhide hE').on (unhide hgr')).row hlt
      have hlt' : (k : Int) < (n : Int) := by omega
      have HL := hide hlt
      clear hlt
      go_wp2_with fail
      refine (isFree_any (E k) _).mono ?_
      rintro e w1 ⟨rfl, hg0⟩
      have hg1 := grown_trans (unhide hgr') (grown_trans (World.grownBy_alloc _ _ _) hg0)
      have hgr1 := hide hg1
      clear u0 u1 u2 u3 u4 u5 u6 u7 u8 u9 u10 hg0
      by_cases hf : E k 0 = 0
      · have hq : Hid (En.heroQ E seat k = false) := En.heroQ_free hf
        rw [decide_eq_true hf]
        clear hf hg1
        go_wp2
        go_roundw
        case rel => exact ⟨k + 1, by have := unhide HL; omega, by go_num, fun j hj => by
          by_cases e : j = k
          · rw [e]; exact unhide hq
          · exact unhide hno' j (by omega), unhide hgr1⟩
        case measure => simp [intOf]; omega
      · have hq : Hid (En.heroQ E seat k = (decide (E k 0 = 1) && decide (E k 2 = seat))) := En.heroQ_some hf
        have hf0 := hide hf
        rw [decide_eq_false hf]
        have cdk := hide (unhide cd w1 hg1 k (unhide HL))
        obtain ⟨r, hr⟩ : ∃ r : Bool, r = (decide (E k 0 = 1) && decide (E k 2 = seat)) := ⟨_, rfl⟩
        rw [← hr] at cdk hq
        clear hf hg1 hr
        go_wp2_with fail
        refine (unhide cdk).mono ?_
        rintro e w2 ⟨rfl, hg2⟩
        have hgr2 := hide (grown_trans (unhide hgr1) hg2)
        clear hg2 cdk
        cases r
        · go_wp2
          go_roundw
          case rel => exact ⟨k + 1, by have := unhide HL; omega, by go_num, fun j hj => by
            by_cases e : j = k
            · rw [e]; exact unhide hq
            · exact unhide hno' j (by omega), unhide hgr2⟩
          case measure => simp [intOf]; omega
        · have he := hide (En.first_hit (unhide hno') (unhide hq) (unhide HL))
          go_wp2
          go_ret
          exact ⟨ret_int (unhide he).symm, unhide hgr2⟩
    · have hge : ¬ (k : Int) < (n : Int) := by omega
      have he := hide (En.first_none (n := n) (fun j hj => unhide hno' j (by omega)))
      go_wp2
      go_ret
      exact ⟨ret_int (unhide he).symm, unhide hgr'⟩

theorem entAt_any (b n c : Nat) (E : Nat → Nat → Int) (x y : Int) (w : World) (hE : Ents w b n E) (hc : n ≤ c) :
    Calls Tryz.prog 102 #[.slice (some ⟨b, 0, none⟩) n c, .int .i64 x, .int .i64 y] w (Says w (.int .i64 (En.first (En.atQ E x y) n))) := by
  obtain ⟨W, hW⟩ : ∃ W, W = (((w.alloc (.cells #[.slice (some ⟨b, 0, none⟩) n c] 26)).alloc (.cells #[.int .i64 x] 3)).alloc (.cells #[.int .i64 y] 3)) := ⟨_, rfl⟩
  have hg : w.grownBy W none := by
    rw [hW]
    repeat (refine grown_alloc ?_ _)
    exact World.grownBy.refl _ _
  have hs : W.heap.size = w.heap.size + 3 := by rw [hW]; simp
  have q0 : W.cell? ⟨w.heap.size, 0, none⟩ = some (.slice (some ⟨b, 0, none⟩) n c) := by rw [hW]; exact cell_past _ (by simp; omega) (cell_past _ (by simp) (cell_boxed _ _ _ _ rfl))
  have q1 : W.cell? ⟨w.heap.size + 1, 0, none⟩ = some (.int .i64 x) := by rw [hW]; exact cell_past _ (by simp) (cell_boxed _ _ _ _ (by simp))
  have q2 : W.cell? ⟨w.heap.size + 2, 0, none⟩ = some (.int .i64 y) := by rw [hW]; exact cell_boxed _ _ _ _ (by simp)
  have hl := hide (lowAt_any b n c w.heap.size (w.heap.size + 1) (w.heap.size + 2) E x y W (hE.on hg) hc q0 q1 q2 (by omega) (by omega) (by omega))
  have hg' := hide hg
  have hW' := hide hW
  clear hE hW hg hs q0 q1 q2
  go_enter Tryz.func102, Tryz.ntmps102
  go_wp2_with fail
  rw [← unhide hW']
  refine (unhide hl).mono ?_
  rintro e w1 ⟨rfl, hg1⟩
  have hg2 := hide (grown_trans (unhide hg') hg1)
  clear hg1
  go_wp2
  go_ret
  exact ⟨rfl, unhide hg2⟩

theorem hero_any (b n c : Nat) (E : Nat → Nat → Int) (seat : Int) (w : World) (hE : Ents w b n E) (hc : n ≤ c) :
    Calls Tryz.prog 68 #[.slice (some ⟨b, 0, none⟩) n c, .int .i64 seat] w (Says w (.int .i64 (En.first (En.heroQ E seat) n))) := by
  obtain ⟨W, hW⟩ : ∃ W, W = ((w.alloc (.cells #[.slice (some ⟨b, 0, none⟩) n c] 26)).alloc (.cells #[.int .i64 seat] 3)) := ⟨_, rfl⟩
  have hg : w.grownBy W none := by
    rw [hW]
    repeat (refine grown_alloc ?_ _)
    exact World.grownBy.refl _ _
  have hs : W.heap.size = w.heap.size + 2 := by rw [hW]; simp
  have q0 : W.cell? ⟨w.heap.size, 0, none⟩ = some (.slice (some ⟨b, 0, none⟩) n c) := by rw [hW]; simp
  have q1 : W.cell? ⟨w.heap.size + 1, 0, none⟩ = some (.int .i64 seat) := by rw [hW]; simp
  have hl := hide (lowHero_any b n c w.heap.size (w.heap.size + 1) E seat W (hE.on hg) hc q0 q1 (by omega) (by omega))
  have hg' := hide hg
  have hW' := hide hW
  clear hE hW hg hs q0 q1
  go_enter Tryz.func68, Tryz.ntmps68
  go_wp2_with fail
  rw [← unhide hW']
  refine (unhide hl).mono ?_
  rintro e w1 ⟨rfl, hg1⟩
  have hg2 := hide (grown_trans (unhide hg') hg1)
  clear hg1
  go_wp2
  go_ret
  exact ⟨rfl, unhide hg2⟩

set_option maxHeartbeats 800000 in
theorem entRefAt_same (b n c : Nat) (E : Nat → Nat → Int) (x y : Int) (w : World) (hE : Ents w b n E) :
    Calls Tryz.prog 24 #[.slice (some ⟨b, 0, none⟩) n c, .int .i64 x, .int .i64 y] w fun e w' => e = .returned (.int .i64 (En.first (En.atQ E x y) n)) ∧ w' = w := by
  have hn := hE.1
  have hE' := hide hE
  skip
  clear hE
  go_enter Tryz.func24, Tryz.ntmps24
  go_wp2_with fail
  go_loop [7] (fun i => ∃ k : Nat, k ≤ n ∧ i = .int .i64 (k : Int) ∧ ∀ j, j < k → En.atQ E x y j = false) (fun i => 40 - (intOf i).toNat)
  case atStart => exact ⟨0, by omega, rfl, fun j hj => by omega⟩
  case round =>
    obtain ⟨k, hk, rfl, hno⟩ := hrel
    have hno' := hide hno
    clear hno
    by_cases hlt : k < n
    · obtain ⟨u0, _, _, u3, u4, _⟩ := (unhide hE').row hlt
      have hlt' : (k : Int) < (n : Int) := by omega
      have HL := hide hlt
      skip
      clear hlt
      by_cases hf : E k 0 = 0
      · have hq : Hid (En.atQ E x y k = false) := En.atQ_free hf
        go_wp2
        go_round
        case rel => exact ⟨k + 1, by have := unhide HL; omega, by go_num, fun j hj => by
          by_cases e : j = k
          · rw [e]; exact unhide hq
          · exact unhide hno' j (by omega)⟩
        case measure => simp [intOf]; omega
      · have hf' : (E k 0 == 0) = false := by simp [hf]
        by_cases h3 : E k 3 = x
        · by_cases h4 : E k 4 = y
          · have hq : Hid (En.atQ E x y k = true) := by show En.atQ E x y k = true; rw [En.atQ_some hf]; simp [h3, h4]
            have he := hide (En.first_hit (unhide hno') (unhide hq) (unhide HL))
            go_wp2
            go_ret
            exact ⟨ret_int (unhide he).symm, rfl⟩
          · have hq : Hid (En.atQ E x y k = false) := by show En.atQ E x y k = false; rw [En.atQ_some hf]; simp [h4]
            have h4' : (E k 4 == y) = false := by simp [h4]
            go_wp2
            go_round
            case rel => exact ⟨k + 1, by have := unhide HL; omega, by go_num, fun j hj => by
              by_cases e : j = k
              · rw [e]; exact unhide hq
              · exact unhide hno' j (by omega)⟩
            case measure => simp [intOf]; omega
        · have hq : Hid (En.atQ E x y k = false) := by show En.atQ E x y k = false; rw [En.atQ_some hf]; simp [h3]
          have h3' : (E k 3 == x) = false := by simp [h3]
          go_wp2
          go_round
          case rel => exact ⟨k + 1, by have := unhide HL; omega, by go_num, fun j hj => by
            by_cases e : j = k
            · rw [e]; exact unhide hq
            · exact unhide hno' j (by omega)⟩
          case measure => simp [intOf]; omega
    · have hge : ¬ (k : Int) < (n : Int) := by omega
      have he := hide (En.first_none (n := n) (fun j hj => unhide hno' j (by omega)))
      go_wp2
      go_ret
      exact ⟨ret_int (unhide he).symm, rfl⟩

end Go.Proofs.YtbanjoflgoiegaaGreat

namespace Go.Proofs.YtbanjoflgoiegaaGreat
open Go.RowKit

def Nv.st (E : Nat → Nat → Int) (n : Nat) (c : Nat) : Bool := decide (0 ≤ En.first (En.atQ E ((c % 24 : Nat) : Int) ((c / 24 : Nat) : Int)) n)

def Nv.stTo (E : Nat → Nat → Int) (n : Nat) : Nat → Nat → Bool
  | 0, _ => false
  | k + 1, c => if Nv.num (E k 3) (E k 4) = (c : Int) then decide (0 ≤ En.first (En.atQ E (E k 3) (E k 4)) n) else Nv.stTo E n k c

theorem Nv.num_at {x y : Int} {c : Nat} (h : Nv.num x y = (c : Int)) : x = ((c % 24 : Nat) : Int) ∧ y = ((c / 24 : Nat) : Int) ∧ c < 384 := by
  unfold Nv.num at h
  split at h
  · rename_i hin
    rw [Gr.inB_iff] at hin
    omega
  · omega

theorem Nv.num_of {c : Nat} (hc : c < 384) : Nv.num ((c % 24 : Nat) : Int) ((c / 24 : Nat) : Int) = (c : Int) := by
  unfold Nv.num
  rw [if_pos (by rw [Gr.inB_iff]; omega)]
  omega

theorem Nv.stTo_eq (E : Nat → Nat → Int) (n : Nat) (c : Nat) : ∀ k, (Nv.stTo E n k c = true → Nv.st E n c = true) ∧ ((∃ j, j < k ∧ Nv.num (E j 3) (E j 4) = (c : Int)) → Nv.stTo E n k c = Nv.st E n c)
  | 0 => ⟨fun h => by simp [Nv.stTo] at h, fun ⟨j, h, _⟩ => by omega⟩
  | k + 1 => by
      obtain ⟨h1, h2⟩ := Nv.stTo_eq E n c k
      unfold Nv.stTo
      by_cases e : Nv.num (E k 3) (E k 4) = (c : Int)
      · rw [if_pos e]
        obtain ⟨ex, ey, _⟩ := Nv.num_at e
        have : decide (0 ≤ En.first (En.atQ E (E k 3) (E k 4)) n) = Nv.st E n c := by unfold Nv.st; rw [← ex, ← ey]
        rw [this]
        exact ⟨id, fun _ => rfl⟩
      · rw [if_neg e]
        refine ⟨h1, fun ⟨j, hj, he⟩ => h2 ⟨j, ?_, he⟩⟩
        by_cases ej : j = k
        · subst ej; exact absurd he e
        · omega

theorem Nv.stTo_all (E : Nat → Nat → Int) (n : Nat) (c : Nat) (hc : c < 384) : Nv.stTo E n n c = Nv.st E n c := by
  obtain ⟨h1, h2⟩ := Nv.stTo_eq E n c n
  by_cases h : Nv.st E n c = true
  · refine h2 ?_
    unfold Nv.st at h
    rw [decide_eq_true_eq] at h
    rcases En.first_cases (En.atQ E ((c % 24 : Nat) : Int) ((c / 24 : Nat) : Int)) n with ⟨h0, _⟩ | ⟨k, hk, _, hq, _⟩
    · omega
    · refine ⟨k, hk, ?_⟩
      simp only [En.atQ, Bool.and_eq_true, decide_eq_true_eq] at hq
      rw [hq.2.1, hq.2.2]
      exact Nv.num_of hc
  · have hn : ¬ Nv.stTo E n n c = true := fun e => h (h1 e)
    rw [Bool.not_eq_true] at h hn
    rw [h, hn]

def Nv.Lst (w : World) (a : Option Addr) (n c : Nat) (E : Nat → Nat → Int) : Prop := n ≤ 32 ∧ n ≤ c ∧ (n = 0 ∨ ∃ b, a = some ⟨b, 0, none⟩ ∧ Ents w b n E)

theorem Nv.Lst.on {w w' : World} {a : Option Addr} {n c : Nat} {E : Nat → Nat → Int} (h : Nv.Lst w a n c E) (hg : w.grownBy w' none) : Nv.Lst w' a n c E := by
  obtain ⟨h1, h2, h3 | ⟨b, e, hE⟩⟩ := h
  · exact ⟨h1, h2, .inl h3⟩
  · exact ⟨h1, h2, .inr ⟨b, e, hE.on hg⟩⟩

def Nv.Words (n : Nat) (E : Nat → Nat → Int) : Prop := ∀ i, i < n → (-9223372036854775808 ≤ E i 3 ∧ E i 3 ≤ 9223372036854775807) ∧ (-9223372036854775808 ≤ E i 4 ∧ E i 4 ≤ 9223372036854775807)

theorem info_bools : (Tryz.prog.info? 4).map (fun i => (i.zero, i.size, i.bytes)) = some (some (.bool false), 1, 1) := by kernel_rfl

theorem Nv.st_more {E : Nat → Nat → Int} {n k m : Nat} (hm : Nv.num (E k 3) (E k 4) = (m : Int)) (j : Nat) : (if j = m then Value.bool (decide (0 ≤ En.first (En.atQ E (E k 3) (E k 4)) n)) else .bool (Nv.stTo E n k j)) = .bool (Nv.stTo E n (k + 1) j) := by
  show _ = Value.bool (if Nv.num (E k 3) (E k 4) = (j : Int) then _ else _)
  rw [hm]
  by_cases e : j = m
  · rw [if_pos e, if_pos (by omega)]
  · rw [if_neg e, if_neg (by omega)]

theorem Nv.st_same {E : Nat → Nat → Int} {n k : Nat} (hm : Nv.num (E k 3) (E k 4) = -1) (j : Nat) : Nv.stTo E n k j = Nv.stTo E n (k + 1) j := by
  show _ = if Nv.num (E k 3) (E k 4) = (j : Int) then _ else _
  rw [hm, if_neg (by omega)]

theorem Nv.num_cases (x y : Int) : Nv.num x y = -1 ∨ ∃ m : Nat, m < 384 ∧ Nv.num x y = (m : Int) := by
  unfold Nv.num
  by_cases h : Gr.inB x y = true
  · rw [if_pos h]
    rw [Gr.inB_iff] at h
    exact .inr ⟨(y * 24 + x).toNat, by omega, by omega⟩
  · rw [if_neg h]; exact .inl rfl

set_option maxRecDepth 8000 in
set_option maxHeartbeats 1600000 in
theorem taken_any (a : Option Addr) (n c : Nat) (E : Nat → Nat → Int) (w : World) (hL : Nv.Lst w a n c E) (hW : Nv.Words n E) :
    Calls Tryz.prog 165 #[.slice a n c] w (Made w 4 384 (Bols (Nv.st E n))) := by
  have hn := hL.1
  have hL' := hide hL
  have hW' := hide hW
  obtain ⟨i0, hi, hz0, hz1, hz2⟩ := info_parts info_bools
  clear hL hW
  go_enter Tryz.func165, Tryz.ntmps165
  obtain ⟨G, hG⟩ : ∃ G, G = w.heap.size := ⟨_, rfl⟩
  have hG' := hide hG
  clear hG
  go_wp2_with (at_make; refine wpList_make_full _ rfl _ _ 93 rfl G 4 i0 (.bool false) 1 Tryz.underlying93 hi hz0 hz1 .i64 .i64 _ _ 384 rfl rfl rfl rfl ?q3 ?q4 (Nat.le_of_eq (unhide hG')) ?_)
  case q3 => rw [hz2]; omega
  case q4 => unfold maxLen; omega
  intro w2 hown hgrow
  rw [← unhide hG'] at hown ⊢
  have hA := hide (Arr.zero hown)
  have hB0 : Below G w w2 := (Below.refl _ _).grown hgrow (Nat.le_of_eq (unhide hG')) (by intro k hk; cases hk)
  clear hown hgrow hi hz0 hz1 hz2
  go_wp2_with fail
  go_loopw [10] (fun i wr => ∃ k : Nat, k ≤ n ∧ i = .int .i64 (k : Int) ∧ Arr wr G 4 384 (Bols (Nv.stTo E n k)) ∧ Below G w wr) (fun i _ => 40 - (intOf i).toNat)
  case atStart => exact ⟨0, Nat.zero_le _, rfl, unhide hA, hB0⟩
  case round =>
    obtain ⟨k, hk, rfl, hA1, hB1⟩ := hrel
    have hA2 := hide hA1
    have hB2 := hide hB1
    clear hA1 hA hB0 hB1
    by_cases hlt : k < n
    · obtain ⟨_, hnc, h0 | ⟨b, rfl, hE⟩⟩ := unhide hL'
      · omega
      have hgr : w.grownBy wr none := below_grown (by rw [← unhide hG']; exact unhide hB2)
      obtain ⟨u0, u1, u2, u3, u4, u5, u6, u7, u8, u9, u10⟩ := (hE.on hgr).row hlt
      have hE' := hide (hE.on hgr)
      have hlt' : (k : Int) < (n : Int) := by omega
      have HL := hide hlt
      have hww := hide (unhide hW' k hlt)
      obtain ⟨X, hX⟩ : ∃ X, X = E k 3 := ⟨_, rfl⟩
      obtain ⟨Y, hY⟩ : ∃ Y, Y = E k 4 := ⟨_, rfl⟩
      rw [← hX] at u3
      rw [← hY] at u4
      rw [← hX, ← hY] at hww
      have hX' := hide hX
      have hY' := hide hY
      clear hE hgr hlt hX hY
      go_wp2_with fail
      refine (point_any _ _ _).mono ?_
      rintro e w1 ⟨rfl, rfl⟩
      go_wp2_with fail
      obtain ⟨⟨x1, x2⟩, y1, y2⟩ := unhide hww
      refine (numberAt_any X Y _ x1 x2 y1 y2).mono ?_
      rintro e w1 ⟨rfl, rfl⟩
      clear x1 x2 y1 y2
      clear u0 u1 u2 u3 u4 u5 u6 u7 u8 u9 u10
      rcases Nv.num_cases X Y with hm | ⟨m, hm, hme⟩
      · rw [hm]
        have hs : Hid (∀ j, Nv.stTo E n k j = Nv.stTo E n (k + 1) j) := fun j => Nv.st_same (by rw [← unhide hX', ← unhide hY']; exact hm) j
        clear hm
        go_wp2
        go_roundw
        case rel => exact ⟨k + 1, by have := unhide HL; omega, by go_num, ((unhide hA2).alloc _).congr fun j _ => by show Value.bool _ = Value.bool _; rw [unhide hs j], (unhide hB2).alloc (Nat.le_of_lt (unhide hA2).lt) _⟩
        case measure => have := unhide HL; simp [intOf]; omega
      · rw [hme]
        have hs : Hid (∀ j, (if j = m then Value.bool (decide (0 ≤ En.first (En.atQ E X Y) n)) else .bool (Nv.stTo E n k j)) = .bool (Nv.stTo E n (k + 1) j)) := fun j => by
          rw [unhide hX', unhide hY']
          exact Nv.st_more (by rw [← unhide hX', ← unhide hY']; exact hme) j
        have hm' : (m : Int) < 384 := by omega
        have HM := hide hm
        clear hm hme
        go_wp2_with fail
        refine (entAt_any b n c E X Y _ ((unhide hE').on (World.grownBy_alloc _ _ _)) hnc).mono ?_
        rintro e w1 ⟨rfl, hg⟩
        have hg1 := grown_trans (World.grownBy_alloc _ _ _) hg
        have hA3 := hide ((unhide hA2).grown hg1 (by simp))
        have hB3 : Hid (Below G w w1) := (unhide hB2).trans (none_below hg1 |>.mono (Nat.le_of_lt (unhide hA2).lt))
        have hcc := (unhide hA3).cell (unhide HM)
        have hff := (unhide hA3).free m
        generalize En.first (En.atQ E X Y) n = r at hs
        clear hg hg1
        go_wp2
        go_roundw
        case rel => exact ⟨k + 1, by have := unhide HL; omega, by go_num, ((unhide hA3).store m _).congr fun j _ => unhide hs j, (unhide hB3).setCell (Nat.le_refl _) _⟩
        case measure => have := unhide HL; simp [intOf]; omega
    · have hge : ¬ (k : Int) < (n : Int) := by omega
      obtain rfl : k = n := by omega
      have hA3 := hide ((unhide hA2).congr (G := Bols (Nv.st E k)) fun j hj => by show Value.bool _ = Value.bool _; rw [Nv.stTo_all E k j hj])
      clear hA2 hk hlt
      go_wp2
      go_ret
      exact ⟨G, rfl, Nat.le_of_eq (unhide hG').symm, unhide hA3, by rw [← unhide hG']; exact unhide hB2⟩

end Go.Proofs.YtbanjoflgoiegaaGreat
