/-
  The first row that is asked for, in ents: the test by an id, and the search itself, once for each of its tests.
-/
import Derived.Test.YtbooojkhcnfhbaaEntFind
import Derived.BigQuiet
namespace Go.Proofs.Ytbooojkhcnfhbaa
open Go.RowKit

theorem grown_drew1 {a b : World} {r : Option Nat} (h : a.grownBy b r) : a.grownBy b.drew r := grown_drew h 1

theorem wp_region_grown {P : Program} {id : Nat} {Q : Exit → Act → World → Prop} {a : Act} {w : World} {l : List Oper} (hm : P.follows .mixedOrders = true) (hB : Region.lexB .any l.toArray = true)
    (h : ∀ (St : Type), Nonempty St → ∀ (W : St → World), (∀ σ, w.grownBy (W σ) none) → (∀ x, w.grownBy x none → ∃ σ, x = W σ) →
      wpQuiet P l.toArray (fun w' => ∃ σ, w' = W σ) (fun a' => ∀ w', (∃ σ, w' = W σ) → Q .normal a' w') l a) : (Code.region id l.toArray true).wp P Q a w := by
  have h1 := h { x // w.grownBy x none } ⟨⟨_, World.grownBy.refl w none⟩⟩ (fun σ => σ.val) (fun σ => σ.property) (fun x hx => ⟨⟨x, hx⟩, rfl⟩)
  exact wp_region_quiet (C := fun w' => ∃ σ : { x // w.grownBy x none }, w' = σ.val) hm hB ⟨⟨_, grown_drew1 (World.grownBy.refl _ _)⟩, rfl⟩ (by simpa using h1)

/-- A callee that makes memory of its own stays in the class. -/
theorem calls_class {P : Program} {f : FuncId} {args : Array Value} {St : Type} {W : St → World} {w : World} {σ : St} {v : Value} (hI : ∀ σ, w.grownBy (W σ) none) (hx : ∀ x, w.grownBy x none → ∃ σ, x = W σ)
    (h : Calls P f args (W σ) (Says (W σ) v)) : Calls P f args (W σ) fun e w'' => e = .returned v ∧ ∃ σ', w'' = W σ' :=
  h.mono fun _ w' ⟨he, hg⟩ => ⟨he, hx w' (grown_trans (hI σ) hg)⟩

theorem ofC_any (b n c p0 p1 k : Nat) (E : Nat → Nat → Int) (id : Int) (w : World) (hE : Ents w b n E) (hc : n ≤ c) (hG : En.Gens n E) (hk : k < n) (hf : E k 0 ≠ 0) (hp0 : w.cell? ⟨p0, 0, none⟩ = some (.slice (some ⟨b, 0, none⟩) n c)) (hp1 : w.cell? ⟨p1, 0, none⟩ = some (.int .i64 id)) (hl0 : p0 < w.heap.size) (hl1 : p1 < w.heap.size) :
    Calls Try.prog 34 #[.int .i64 (k : Int), .pointer (some ⟨p0, 0, none⟩), .pointer (some ⟨p1, 0, none⟩)] w (Says w (.bool (decide ((k : Int) + 32 * E k 1 = id)))) := by
  have hE' := hide hE
  have hG' := hide hG
  have hp0' := hide hp0
  have hp1' := hide hp1
  obtain ⟨I, hI0⟩ : ∃ I, I = (k : Int) + 32 * E k 1 := ⟨_, rfl⟩
  have hid := hide (show En.id n E (k : Int) = I by rw [hI0]; exact En.id_at hk hf)
  rw [← hI0]
  clear hE hG hp0 hp1 hf hI0
  go_enter Try.func34, Try.ntmps34
  go_wp2_with fail
  refine wp_region_grown (by kernel_rfl) (by kernel_rfl) ?_
  intro St hN W hI hx
  have c0 : ∀ σ, (W σ).cell? ⟨p0, 0, none⟩ = some (.slice (some ⟨b, 0, none⟩) n c) := fun σ => (grown_cell (hI σ) p0 0 hl0 (by simp)).trans (unhide hp0')
  have c1 : ∀ σ, (W σ).cell? ⟨p1, 0, none⟩ = some (.int .i64 id) := fun σ => (grown_cell (hI σ) p1 0 hl1 (by simp)).trans (unhide hp1')
  have c2 : ∀ σ, Calls Try.prog 20 #[.slice (some ⟨b, 0, none⟩) n c, .int .i64 (k : Int)] (W σ) fun e w'' => e = .returned (.int .i64 I) ∧ ∃ σ', w'' = W σ' := fun σ => by
    have h := id_any b n c E (k : Int) (W σ) ((unhide hE').on (hI σ)) hc (unhide hG')
    rw [unhide hid] at h
    exact calls_class hI hx h
  have hI' := hide hI
  clear hI hx
  repeat (go_big_quiet_step ((go_at_call 20; exact c2 _)))
  refine wpQuiet_nil ?_
  rintro _ ⟨σ, rfl⟩
  obtain ⟨wq, hwq⟩ : ∃ wq, W σ = wq := ⟨_, rfl⟩
  have hgq := hide (unhide hI' σ)
  rw [hwq] at hgq ⊢
  clear c0 c1 c2 hI' hwq
  clear σ W hN St
  go_wp2
  go_ret
  exact ⟨rfl, unhide hgq⟩

theorem En.atQ_free {E : Nat → Nat → Int} {x y : Int} {k : Nat} (h : E k 0 = 0) : En.atQ E x y k = false := by simp [En.atQ, h]
theorem En.atQ_some {E : Nat → Nat → Int} {x y : Int} {k : Nat} (h : ¬ E k 0 = 0) : En.atQ E x y k = (decide (E k 3 = x) && decide (E k 4 = y)) := by simp [En.atQ, h]
theorem En.heroQ_free {E : Nat → Nat → Int} {s : Int} {k : Nat} (h : E k 0 = 0) : En.heroQ E s k = false := by simp [En.heroQ, h]
theorem En.heroQ_some {E : Nat → Nat → Int} {s : Int} {k : Nat} (_ : ¬ E k 0 = 0) : En.heroQ E s k = (decide (E k 0 = 1) && decide (E k 2 = s)) := rfl
theorem En.ofQ_free {E : Nat → Nat → Int} {id : Int} {k : Nat} (h : E k 0 = 0) : En.ofQ E id k = false := by simp [En.ofQ, h]
theorem En.ofQ_some {E : Nat → Nat → Int} {id : Int} {k : Nat} (h : ¬ E k 0 = 0) : En.ofQ E id k = decide ((k : Int) + 32 * E k 1 = id) := by simp [En.ofQ, h]


set_option maxHeartbeats 1600000 in
theorem lowAt_any (b n c p0 p1 p2 : Nat) (E : Nat → Nat → Int) (x y : Int) (w : World) (hE : Ents w b n E) (hc : n ≤ c) (hp0 : w.cell? ⟨p0, 0, none⟩ = some (.slice (some ⟨b, 0, none⟩) n c)) (hp1 : w.cell? ⟨p1, 0, none⟩ = some (.int .i64 x)) (hp2 : w.cell? ⟨p2, 0, none⟩ = some (.int .i64 y)) (hl0 : p0 < w.heap.size) (hl1 : p1 < w.heap.size) (hl2 : p2 < w.heap.size) :
    Calls Try.prog 31 #[.slice (some ⟨b, 0, none⟩) n c, .func (.func 32) #[] #[.pointer (some ⟨p0, 0, none⟩), .pointer (some ⟨p1, 0, none⟩), .pointer (some ⟨p2, 0, none⟩)]] w (Says w (.int .i64 (En.first (En.atQ E x y) n))) := by
  have hn := hE.1
  have cd : Hid (∀ wx, w.grownBy wx none → ∀ k : Nat, k < n → Calls Try.prog 32 #[.int .i64 (k : Int), .pointer (some ⟨p0, 0, none⟩), .pointer (some ⟨p1, 0, none⟩), .pointer (some ⟨p2, 0, none⟩)] wx (Says wx (.bool (decide (E k 3 = x) && decide (E k 4 = y))))) := fun wx hg k hk =>
    atC_any b n c p0 p1 p2 k E x y wx (hE.on hg) hk ((grown_cell hg p0 0 hl0 (by simp)).trans hp0) ((grown_cell hg p1 0 hl1 (by simp)).trans hp1) ((grown_cell hg p2 0 hl2 (by simp)).trans hp2)
  have hE' := hide hE
  clear hE hp0 hl0 hp1 hl1 hp2 hl2
  go_enter Try.func31, Try.ntmps31
  go_wp2_with (go_at_call 26; refine (rows_any _ _ _ _ hn hc).mono ?_; rintro e w' ⟨rfl, hw⟩; subst w')
  go_loopw [10] (fun i wr => ∃ k : Nat, k ≤ n ∧ i = .int .i64 (k : Int) ∧ (∀ j, j < k → En.atQ E x y j = false) ∧ w.grownBy wr none) (fun i _ => 40 - (intOf i).toNat)
  case atStart => exact ⟨0, by omega, rfl, fun j hj => by omega, World.grownBy.refl _ _⟩
  case round =>
    obtain ⟨k, hk, rfl, hno, hgr⟩ := hrel
    have hno' := hide hno
    have hgr' := hide hgr
    clear hno hgr
    by_cases hlt : k < n
    · obtain ⟨u0, u1, u2, u3, u4, u5, u6, u7, u8, u9, u10⟩ := ((unhide hE').on (unhide hgr')).row hlt
      have hlt' : (k : Int) < (n : Int) := by omega
      have HL := hide hlt
      clear hlt
      go_wp2_with fail
      refine (isFree_any (E k) _).mono ?_
      rintro e w1 ⟨rfl, hg0⟩
      have hg1 := grown_trans (unhide hgr') (grown_trans (World.grownBy_alloc _ _ _) hg0)
      have hgr1 := hide hg1
      clear u0 u1 u2 u3 u4 u5 u6 u7 u8 u9 u10 hg0
      by_cases hf : E k 0 = 0
      · have hq : Hid (En.atQ E x y k = false) := En.atQ_free hf
        rw [decide_eq_true hf]
        clear hf hg1
        go_wp2
        go_roundw
        case rel => exact ⟨k + 1, by have := unhide HL; omega, by go_num, fun j hj => by
          by_cases e : j = k
          · rw [e]; exact unhide hq
          · exact unhide hno' j (by omega), unhide hgr1⟩
        case measure => simp [intOf]; omega
      · have hq : Hid (En.atQ E x y k = (decide (E k 3 = x) && decide (E k 4 = y))) := En.atQ_some hf
        have hf0 := hide hf
        rw [decide_eq_false hf]
        have cdk := hide (unhide cd w1 hg1 k (unhide HL))
        obtain ⟨r, hr⟩ : ∃ r : Bool, r = (decide (E k 3 = x) && decide (E k 4 = y)) := ⟨_, rfl⟩
        rw [← hr] at cdk hq
        clear hf hg1 hr
        go_wp2_with fail
        refine (unhide cdk).mono ?_
        rintro e w2 ⟨rfl, hg2⟩
        have hgr2 := hide (grown_trans (unhide hgr1) hg2)
        clear hg2 cdk
        cases r
        · go_wp2
          go_roundw
          case rel => exact ⟨k + 1, by have := unhide HL; omega, by go_num, fun j hj => by
            by_cases e : j = k
            · rw [e]; exact unhide hq
            · exact unhide hno' j (by omega), unhide hgr2⟩
          case measure => simp [intOf]; omega
        · have he := hide (En.first_hit (unhide hno') (unhide hq) (unhide HL))
          go_wp2
          go_ret
          exact ⟨ret_int (unhide he).symm, unhide hgr2⟩
    · have hge : ¬ (k : Int) < (n : Int) := by omega
      have he := hide (En.first_none (n := n) (fun j hj => unhide hno' j (by omega)))
      go_wp2
      go_ret
      exact ⟨ret_int (unhide he).symm, unhide hgr'⟩


set_option maxHeartbeats 1600000 in
theorem lowHero_any (b n c p0 p1 : Nat) (E : Nat → Nat → Int) (seat : Int) (w : World) (hE : Ents w b n E) (hc : n ≤ c) (hp0 : w.cell? ⟨p0, 0, none⟩ = some (.slice (some ⟨b, 0, none⟩) n c)) (hp1 : w.cell? ⟨p1, 0, none⟩ = some (.int .i64 seat)) (hl0 : p0 < w.heap.size) (hl1 : p1 < w.heap.size) :
    Calls Try.prog 31 #[.slice (some ⟨b, 0, none⟩) n c, .func (.func 33) #[] #[.pointer (some ⟨p0, 0, none⟩), .pointer (some ⟨p1, 0, none⟩)]] w (Says w (.int .i64 (En.first (En.heroQ E seat) n))) := by
  have hn := hE.1
  have cd : Hid (∀ wx, w.grownBy wx none → ∀ k : Nat, k < n → Calls Try.prog 33 #[.int .i64 (k : Int), .pointer (some ⟨p0, 0, none⟩), .pointer (some ⟨p1, 0, none⟩)] wx (Says wx (.bool (decide (E k 0 = 1) && decide (E k 2 = seat))))) := fun wx hg k hk =>
    heroC_any b n c p0 p1 k E seat wx (hE.on hg) hk ((grown_cell hg p0 0 hl0 (by simp)).trans hp0) ((grown_cell hg p1 0 hl1 (by simp)).trans hp1)
  have hE' := hide hE
  clear hE hp0 hl0 hp1 hl1
  go_enter Try.func31, Try.ntmps31
  go_wp2_with (go_at_call 26; refine (rows_any _ _ _ _ hn hc).mono ?_; rintro e w' ⟨rfl, hw⟩; subst w')
  go_loopw [10] (fun i wr => ∃ k : Nat, k ≤ n ∧ i = .int .i64 (k : Int) ∧ (∀ j, j < k → En.heroQ E seat j = false) ∧ w.grownBy wr none) (fun i _ => 40 - (intOf i).toNat)
  case atStart => exact ⟨0, by omega, rfl, fun j hj => by omega, World.grownBy.refl _ _⟩
  case round =>
    obtain ⟨k, hk, rfl, hno, hgr⟩ := hrel
    have hno' := hide hno
    have hgr' := hide hgr
    clear hno hgr
    by_cases hlt : k < n
    · obtain ⟨u0, u1, u2, u3, u4, u5, u6, u7, u8, u9, u10⟩ := ((unhide hE').on (unhide hgr')).row hlt
      have hlt' : (k : Int) < (n : Int) := by omega
      have HL := hide hlt
      clear hlt
      go_wp2_with fail
      refine (isFree_any (E k) _).mono ?_
      rintro e w1 ⟨rfl, hg0⟩
      have hg1 := grown_trans (unhide hgr') (grown_trans (World.grownBy_alloc _ _ _) hg0)
      have hgr1 := hide hg1
      clear u0 u1 u2 u3 u4 u5 u6 u7 u8 u9 u10 hg0
      by_cases hf : E k 0 = 0
      · have hq : Hid (En.heroQ E seat k = false) := En.heroQ_free hf
        rw [decide_eq_true hf]
        clear hf hg1
        go_wp2
        go_roundw
        case rel => exact ⟨k + 1, by have := unhide HL; omega, by go_num, fun j hj => by
          by_cases e : j = k
          · rw [e]; exact unhide hq
          · exact unhide hno' j (by omega), unhide hgr1⟩
        case measure => simp [intOf]; omega
      · have hq : Hid (En.heroQ E seat k = (decide (E k 0 = 1) && decide (E k 2 = seat))) := En.heroQ_some hf
        have hf0 := hide hf
        rw [decide_eq_false hf]
        have cdk := hide (unhide cd w1 hg1 k (unhide HL))
        obtain ⟨r, hr⟩ : ∃ r : Bool, r = (decide (E k 0 = 1) && decide (E k 2 = seat)) := ⟨_, rfl⟩
        rw [← hr] at cdk hq
        clear hf hg1 hr
        go_wp2_with fail
        refine (unhide cdk).mono ?_
        rintro e w2 ⟨rfl, hg2⟩
        have hgr2 := hide (grown_trans (unhide hgr1) hg2)
        clear hg2 cdk
        cases r
        · go_wp2
          go_roundw
          case rel => exact ⟨k + 1, by have := unhide HL; omega, by go_num, fun j hj => by
            by_cases e : j = k
            · rw [e]; exact unhide hq
            · exact unhide hno' j (by omega), unhide hgr2⟩
          case measure => simp [intOf]; omega
        · have he := hide (En.first_hit (unhide hno') (unhide hq) (unhide HL))
          go_wp2
          go_ret
          exact ⟨ret_int (unhide he).symm, unhide hgr2⟩
    · have hge : ¬ (k : Int) < (n : Int) := by omega
      have he := hide (En.first_none (n := n) (fun j hj => unhide hno' j (by omega)))
      go_wp2
      go_ret
      exact ⟨ret_int (unhide he).symm, unhide hgr'⟩


set_option maxHeartbeats 1600000 in
theorem lowOf_any (b n c p0 p1 : Nat) (E : Nat → Nat → Int) (id : Int) (w : World) (hE : Ents w b n E) (hc : n ≤ c) (hG : En.Gens n E) (hp0 : w.cell? ⟨p0, 0, none⟩ = some (.slice (some ⟨b, 0, none⟩) n c)) (hp1 : w.cell? ⟨p1, 0, none⟩ = some (.int .i64 id)) (hl0 : p0 < w.heap.size) (hl1 : p1 < w.heap.size) :
    Calls Try.prog 31 #[.slice (some ⟨b, 0, none⟩) n c, .func (.func 34) #[] #[.pointer (some ⟨p0, 0, none⟩), .pointer (some ⟨p1, 0, none⟩)]] w (Says w (.int .i64 (En.first (En.ofQ E id) n))) := by
  have hn := hE.1
  have cd : Hid (∀ wx, w.grownBy wx none → ∀ k : Nat, k < n → E k 0 ≠ 0 → Calls Try.prog 34 #[.int .i64 (k : Int), .pointer (some ⟨p0, 0, none⟩), .pointer (some ⟨p1, 0, none⟩)] wx (Says wx (.bool (decide ((k : Int) + 32 * E k 1 = id))))) := fun wx hg k hk hf =>
    ofC_any b n c p0 p1 k E id wx (hE.on hg) hc hG hk hf ((grown_cell hg p0 0 hl0 (by simp)).trans hp0) ((grown_cell hg p1 0 hl1 (by simp)).trans hp1) (Nat.lt_of_lt_of_le hl0 hg.size) (Nat.lt_of_lt_of_le hl1 hg.size)
  have hE' := hide hE
  clear hE hp0 hl0 hp1 hl1 hG
  go_enter Try.func31, Try.ntmps31
  go_wp2_with (go_at_call 26; refine (rows_any _ _ _ _ hn hc).mono ?_; rintro e w' ⟨rfl, hw⟩; subst w')
  go_loopw [10] (fun i wr => ∃ k : Nat, k ≤ n ∧ i = .int .i64 (k : Int) ∧ (∀ j, j < k → En.ofQ E id j = false) ∧ w.grownBy wr none) (fun i _ => 40 - (intOf i).toNat)
  case atStart => exact ⟨0, by omega, rfl, fun j hj => by omega, World.grownBy.refl _ _⟩
  case round =>
    obtain ⟨k, hk, rfl, hno, hgr⟩ := hrel
    have hno' := hide hno
    have hgr' := hide hgr
    clear hno hgr
    by_cases hlt : k < n
    · obtain ⟨u0, u1, u2, u3, u4, u5, u6, u7, u8, u9, u10⟩ := ((unhide hE').on (unhide hgr')).row hlt
      have hlt' : (k : Int) < (n : Int) := by omega
      have HL := hide hlt
      clear hlt
      go_wp2_with fail
      refine (isFree_any (E k) _).mono ?_
      rintro e w1 ⟨rfl, hg0⟩
      have hg1 := grown_trans (unhide hgr') (grown_trans (World.grownBy_alloc _ _ _) hg0)
      have hgr1 := hide hg1
      clear u0 u1 u2 u3 u4 u5 u6 u7 u8 u9 u10 hg0
      by_cases hf : E k 0 = 0
      · have hq : Hid (En.ofQ E id k = false) := En.ofQ_free hf
        rw [decide_eq_true hf]
        clear hf hg1
        go_wp2
        go_roundw
        case rel => exact ⟨k + 1, by have := unhide HL; omega, by go_num, fun j hj => by
          by_cases e : j = k
          · rw [e]; exact unhide hq
          · exact unhide hno' j (by omega), unhide hgr1⟩
        case measure => simp [intOf]; omega
      · have hq : Hid (En.ofQ E id k = (decide ((k : Int) + 32 * E k 1 = id))) := En.ofQ_some hf
        have hf0 := hide hf
        rw [decide_eq_false hf]
        have cdk := hide (unhide cd w1 hg1 k (unhide HL) (unhide hf0))
        obtain ⟨r, hr⟩ : ∃ r : Bool, r = (decide ((k : Int) + 32 * E k 1 = id)) := ⟨_, rfl⟩
        rw [← hr] at cdk hq
        clear hf hg1 hr
        go_wp2_with fail
        refine (unhide cdk).mono ?_
        rintro e w2 ⟨rfl, hg2⟩
        have hgr2 := hide (grown_trans (unhide hgr1) hg2)
        clear hg2 cdk
        cases r
        · go_wp2
          go_roundw
          case rel => exact ⟨k + 1, by have := unhide HL; omega, by go_num, fun j hj => by
            by_cases e : j = k
            · rw [e]; exact unhide hq
            · exact unhide hno' j (by omega), unhide hgr2⟩
          case measure => simp [intOf]; omega
        · have he := hide (En.first_hit (unhide hno') (unhide hq) (unhide HL))
          go_wp2
          go_ret
          exact ⟨ret_int (unhide he).symm, unhide hgr2⟩
    · have hge : ¬ (k : Int) < (n : Int) := by omega
      have he := hide (En.first_none (n := n) (fun j hj => unhide hno' j (by omega)))
      go_wp2
      go_ret
      exact ⟨ret_int (unhide he).symm, unhide hgr'⟩

theorem at_any (b n c : Nat) (E : Nat → Nat → Int) (x y : Int) (w : World) (hE : Ents w b n E) (hc : n ≤ c) :
    Calls Try.prog 16 #[.slice (some ⟨b, 0, none⟩) n c, .int .i64 x, .int .i64 y] w (Says w (.int .i64 (En.first (En.atQ E x y) n))) := by
  obtain ⟨W, hW⟩ : ∃ W, W = (((w.alloc (.cells #[.slice (some ⟨b, 0, none⟩) n c] 22)).alloc (.cells #[.int .i64 x] 3)).alloc (.cells #[.int .i64 y] 3)) := ⟨_, rfl⟩
  have hg : w.grownBy W none := by
    rw [hW]
    repeat (refine grown_alloc ?_ _)
    exact World.grownBy.refl _ _
  have hs : W.heap.size = w.heap.size + 3 := by rw [hW]; simp
  have q0 : W.cell? ⟨w.heap.size, 0, none⟩ = some (.slice (some ⟨b, 0, none⟩) n c) := by rw [hW]; exact cell_past _ (by simp; omega) (cell_past _ (by simp) (cell_boxed _ _ _ _ rfl))
  have q1 : W.cell? ⟨w.heap.size + 1, 0, none⟩ = some (.int .i64 x) := by rw [hW]; exact cell_past _ (by simp) (cell_boxed _ _ _ _ (by simp))
  have q2 : W.cell? ⟨w.heap.size + 2, 0, none⟩ = some (.int .i64 y) := by rw [hW]; exact cell_boxed _ _ _ _ (by simp)
  have hl := hide (lowAt_any b n c w.heap.size (w.heap.size + 1) (w.heap.size + 2) E x y W (hE.on hg) hc q0 q1 q2 (by omega) (by omega) (by omega))
  have hg' := hide hg
  have hW' := hide hW
  clear hE hW hg hs q0 q1 q2
  go_enter Try.func16, Try.ntmps16
  go_wp2_with fail
  rw [← unhide hW']
  refine (unhide hl).mono ?_
  rintro e w1 ⟨rfl, hg1⟩
  have hg2 := hide (grown_trans (unhide hg') hg1)
  clear hg1
  go_wp2
  go_ret
  exact ⟨rfl, unhide hg2⟩

theorem hero_any (b n c : Nat) (E : Nat → Nat → Int) (seat : Int) (w : World) (hE : Ents w b n E) (hc : n ≤ c) :
    Calls Try.prog 18 #[.slice (some ⟨b, 0, none⟩) n c, .int .i64 seat] w (Says w (.int .i64 (En.first (En.heroQ E seat) n))) := by
  obtain ⟨W, hW⟩ : ∃ W, W = ((w.alloc (.cells #[.slice (some ⟨b, 0, none⟩) n c] 22)).alloc (.cells #[.int .i64 seat] 3)) := ⟨_, rfl⟩
  have hg : w.grownBy W none := by
    rw [hW]
    repeat (refine grown_alloc ?_ _)
    exact World.grownBy.refl _ _
  have hs : W.heap.size = w.heap.size + 2 := by rw [hW]; simp
  have q0 : W.cell? ⟨w.heap.size, 0, none⟩ = some (.slice (some ⟨b, 0, none⟩) n c) := by rw [hW]; simp
  have q1 : W.cell? ⟨w.heap.size + 1, 0, none⟩ = some (.int .i64 seat) := by rw [hW]; simp
  have hl := hide (lowHero_any b n c w.heap.size (w.heap.size + 1) E seat W (hE.on hg) hc q0 q1 (by omega) (by omega))
  have hg' := hide hg
  have hW' := hide hW
  clear hE hW hg hs q0 q1
  go_enter Try.func18, Try.ntmps18
  go_wp2_with fail
  rw [← unhide hW']
  refine (unhide hl).mono ?_
  rintro e w1 ⟨rfl, hg1⟩
  have hg2 := hide (grown_trans (unhide hg') hg1)
  clear hg1
  go_wp2
  go_ret
  exact ⟨rfl, unhide hg2⟩

theorem of_any (b n c : Nat) (E : Nat → Nat → Int) (id : Int) (w : World) (hE : Ents w b n E) (hc : n ≤ c) (hG : En.Gens n E) :
    Calls Try.prog 22 #[.slice (some ⟨b, 0, none⟩) n c, .int .i64 id] w (Says w (.int .i64 (En.first (En.ofQ E id) n))) := by
  obtain ⟨W, hW⟩ : ∃ W, W = ((w.alloc (.cells #[.slice (some ⟨b, 0, none⟩) n c] 22)).alloc (.cells #[.int .i64 id] 3)) := ⟨_, rfl⟩
  have hg : w.grownBy W none := by
    rw [hW]
    repeat (refine grown_alloc ?_ _)
    exact World.grownBy.refl _ _
  have hs : W.heap.size = w.heap.size + 2 := by rw [hW]; simp
  have q0 : W.cell? ⟨w.heap.size, 0, none⟩ = some (.slice (some ⟨b, 0, none⟩) n c) := by rw [hW]; simp
  have q1 : W.cell? ⟨w.heap.size + 1, 0, none⟩ = some (.int .i64 id) := by rw [hW]; simp
  have hl := hide (lowOf_any b n c w.heap.size (w.heap.size + 1) E id W (hE.on hg) hc hG q0 q1 (by omega) (by omega))
  have hg' := hide hg
  have hW' := hide hW
  clear hE hW hg hs q0 q1 hG
  go_enter Try.func22, Try.ntmps22
  go_wp2_with fail
  rw [← unhide hW']
  refine (unhide hl).mono ?_
  rintro e w1 ⟨rfl, hg1⟩
  have hg2 := hide (grown_trans (unhide hg') hg1)
  clear hg1
  go_wp2
  go_ret
  exact ⟨rfl, unhide hg2⟩

end Go.Proofs.Ytbooojkhcnfhbaa
