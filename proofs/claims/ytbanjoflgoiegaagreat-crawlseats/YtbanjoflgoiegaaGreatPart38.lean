/-
  CrawlLone CrawlFolk
-/
import Derived.Test.YtbanjoflgoiegaaGreatPart32
import Derived.Test.YtbanjoflgoiegaaGreatPart37
import Derived.Test.YtbanjoflgoiegaaGreatPart33
import Derived.Test.YtbanjoflgoiegaaGreatPart30
import Derived.Test.YtbanjoflgoiegaaGreatPart27
namespace Go.Proofs.YtbanjoflgoiegaaGreat
open Go.RowKit

structure Cr.Sole (E : Nat → Nat → Int) (f : Nat) (t : Int) : Prop where
  lt : f < 32
  one : E f 0 = 1
  seat : E f 2 = t
  free : ∀ k, k < 32 → k ≠ f → E k 0 = 0

theorem Cr.Sole.hero {E : Nat → Nat → Int} {f : Nat} {t : Int} (h : Cr.Sole E f t) : Gd.hero E t = (f : Int) := by
  unfold Gd.hero
  refine En.first_hit (fun j hj => ?_) (by simp [En.heroQ, h.one, h.seat]) h.lt
  have hl := h.lt
  simp [En.heroQ, h.free j (by omega) (by omega)]

theorem Cr.Sole.none {E : Nat → Nat → Int} {f : Nat} {t u : Int} (h : Cr.Sole E f t) (hu : u ≠ t) : Gd.hero E u < 0 := by
  unfold Gd.hero
  rw [En.first_none (fun j hj => ?_)]
  · omega
  · by_cases e : j = f
    · have hs := h.seat
      have : ¬ E f 2 = u := by omega
      rw [e]
      simp [En.heroQ, this]
    · simp [En.heroQ, h.free j hj e]

theorem Cr.Sole.manned {E : Nat → Nat → Int} {f t : Nat} (h : Cr.Sole E f (t : Int)) (ht : t < 4) : Cr.manned E = true := Cr.manned_of ht h.lt h.one h.seat

theorem Cr.Sole.does {s c : Nat → Int} {g : Nat → Int} {E I : Nat → Nat → Int} {left : Bool} {f : Nat} {t : Int} (h : Cr.Sole E f t) (v : Int) : (∀ k, k ≠ f → (Cr.does s c ⟨g, E, I, left⟩ t f v).E k = E k) ∧ (∀ j, j ≠ 3 → j ≠ 4 → j ≠ 5 → j ≠ 9 → (Cr.does s c ⟨g, E, I, left⟩ t f v).E f j = E f j) ∧ ((Cr.does s c ⟨g, E, I, left⟩ t f v).E f 9 = E f 9 ∨ (Cr.does s c ⟨g, E, I, left⟩ t f v).E f 9 = 0) ∧ (¬ (1 ≤ v ∧ v ≤ 4) → (Cr.does s c ⟨g, E, I, left⟩ t f v).E f 3 = E f 3 ∧ (Cr.does s c ⟨g, E, I, left⟩ t f v).E f 4 = E f 4) ∧ ((Cr.does s c ⟨g, E, I, left⟩ t f v).left = true → left = true ∨ Gr.at 384 c (E f 3) (E f 4) = 4) := by
  unfold Cr.does
  split
  · rename_i hv
    have key : Cr.act s c E I f v false = (E, I) ∨ ∃ x y, Cr.act s c E I f v false = (Cr.go E f x y, I) := by
      unfold Cr.act
      rw [if_neg (by omega)]
      split
      · rename_i hw
        rw [if_neg]
        · exact .inl rfl
        · intro hd
          have hd' := of_decide_eq_false hd
          unfold Cr.who at hd' hw
          rcases En.first_cases (En.atQ E (E f 3 + (Fx.way v).1) (E f 4 + (Fx.way v).2)) 32 with ⟨he, _⟩ | ⟨j, hj, he, hq, _⟩
          · omega
          · rw [he, Int.toNat_natCast] at hd'
            have hq' : E j 0 ≠ 0 ∧ E j 3 = E f 3 + (Fx.way v).1 ∧ E j 4 = E f 4 + (Fx.way v).2 := by simpa [En.atQ] using hq
            by_cases e : j = f
            · rw [e] at hd'
              exact hd' h.one
            · exact hq'.1 (h.free j hj e)
      · split
        · exact .inr ⟨_, _, rfl⟩
        · exact .inl rfl
    rcases key with e | ⟨x, y, e⟩
    · rw [e]
      exact ⟨fun _ _ => rfl, fun _ _ _ _ _ => rfl, .inl rfl, fun hn => absurd hv hn, fun hl => .inl hl⟩
    · rw [e]
      exact ⟨fun k hk => Cr.go_row E x y hk, fun j j3 j4 _ _ => (Cr.go_at E f x y j).trans (by rw [if_neg j4, if_neg j3]), .inl ((Cr.go_at E f x y 9).trans (by rw [if_neg (by omega), if_neg (by omega)])), fun hn => absurd hv hn, fun hl => .inl hl⟩
  · split
    · refine ⟨fun _ _ => rfl, fun _ _ _ _ _ => rfl, .inl rfl, fun _ => ⟨rfl, rfl⟩, fun hl => ?_⟩
      have hl' : (left || decide (Gr.at 384 c (E f 3) (E f 4) = 4)) = true := hl
      rw [Bool.or_eq_true] at hl'
      exact hl'.imp id of_decide_eq_true
    · have key : Gd.nextE E I t v = E ∨ Gd.nextE E I t v = Gd.heal E f := by
        unfold Gd.nextE
        split
        · unfold Gd.entsOf
          rw [h.hero, Int.toNat_natCast]
          split
          · exact .inr rfl
          · exact .inl rfl
        · exact .inl rfl
      show (∀ k, k ≠ f → Gd.nextE E I t v k = E k) ∧ (∀ j, j ≠ 3 → j ≠ 4 → j ≠ 5 → j ≠ 9 → Gd.nextE E I t v f j = E f j) ∧ (Gd.nextE E I t v f 9 = E f 9 ∨ Gd.nextE E I t v f 9 = 0) ∧ (_ → Gd.nextE E I t v f 3 = E f 3 ∧ Gd.nextE E I t v f 4 = E f 4) ∧ (left = true → _)
      rcases key with e | e
      · rw [e]
        exact ⟨fun _ _ => rfl, fun _ _ _ _ _ => rfl, .inl rfl, fun _ => ⟨rfl, rfl⟩, fun hl => .inl hl⟩
      · rw [e]
        unfold Gd.heal
        have hh : ∀ j, j ≠ 5 → j ≠ 9 → Gd.set (Gd.set E f 5 (min (E f 5 + 6) (E f 6))) f 9 0 f j = E f j := fun j j5 j9 => by
          unfold Gd.set
          rw [if_neg (by omega), if_neg (by omega)]
        exact ⟨fun k hk => by rw [Ft.set_row _ _ _ _ _ hk, Ft.set_row _ _ _ _ _ hk], fun j _ _ j5 j9 => hh j j5 j9, .inr (if_pos ⟨rfl, rfl⟩), fun _ => ⟨hh 3 (by omega) (by omega), hh 4 (by omega) (by omega)⟩, fun hl => .inl hl⟩

theorem Cr.prowl_none {s c : Nat → Int} {E I : Nat → Nat → Int} (h : ∀ k, k < 32 → E k 0 = 0 ∨ E k 0 = 1) : ∀ {i : Nat} {F J : Nat → Nat → Int}, i ≤ 32 → Cr.ProwlTo s c i E I F J → F = E ∧ J = I
  | 0, _, _, _, hp => hp
  | i + 1, F, J, hi, hp => by
    obtain ⟨G, K, hG, hP⟩ := hp
    obtain ⟨rfl, rfl⟩ := Cr.prowl_none h (by omega) hG
    unfold Cr.Prowls at hP
    rw [if_pos (by rcases h i (by omega) with e | e; exact .inl e; exact .inr (.inl e))] at hP
    exact hP

theorem Cr.lone_step {how inp : Nat → Int} {sp : Nat → Bool} {S T : Cr.W} {f t : Nat} (hT : Cr.IsStep how inp sp S T) (h0 : S.s 3 = 0) (hf : Cr.Sole S.E f (t : Int)) (ht : t < 4) (hsp : ∀ j, j < 4 → j ≠ t → sp j = false) :
    ∃ m, Cr.Moved (Cr.num S.s 1 (S.s 1 + 1)) S.c (t : Int) (how t) (inp t) ⟨S.g, S.E, S.I, false⟩ m ∧ Cr.Sole m.E f (t : Int) ∧ Cr.Ends (Cr.num S.s 1 (S.s 1 + 1)) m.g S.c (Cr.rats (Cr.num S.s 1 (S.s 1 + 1)) S.c (Ft.ailE m.E m.I 32).1) (Ft.ailE m.E m.I 32).2 true m.left T := by
  unfold Cr.IsStep at hT
  rw [if_neg (fun h => h h0)] at hT
  obtain ⟨A, m, F, J, hA, hm, hF, hE⟩ := hT
  have hAe : ∀ {n : Nat} {A : Nat → Nat → Int}, n ≤ 4 → Cr.ComesTo S.c sp n S.E A → A = S.E := by
    intro n
    induction n with
    | zero => intro A _ h; exact h
    | succ n ih =>
      rintro A hn ⟨G, hG, hC⟩
      have e := ih (by omega) hG
      rw [e] at hC
      unfold Cr.Comes at hC
      rw [if_neg] at hC
      · exact hC
      · rintro ⟨h1, h2⟩
        by_cases e2 : n = t
        · rw [e2, hf.hero] at h2; omega
        · rw [hsp n (by omega) e2] at h1; cases h1
  have hA' := hAe (Nat.le_refl _) hA
  rw [hA'] at hm
  -- seats without heroes do nothing
  have skip : ∀ {n : Nat} {m o : Cr.M}, Cr.Sole m.E f (t : Int) → n ≠ t → Cr.Moved (Cr.num S.s 1 (S.s 1 + 1)) S.c (n : Int) (how n) (inp n) m o → o = m := fun {n m o} hm hn h => by
    unfold Cr.Moved at h
    rw [if_pos (.inl (hm.none (by omega)))] at h
    exact h
  have key : ∀ {n : Nat} {m : Cr.M}, n ≤ 4 → Cr.MovedTo (Cr.num S.s 1 (S.s 1 + 1)) S.c how inp n ⟨S.g, S.E, S.I, false⟩ m → Cr.Sole m.E f (t : Int) ∧ if t < n then Cr.Moved (Cr.num S.s 1 (S.s 1 + 1)) S.c (t : Int) (how t) (inp t) ⟨S.g, S.E, S.I, false⟩ m else m = ⟨S.g, S.E, S.I, false⟩ := by
    intro n
    induction n with
    | zero =>
      intro m _ h
      have e : m = ⟨S.g, S.E, S.I, false⟩ := h
      rw [e, if_neg (by omega)]
      exact ⟨hf, rfl⟩
    | succ n ih =>
      rintro m hn ⟨o, ho, hM⟩
      obtain ⟨so, io⟩ := ih (by omega) ho
      by_cases e : n = t
      · subst e
        rw [if_neg (by omega)] at io
        subst io
        rw [if_pos (by omega)]
        refine ⟨?_, hM⟩
        unfold Cr.Moved at hM
        split at hM
        · rw [hM]; exact hf
        · obtain ⟨v, _, rfl⟩ := hM
          have eh : Gd.hero S.E (n : Int) = (f : Int) := hf.hero
          show Cr.Sole (Cr.does _ S.c ⟨S.g, S.E, S.I, false⟩ (n : Int) (Gd.hero S.E (n : Int)).toNat v).E f (n : Int)
          rw [eh, Int.toNat_natCast]
          obtain ⟨d1, d2, _⟩ := hf.does (s := Cr.num S.s 1 (S.s 1 + 1)) (c := S.c) (g := S.g) (I := S.I) (left := false) v
          exact ⟨hf.lt, by rw [d2 0 (by omega) (by omega) (by omega) (by omega)]; exact hf.one, by rw [d2 2 (by omega) (by omega) (by omega) (by omega)]; exact hf.seat, fun k hk hkf => by rw [d1 k hkf]; exact hf.free k hk hkf⟩
      · have em := skip so e hM
        rw [em]
        refine ⟨so, ?_⟩
        by_cases hlt : t < n
        · rw [if_pos hlt] at io
          rw [if_pos (by omega)]
          exact io
        · rw [if_neg hlt] at io
          rw [if_neg (by omega)]
          exact io
  obtain ⟨sm, im⟩ := key (Nat.le_refl _) hm
  rw [if_pos ht] at im
  obtain ⟨eF, eJ⟩ := Cr.prowl_none (fun k hk => by
    by_cases e : k = f
    · rw [e]; exact .inr sm.one
    · exact .inl (sm.free k hk e)) (Nat.le_refl 32) hF
  rw [eF, eJ, hf.manned ht] at hE
  exact ⟨m, im, sm, hE⟩

theorem Cr.ail_stun {E I : Nat → Nat → Int} {f : Nat} (h9 : ¬ 0 < E f 9) (h0 : E f 0 ≠ 0) : ∀ n, (n ≤ f → (Ft.ailE E I n).1 f = E f) ∧ (f < n → (∀ j, j ≠ 10 → (Ft.ailE E I n).1 f j = E f j) ∧ (Ft.ailE E I n).1 f 10 = if 0 < E f 10 then E f 10 - 1 else E f 10)
  | 0 => ⟨fun _ => rfl, fun h => by omega⟩
  | n + 1 => by
    obtain ⟨h1, h2⟩ := Cr.ail_stun (I := I) h9 h0 n
    unfold Ft.ailE
    by_cases e : f = n
    · subst e
      have e1 := h1 (Nat.le_refl _)
      rw [if_pos (by rw [e1]; exact h0)]
      refine ⟨fun h => by omega, fun _ => ?_⟩
      show (∀ j, j ≠ 10 → Ft.oneE (Ft.ailE E I f).1 f f j = E f j) ∧ Ft.oneE (Ft.ailE E I f).1 f f 10 = _
      unfold Ft.oneE
      rw [if_neg (by rw [e1]; exact h9)]
      unfold Ft.stunE
      rw [e1]
      split
      · refine ⟨fun j hj => ?_, ?_⟩
        · unfold Gd.set
          rw [if_neg (by omega), e1]
        · unfold Gd.set
          rw [if_pos ⟨rfl, rfl⟩]
      · exact ⟨fun j _ => by rw [e1], by rw [e1]⟩
    · split
      · refine ⟨fun h => ?_, fun h => ?_⟩
        · show Ft.oneE (Ft.ailE E I n).1 n f = E f
          rw [Cr.one_else e]
          exact h1 (by omega)
        · show (∀ j, j ≠ 10 → Ft.oneE (Ft.ailE E I n).1 n f j = E f j) ∧ Ft.oneE (Ft.ailE E I n).1 n f 10 = _
          rw [Cr.one_else e]
          exact h2 (by omega)
      · exact ⟨fun h => h1 (by omega), fun h => h2 (by omega)⟩

end Go.Proofs.YtbanjoflgoiegaaGreat

namespace Go.Proofs.YtbanjoflgoiegaaGreat
open Go.RowKit

def Cr.OneOf (w : World) (gE : Nat) (E : Nat → Nat → Int) (e : Ending) (w' : World) : Prop :=
  ∃ j cap, e = .returned (.slice (some ⟨j, 0, none⟩) 32 cap) ∧ 32 ≤ cap ∧ (j = gE ∨ w.heap.size ≤ j) ∧ Own w' j 32 E ∧ w.grownBy w' none

def Cr.kingQ (E : Nat → Nat → Int) : Nat → Bool := fun i => decide (E i 0 = 1)

theorem Cr.king_manned {E : Nat → Nat → Int} (h : Cr.Seats E) : decide (0 ≤ En.first (Cr.kingQ E) 32) = Cr.manned E := by
  unfold Cr.manned
  rcases En.first_cases (Cr.kingQ E) 32 with ⟨he, hno⟩ | ⟨k, hk, he, hq, _⟩
  · rw [he]
    refine (decide_eq_false (by omega)).trans (decide_eq_false ?_).symm
    rintro ⟨t, _, h0⟩
    obtain ⟨k, hk, _, _, k1⟩ := Gd.hero_pos h0
    have := hno k hk
    simp [Cr.kingQ, k1] at this
  · rw [he]
    refine (decide_eq_true (by omega)).trans (decide_eq_true ?_).symm
    have k1 : E k 0 = 1 := by simpa [Cr.kingQ] using hq
    have hs := h.seat k hk k1
    refine ⟨(E k 2).toNat, by omega, ?_⟩
    unfold Gd.hero
    rcases En.first_cases (En.heroQ E ((E k 2).toNat : Int)) 32 with ⟨_, hno⟩ | ⟨j, _, hj, _⟩
    · have := hno k hk
      rw [Int.toNat_of_nonneg hs.1] at this
      simp [En.heroQ, k1] at this
    · omega

set_option maxHeartbeats 1600000 in
theorem cIndexFunc_any (gE cE : Nat) (E : Nat → Nat → Int) (w : World) (hE : Own w gE 32 E) :
    Calls Tryz.prog 110 #[.slice (some ⟨gE, 0, none⟩) 32 cE, .func (.func 71) #[] #[]] w (Says w (.int .i64 (En.first (Cr.kingQ E) 32))) := by
  have hit : Hid (∀ k : Nat, (∀ j, j < k → Cr.kingQ E j = false) → Cr.kingQ E k = true → k < 32 → En.first (Cr.kingQ E) 32 = (k : Int)) := fun k h1 h2 h3 => En.first_hit h1 h2 h3
  have hnone : Hid ((∀ j, j < 32 → Cr.kingQ E j = false) → En.first (Cr.kingQ E) 32 = -1) := fun h => En.first_none h
  obtain ⟨r, hr⟩ : ∃ r, En.first (Cr.kingQ E) 32 = r := ⟨_, rfl⟩
  rw [hr] at hit hnone ⊢
  have hE' := hide hE
  clear hr hE
  go_enter Tryz.func110, Tryz.ntmps110
  go_wp2_with fail
  go_loopw [8] (fun v8 wr => ∃ k : Nat, k ≤ 32 ∧ v8 = .int .i64 (k : Int) ∧ Hid (∀ j, j < k → Cr.kingQ E j = false) ∧ Hid (w.grownBy wr none)) (fun v8 _ => 40 - (intOf v8).toNat)
  case atStart => exact ⟨0, by omega, rfl, fun j hj => by omega, World.grownBy.refl _ _⟩
  case round =>
    obtain ⟨k, hk, rfl, hno, hg⟩ := hrel
    by_cases hlt : k < 32
    · have hlt' : (k : Int) < 32 := by omega
      have HL := hide hlt
      obtain ⟨u0, u1, u2, u3, u4, u5, u6, u7, u8, u9, u10⟩ := ((unhide hE').on (unhide hg)).ents.row hlt
      have ch := hide (cIsHero_any (E k) wr)
      have hq : Hid (Cr.kingQ E k = decide (E k 0 = 1)) := rfl
      obtain ⟨d, hd⟩ : ∃ d, decide (E k 0 = 1) = d := ⟨_, rfl⟩
      rw [hd] at ch hq
      unfold En.cells at ch
      clear hd hlt hk
      go_wp2_with fail
      refine (unhide ch).mono ?_
      rintro e w1 ⟨rfl, hg1⟩
      have hg2 := hide (grown_trans (unhide hg) hg1)
      clear hg1 ch u0 u1 u2 u3 u4 u5 u6 u7 u8 u9 u10
      cases d
      · have hno2 : Hid (∀ j, j < k + 1 → Cr.kingQ E j = false) := fun j hj => by
          by_cases e : j = k
          · rw [e]; exact unhide hq
          · exact unhide hno j (by omega)
        go_wp2
        go_roundw
        case rel => exact ⟨k + 1, by have := unhide HL; omega, by go_num, hno2, hg2⟩
        case measure => simp [intOf]; have := unhide HL; omega
      · obtain rfl := unhide hit k (unhide hno) (unhide hq) (unhide HL)
        go_wp2
        go_ret
        exact ⟨rfl, unhide hg2⟩
    · obtain rfl : k = 32 := by omega
      have hge : ¬ ((32 : Nat) : Int) < 32 := by omega
      obtain rfl := unhide hnone (unhide hno)
      clear hlt hk
      go_wp2
      go_ret
      exact ⟨rfl, unhide hg⟩

set_option maxHeartbeats 800000 in
theorem cContains_any (gE cE : Nat) (E : Nat → Nat → Int) (w : World) (hE : Own w gE 32 E) (hs : Cr.Seats E) :
    Calls Tryz.prog 70 #[.slice (some ⟨gE, 0, none⟩) 32 cE, .func (.func 71) #[] #[]] w (Says w (.bool (Cr.manned E))) := by
  have ci := hide (cIndexFunc_any gE cE E w hE)
  have hm := Cr.king_manned hs
  obtain ⟨r, hr⟩ : ∃ r, En.first (Cr.kingQ E) 32 = r := ⟨_, rfl⟩
  rw [hr] at ci hm
  rw [← hm]
  clear hm hr hE hs
  go_enter Tryz.func70, Tryz.ntmps70
  go_wp2_with fail
  refine (unhide ci).mono ?_
  rintro e w1 ⟨rfl, hg⟩
  have hg' := hide hg
  clear hg ci
  go_wp2
  go_ret
  exact ⟨rfl, unhide hg'⟩

def Cr.More (w : World) (a : Option Addr) (n : Nat) (es : List (Nat → Int)) : Prop := n = es.length ∧ n ≤ 40 ∧ ∀ i e, es[i]? = some e → (1 ≤ e 0 ∧ e 0 ≤ 4) ∧ ∃ b, a = some ⟨b, 0, none⟩ ∧ b < w.heap.size ∧ ∀ j, j < 11 → w.cell? ⟨b, i * 11 + j, none⟩ = some (.int .i64 (e j))

theorem Cr.More.on {w w' : World} {a : Option Addr} {n : Nat} {es : List (Nat → Int)} (h : Cr.More w a n es) (hg : w.grownBy w' none) : Cr.More w' a n es :=
  ⟨h.1, h.2.1, fun i p hp => by
    obtain ⟨hk, b, ha, hb, hc⟩ := h.2.2 i p hp
    exact ⟨hk, b, ha, Nat.lt_of_lt_of_le hb hg.size, fun j hj => (grown_cell hg b _ hb (by simp)).trans (hc j hj)⟩⟩

def Cr.joinAll (E : Nat → Nat → Int) (es : List (Nat → Int)) : Nat → Nat → Int := es.foldl (fun E e => if En.first (En.atQ E (e 3) (e 4)) 32 < 0 then Cr.join E e else E) E

theorem Cr.join_more (E : Nat → Nat → Int) {es : List (Nat → Int)} {i : Nat} {p : Nat → Int} (h : es[i]? = some p) : Cr.joinAll E (es.take (i + 1)) = if En.first (En.atQ (Cr.joinAll E (es.take i)) (p 3) (p 4)) 32 < 0 then Cr.join (Cr.joinAll E (es.take i)) p else Cr.joinAll E (es.take i) := by
  unfold Cr.joinAll
  rw [List.take_add_one, h, List.foldl_append]
  rfl

theorem Cr.gens_join {E : Nat → Nat → Int} (h : En.Gens 32 E) (e : Nat → Int) : En.Gens 32 (Cr.join E e) := by
  unfold Cr.join
  split
  · intro i hi
    by_cases x : i = (En.first (En.freeQ E) 32).toNat
    · rw [x, En.put_same]
      unfold En.gen
      rw [if_pos rfl]
      omega
    · rw [En.put_other x]
      exact h i hi
  · exact h

theorem Cr.gens_all : ∀ (es : List (Nat → Int)) {E : Nat → Nat → Int}, En.Gens 32 E → En.Gens 32 (Cr.joinAll E es)
  | [], _, h => h
  | e :: es, E, h => by
    refine Cr.gens_all es (E := if En.first (En.atQ E (e 3) (e 4)) 32 < 0 then Cr.join E e else E) ?_
    split
    · exact Cr.gens_join h e
    · exact h

theorem Cr.spawn_key (gE cE : Nat) (E : Nat → Nat → Int) (e : Nat → Int) (w : World) (hE : Own w gE 32 E) (hcE : 32 ≤ cE) (hG : En.Gens 32 E) (hk : 1 ≤ e 0 ∧ e 0 ≤ 4) :
    (Cr.join E e = E ∧ Calls Tryz.prog 103 #[.slice (some ⟨gE, 0, none⟩) 32 cE, .agg (En.cells e)] w (Says w (.tuple #[.slice none 0 0, .int .i64 0, .int .i64 5]))) ∨ ∃ f : Nat, Calls Tryz.prog 103 #[.slice (some ⟨gE, 0, none⟩) 32 cE, .agg (En.cells e)] w (Spawns w 32 (Cr.join E e) f) := by
  rcases En.first_cases (En.freeQ E) 32 with ⟨he, _⟩ | ⟨f, hf, he, _, _⟩
  · refine .inl ⟨?_, spawn_full gE 32 cE E e w hE.ents hcE hk he⟩
    unfold Cr.join
    rw [he, if_neg (by omega)]
  · refine .inr ⟨f, ?_⟩
    have hj : Cr.join E e = En.put E f (En.gen e ((E f 1 + 1) % 256)) := by
      unfold Cr.join
      rw [he, if_pos (by omega), Int.toNat_natCast]
    rw [hj]
    exact spawn_some gE 32 cE f E e w hE.ents hcE hk he hf hG

set_option maxRecDepth 8000 in
set_option maxHeartbeats 6400000 in
theorem cJoined_any (gE cE n k : Nat) (a : Option Addr) (E : Nat → Nat → Int) (es : List (Nat → Int)) (w : World) (hE : Own w gE 32 E) (hcE : 32 ≤ cE) (hG : En.Gens 32 E) (hM : Cr.More w a n es) :
    Calls Tryz.prog 54 #[.slice (some ⟨gE, 0, none⟩) 32 cE, .slice a n k] w (Cr.OneOf w gE (Cr.joinAll E es)) := by
  have hM' := hide hM
  have hG' := hide hG
  have hH : Hid (Own w gE 32 (Cr.joinAll E (es.take 0))) := hE
  have hcE' := hide hcE
  have hn' := hide hM.1
  have hn40 := hM.2.1
  clear hE hcE hG hM
  go_enter Tryz.func54, Tryz.ntmps54
  go_wp2_with fail
  go_loopw [0, 12] (fun v0 v12 wr => ∃ (i j d : Nat), i ≤ n ∧ v12 = .int .i64 (i : Int) ∧ v0 = .slice (some ⟨j, 0, none⟩) 32 d ∧ Hid (32 ≤ d) ∧ Hid (j = gE ∨ w.heap.size ≤ j) ∧ Hid (Own wr j 32 (Cr.joinAll E (es.take i))) ∧ Hid (w.grownBy wr none)) (fun _ v12 _ => 50 - (intOf v12).toNat)
  case atStart => exact ⟨0, gE, cE, by omega, rfl, rfl, hcE', .inl rfl, hH, World.grownBy.refl _ _⟩
  case round =>
    clear hH hcE'
    obtain ⟨i, j, d, hi, rfl, rfl, hd, hj, hH, hg⟩ := hrel
    by_cases hlt : i < n
    · have hlt' : (i : Int) < (n : Int) := by omega
      have HL := hide hlt
      obtain ⟨p, hp⟩ : ∃ p, es[i]? = some p := ⟨es[i]'(by have := unhide hn'; omega), List.getElem?_eq_getElem _⟩
      obtain ⟨hk, b, rfl, hb, hcl⟩ := ((unhide hM').on (unhide hg)).2.2 i p hp
      have hmore := hide (Cr.join_more E hp)
      have hgs := hide (Cr.gens_all (es.take i) (unhide hG'))
      obtain ⟨F, hF⟩ : ∃ F, Cr.joinAll E (es.take i) = F := ⟨_, rfl⟩
      rw [hF] at hH hmore hgs
      have HK := hide hk
      have r0 := hcl 0 (by omega)
      have r1 := hcl 1 (by omega)
      have r2 := hcl 2 (by omega)
      have r3 := hcl 3 (by omega)
      have r4 := hcl 4 (by omega)
      have r5 := hcl 5 (by omega)
      have r6 := hcl 6 (by omega)
      have r7 := hcl 7 (by omega)
      have r8 := hcl 8 (by omega)
      have r9 := hcl 9 (by omega)
      have r10 := hcl 10 (by omega)
      rw [Nat.add_zero] at r0
      obtain ⟨w0, hw0⟩ : ∃ w0, w0 = wr.alloc (.cells (En.cells p) 54) := ⟨_, rfl⟩
      have hg0 : Hid (wr.grownBy w0 none) := by rw [hw0]; exact World.grownBy_alloc _ _ _
      have hQ : Hid (Lie w0 wr.heap.size 54 11 (Ints p)) := by rw [hw0]; exact Lie.copied _ _ _
      have hH0 := hide ((unhide hH).on (unhide hg0))
      have ca := hide (entAt_any j 32 d F (p 3) (p 4) w0 (unhide hH0).ents (unhide hd))
      unfold En.cells at hw0
      clear hlt hi hk hb hcl hp hF hH
      go_upto_region 4 with fail
      rw [← hw0]
      clear hw0 r0 r1 r2 r3 r4 r5 r6 r7 r8 r9 r10
      obtain ⟨B, hB⟩ : ∃ B, wr.heap.size = B := ⟨_, rfl⟩
      rw [hB] at hQ ⊢
      clear hB
      obtain ⟨z, hz⟩ : ∃ z, En.first (En.atQ F (p 3) (p 4)) 32 = z := ⟨_, rfl⟩
      rw [hz] at ca hmore
      clear hz
      have e3 := (unhide hQ).ent.2.2.2.1
      have e4 := (unhide hQ).ent.2.2.2.2.1
      go_wp2_with fail
      refine (unhide ca).mono ?_
      rintro e w1 ⟨rfl, hg1⟩
      have hH1 := hide ((unhide hH0).on hg1)
      have hQ1 := hide ((unhide hQ).on hg1)
      have hg2 := hide (grown_trans (unhide hg) (grown_trans (unhide hg0) hg1))
      clear hg1 ca e3 e4 hH0 hQ hg0 hg
      by_cases hneg : z < 0
      · have hnge : ¬ z ≥ 0 := by omega
        have hnx : Hid (Cr.joinAll E (es.take (i + 1)) = Cr.join F p) := (unhide hmore).trans (if_pos hneg)
        obtain ⟨e0, e1, e2, e3, e4, e5, e6, e7, e8, e9, e10⟩ := (unhide hQ1).ent
        have key := hide (Cr.spawn_key j d F p w1 (unhide hH1) (unhide hd) (unhide hgs) (unhide HK))
        clear hneg hmore
        unfold En.cells at key
        rcases unhide key with ⟨hsame, cs⟩ | ⟨f, cs⟩
        · have cs' := hide cs
          have hH2 : Hid (Own w1 j 32 (Cr.joinAll E (es.take (i + 1)))) := by
            show Own w1 j 32 (Cr.joinAll E (es.take (i + 1)))
            rw [unhide hnx, hsame]
            exact unhide hH1
          clear cs key hsame
          go_wp2_with fail
          refine (unhide cs').mono ?_
          rintro e w2 ⟨rfl, hg3⟩
          have hH3 := hide ((unhide hH2).on hg3)
          have hg4 := hide (grown_trans (unhide hg2) hg3)
          clear hg3 cs' e0 e1 e2 e3 e4 e5 e6 e7 e8 e9 e10
          go_wp2
          go_roundw
          case rel => exact ⟨i + 1, j, d, by have := unhide HL; omega, by go_num, rfl, hd, hj, hH3, hg4⟩
          case measure => simp [intOf]; have := unhide HL; omega
        · have cs' := hide cs
          clear cs key
          go_wp2_with fail
          refine (unhide cs').mono ?_
          rintro e w2 ⟨j2, d2, rfl, hlo, hnc, hcm, hown, hg3⟩
          have hH3 : Hid (Own w2 j2 32 (Cr.joinAll E (es.take (i + 1)))) := by
            show Own w2 j2 32 (Cr.joinAll E (es.take (i + 1)))
            rw [unhide hnx]
            exact hown
          have hg4 := hide (grown_trans (unhide hg2) hg3)
          have hd2 := hide hnc
          have hj2 : Hid (j2 = gE ∨ w.heap.size ≤ j2) := .inr (Nat.le_trans (unhide hg2).size hlo)
          clear hlo hnc hcm hown hg3 cs' e0 e1 e2 e3 e4 e5 e6 e7 e8 e9 e10
          go_wp2
          go_roundw
          case rel => exact ⟨i + 1, j2, d2, by have := unhide HL; omega, by go_num, rfl, hd2, hj2, hH3, hg4⟩
          case measure => simp [intOf]; have := unhide HL; omega
      · have hge : z ≥ 0 := by omega
        have hH2 : Hid (Own w1 j 32 (Cr.joinAll E (es.take (i + 1)))) := by
          show Own w1 j 32 (Cr.joinAll E (es.take (i + 1)))
          rw [unhide hmore, if_neg hneg]
          exact unhide hH1
        clear hneg hmore
        go_wp2
        go_roundw
        case rel => exact ⟨i + 1, j, d, by have := unhide HL; omega, by go_num, rfl, hd, hj, hH2, hg2⟩
        case measure => simp [intOf]; have := unhide HL; omega
    · obtain rfl : i = n := by omega
      have hge : ¬ (i : Int) < (i : Int) := by omega
      have hfin : Hid (Cr.OneOf w gE (Cr.joinAll E es) (.returned (.slice (some ⟨j, 0, none⟩) 32 d)) wr) := by
        refine ⟨j, d, rfl, unhide hd, unhide hj, ?_, unhide hg⟩
        have h := unhide hH
        rwa [List.take_of_length_le (by have := unhide hn'; omega)] at h
      clear hlt hi
      go_wp2
      go_ret
      exact unhide hfin

def Cr.kingsTo (E : Nat → Nat → Int) (k : Nat) : Nat → Nat → Int := fun i => if i < k ∧ E i 0 ≠ 0 ∧ E i 0 ≠ 1 then En.hole (E i 1) else E i

theorem Cr.kings_yes {E : Nat → Nat → Int} {k : Nat} (h : E k 0 ≠ 0 ∧ E k 0 ≠ 1) : En.put (Cr.kingsTo E k) k (En.hole (Cr.kingsTo E k k 1)) = Cr.kingsTo E (k + 1) := by
  have hk : Cr.kingsTo E k k = E k := if_neg (by omega)
  funext i
  by_cases e : i = k
  · rw [e, En.put_same, hk]
    exact (if_pos ⟨by omega, h⟩).symm
  · rw [En.put_other e]
    unfold Cr.kingsTo
    by_cases c : E i 0 ≠ 0 ∧ E i 0 ≠ 1
    · by_cases l : i < k
      · rw [if_pos ⟨l, c⟩, if_pos ⟨by omega, c⟩]
      · rw [if_neg (by omega), if_neg (by omega)]
    · rw [if_neg (fun h => c h.2), if_neg (fun h => c h.2)]

theorem Cr.kings_no {E : Nat → Nat → Int} {k : Nat} (h : ¬ (E k 0 ≠ 0 ∧ E k 0 ≠ 1)) : Cr.kingsTo E k = Cr.kingsTo E (k + 1) := by
  funext i
  unfold Cr.kingsTo
  by_cases c : E i 0 ≠ 0 ∧ E i 0 ≠ 1
  · by_cases l : i < k
    · rw [if_pos ⟨l, c⟩, if_pos ⟨by omega, c⟩]
    · have : i ≠ k := fun e => h (e ▸ c)
      rw [if_neg (by omega), if_neg (by omega)]
  · rw [if_neg (fun h => c h.2), if_neg (fun h => c h.2)]

set_option maxRecDepth 8000 in
set_option maxHeartbeats 3200000 in
theorem cOnlyHeroes_any (gE cE : Nat) (E : Nat → Nat → Int) (w : World) (hE : Own w gE 32 E) (hcE : 32 ≤ cE) :
    Calls Tryz.prog 56 #[.slice (some ⟨gE, 0, none⟩) 32 cE] w (Cr.OneOf w gE (Cr.kingsTo E 32)) := by
  have hE' := hide hE
  have hcE' := hide hcE
  have hH : Hid (Own w gE 32 (Cr.kingsTo E 0)) := hE.congr fun i j _ _ => by unfold Cr.kingsTo; rw [if_neg (by omega)]
  clear hE hcE
  go_enter Tryz.func56, Tryz.ntmps56
  go_wp2_with fail
  go_loopw [0, 7] (fun v0 v7 wr => ∃ (i j d : Nat), i ≤ 32 ∧ v7 = .int .i64 (i : Int) ∧ v0 = .slice (some ⟨j, 0, none⟩) 32 d ∧ Hid (32 ≤ d) ∧ Hid (j = gE ∨ w.heap.size ≤ j) ∧ Hid (Own wr j 32 (Cr.kingsTo E i)) ∧ Hid (w.grownBy wr none)) (fun _ v7 _ => 50 - (intOf v7).toNat)
  case atStart => exact ⟨0, gE, cE, by omega, rfl, rfl, hcE', .inl rfl, hH, World.grownBy.refl _ _⟩
  case round =>
    clear hH hcE'
    obtain ⟨i, j, d, hi, rfl, rfl, hd, hj, hH, hg⟩ := hrel
    by_cases hlt : i < 32
    · have hlt' : (i : Int) < 32 := by omega
      have HL := hide hlt
      obtain ⟨r0, r1, r2, r3, r4, r5, r6, r7, r8, r9, r10⟩ := ((unhide hE').on (unhide hg)).ents.row hlt
      obtain ⟨w0, hw0⟩ : ∃ w0, w0 = wr.alloc (.cells (En.cells (E i)) 54) := ⟨_, rfl⟩
      have hg0 : Hid (wr.grownBy w0 none) := by rw [hw0]; exact World.grownBy_alloc _ _ _
      have hQ : Hid (Lie w0 wr.heap.size 54 11 (Ints (E i))) := by rw [hw0]; exact Lie.copied _ _ _
      have hH0 := hide ((unhide hH).on (unhide hg0))
      have cm := hide (cIsMonster_any (E i) w0)
      have hyes := hide (Cr.kings_yes (E := E) (k := i))
      have hno := hide (Cr.kings_no (E := E) (k := i))
      unfold En.cells at hw0 cm
      clear hlt hi hH
      go_upto_region 4 with fail
      rw [← hw0]
      clear hw0 r0 r1 r2 r3 r4 r5 r6 r7 r8 r9 r10
      obtain ⟨B, hB⟩ : ∃ B, wr.heap.size = B := ⟨_, rfl⟩
      rw [hB] at hQ ⊢
      clear hB
      obtain ⟨e0, e1, e2, e3, e4, e5, e6, e7, e8, e9, e10⟩ := (unhide hQ).ent
      by_cases hc : E i 0 ≠ 0 ∧ E i 0 ≠ 1
      · have hb : decide (E i 0 ≠ 0 ∧ E i 0 ≠ 1) = true := decide_eq_true hc
        rw [hb] at cm
        have he := hide (unhide hyes hc)
        clear hc hb hyes hno
        go_wp2_with fail
        refine (unhide cm).mono ?_
        rintro e w1 ⟨rfl, hg1⟩
        have cf := hide (free_in j 32 d i (Cr.kingsTo E i) w1 ((unhide hH0).on hg1).ents (unhide hd) (unhide HL))
        have hg2 := hide (grown_trans (unhide hg) (grown_trans (unhide hg0) hg1))
        rw [unhide he] at cf
        clear hg1 cm e0 e1 e2 e3 e4 e5 e6 e7 e8 e9 e10 hH0 hQ hg0 hg he
        go_wp2_with fail
        refine (unhide cf).mono ?_
        rintro e w2 ⟨j2, d2, rfl, hlo, hnc, hcm, hown, hg3⟩
        have hH3 := hide hown
        have hg4 := hide (grown_trans (unhide hg2) hg3)
        have hd2 := hide hnc
        have hj2 : Hid (j2 = gE ∨ w.heap.size ≤ j2) := .inr (Nat.le_trans (unhide hg2).size hlo)
        clear hlo hnc hcm hown hg3 cf
        go_wp2
        go_roundw
        case rel => exact ⟨i + 1, j2, d2, by have := unhide HL; omega, by go_num, rfl, hd2, hj2, hH3, hg4⟩
        case measure => simp [intOf]; have := unhide HL; omega
      · have hb : decide (E i 0 ≠ 0 ∧ E i 0 ≠ 1) = false := decide_eq_false hc
        rw [hb] at cm
        have he := hide (unhide hno hc)
        clear hc hb hyes hno
        go_wp2_with fail
        refine (unhide cm).mono ?_
        rintro e w1 ⟨rfl, hg1⟩
        have hg2 := hide (grown_trans (unhide hg) (grown_trans (unhide hg0) hg1))
        have hH2 : Hid (Own w1 j 32 (Cr.kingsTo E (i + 1))) := by
          show Own w1 j 32 (Cr.kingsTo E (i + 1))
          rw [← unhide he]
          exact (unhide hH0).on hg1
        clear hg1 cm e0 e1 e2 e3 e4 e5 e6 e7 e8 e9 e10 hH0 hQ hg0 hg he
        go_wp2
        go_roundw
        case rel => exact ⟨i + 1, j, d, by have := unhide HL; omega, by go_num, rfl, hd, hj, hH2, hg2⟩
        case measure => simp [intOf]; have := unhide HL; omega
    · obtain rfl : i = 32 := by omega
      have hge : ¬ ((32 : Nat) : Int) < 32 := by omega
      have hfin : Hid (Cr.OneOf w gE (Cr.kingsTo E 32) (.returned (.slice (some ⟨j, 0, none⟩) 32 d)) wr) := ⟨j, d, rfl, unhide hd, unhide hj, unhide hH, unhide hg⟩
      clear hlt hi
      go_wp2
      go_ret
      exact unhide hfin

end Go.Proofs.YtbanjoflgoiegaaGreat
