/-
  The first step to the nearest of some targets: what it is, and that nav's Toward answers it.
-/
import Derived.Test.YthofgjphoahkfaaNavTaken
import Derived.Test.YthofgjphoahkfaaGenStairs
import Derived.BigQuiet
namespace Go.Proofs.Ythofgjphoahkfaa
open Go.RowKit

/-- Where somebody stands, but at one cell. -/
def Nv.blk (E : Nat → Nat → Int) (n m : Nat) (c : Nat) : Bool := if c = m then false else Nv.st E n c

/-- The first of the ways that a test lets by; 0: there is none. -/
def Nv.wayFrom (q : Nat → Bool) : Nat → Nat → Int
  | 0, _ => 0
  | m + 1, k => if q k = true then (k : Int) else Nv.wayFrom q m (k + 1)

theorem Nv.way_hit {q : Nat → Bool} : ∀ (m k i : Nat), (∀ j, i ≤ j → j < k → q j = false) → q k = true → i ≤ k → k < i + m → Nv.wayFrom q m i = (k : Int)
  | 0, k, i, _, _, h1, h2 => by omega
  | m + 1, k, i, hno, hk, h1, h2 => by
      unfold Nv.wayFrom
      by_cases e : i = k
      · rw [e, if_pos hk]
      · rw [if_neg (by rw [hno i (Nat.le_refl _) (by omega)]; simp), Nv.way_hit m k (i + 1) (fun j hj1 hj2 => hno j (by omega) hj2) hk (by omega) (by omega)]

theorem Nv.way_none {q : Nat → Bool} : ∀ (m i : Nat), (∀ j, i ≤ j → j < i + m → q j = false) → Nv.wayFrom q m i = 0
  | 0, _, _ => rfl
  | m + 1, i, hno => by
      unfold Nv.wayFrom
      rw [if_neg (by rw [hno i (Nat.le_refl _) (by omega)]; simp), Nv.way_none m (i + 1) (fun j hj1 hj2 => hno j (by omega) (by omega))]

theorem Nv.way_congr {q r : Nat → Bool} : ∀ (m i : Nat), (∀ j, i ≤ j → j < i + m → q j = r j) → Nv.wayFrom q m i = Nv.wayFrom r m i
  | 0, _, _ => rfl
  | m + 1, i, h => by
      unfold Nv.wayFrom
      rw [h i (Nat.le_refl _) (by omega), Nv.way_congr m (i + 1) (fun j hj1 hj2 => h j (by omega) (by omega))]

/-- The cell one step further, by a way. -/
def Nv.next (m k : Nat) : Int := Nv.num (((m % 24 : Nat) : Int) + (Fx.way (k : Int)).1) (((m / 24 : Nat) : Int) + (Fx.way (k : Int)).2)

/-- May the step be gone? -/
def Nv.may (F : Nat → Int) (st : Nat → Bool) (m k : Nat) : Bool := decide (0 ≤ Nv.next m k) && (decide (F (Nv.next m k).toNat = F m - 1) && !(st (Nv.next m k).toNat))

/-- The step that is gone from cell m. -/
def Nv.step (F : Nat → Int) (st : Nat → Bool) (m : Nat) : Int := if F m < 1 then 0 else Nv.wayFrom (Nv.may F st m) 4 1

theorem Nv.step_congr {F H : Nat → Int} {st : Nat → Bool} {m : Nat} (hm : m < 384) (h : ∀ i, i < 384 → F i = H i) : Nv.step F st m = Nv.step H st m := by
  unfold Nv.step
  rw [h m hm]
  by_cases h1 : H m < 1
  · rw [if_pos h1, if_pos h1]
  · rw [if_neg h1, if_neg h1]
    refine Nv.way_congr 4 1 fun j _ _ => ?_
    unfold Nv.may
    rcases Nv.num_cases (((m % 24 : Nat) : Int) + (Fx.way (j : Int)).1) (((m / 24 : Nat) : Int) + (Fx.way (j : Int)).2) with hn | ⟨p, hp, hn⟩
    · have : ¬ 0 ≤ Nv.next m j := by unfold Nv.next; rw [hn]; omega
      simp [this]
    · have e : Nv.next m j = (p : Int) := hn
      rw [e, Int.toNat_natCast, h p hp, h m hm]

theorem Nv.next_cases (m k : Nat) : Nv.next m k = -1 ∨ ∃ p : Nat, p < 384 ∧ Nv.next m k = (p : Int) := Nv.num_cases _ _

theorem Nv.next_ne {m k p : Nat} (hk : 1 ≤ k) (hk4 : k ≤ 4) (h : Nv.next m k = (p : Int)) : p ≠ m := by
  obtain ⟨e1, e2, _⟩ := Nv.num_at h
  rintro rfl
  rcases (show k = 1 ∨ k = 2 ∨ k = 3 ∨ k = 4 by omega) with rfl | rfl | rfl | rfl
  · rw [show (Fx.way ((1 : Nat) : Int)).2 = -1 from rfl] at e2; omega
  · rw [show (Fx.way ((2 : Nat) : Int)).1 = 1 from rfl] at e1; omega
  · rw [show (Fx.way ((3 : Nat) : Int)).2 = 1 from rfl] at e2; omega
  · rw [show (Fx.way ((4 : Nat) : Int)).1 = -1 from rfl] at e1; omega

theorem Nv.may_out {F : Nat → Int} {st : Nat → Bool} {m k : Nat} (h : Nv.next m k = -1) : Nv.may F st m k = false := by
  unfold Nv.may
  rw [h]
  rfl

theorem Nv.may_in {F : Nat → Int} {st : Nat → Bool} {m k p : Nat} (h : Nv.next m k = (p : Int)) : Nv.may F st m k = (decide (F p = F m - 1) && !(st p)) := by
  unfold Nv.may
  rw [h, Int.toNat_natCast, decide_eq_true (by omega), Bool.true_and]

/-- What Toward answers: from no cell nothing; from a cell the step by the one field that there is. -/
def Nv.IsToward (f t : Nat → Int) (tlen : Nat) (E : Nat → Nat → Int) (n : Nat) (x y v : Int) : Prop :=
  (Nv.num x y = -1 ∧ v = 0) ∨ ∃ (m : Nat) (F : Nat → Int), Nv.num x y = (m : Int) ∧ Gr.IsField (fun i => Gr.openB f 384 (Nv.blk E n m) i = true) (Gr.tgt f t tlen) F ∧ v = Nv.step F (Nv.st E n) m

theorem Nv.IsToward.at {f t : Nat → Int} {tlen : Nat} {E : Nat → Nat → Int} {n : Nat} {x y v : Int} (h : Nv.IsToward f t tlen E n x y v) {m : Nat} (hm : Nv.num x y = (m : Int)) : ∃ F : Nat → Int, Gr.IsField (fun i => Gr.openB f 384 (Nv.blk E n m) i = true) (Gr.tgt f t tlen) F ∧ v = Nv.step F (Nv.st E n) m := by
  rcases h with ⟨h1, _⟩ | ⟨k, F, hk, hF, hv⟩
  · omega
  · obtain rfl : k = m := by omega
    exact ⟨F, hF, hv⟩

theorem Nv.IsToward.one {f t : Nat → Int} {tlen : Nat} {E : Nat → Nat → Int} {n : Nat} {x y v v' : Int} (h : Nv.IsToward f t tlen E n x y v) (h' : Nv.IsToward f t tlen E n x y v') : v' = v := by
  rcases Nv.num_cases x y with hm | ⟨m, hm, hme⟩
  · rcases h with ⟨_, rfl⟩ | ⟨k, F, hk, _⟩
    · rcases h' with ⟨_, rfl⟩ | ⟨k, F, hk, _⟩
      · rfl
      · omega
    · omega
  · obtain ⟨F, hF, rfl⟩ := h.at hme
    obtain ⟨H, hH, rfl⟩ := h'.at hme
    exact Nv.step_congr hm fun i hi => hH.one hF i hi

/-- A call answers what Toward answers; nothing that was there has turned. -/
def Nv.SaysToward (w : World) (f t : Nat → Int) (tlen : Nat) (E : Nat → Nat → Int) (n : Nat) (x y : Int) (e : Ending) (w' : World) : Prop := ∃ v, Nv.IsToward f t tlen E n x y v ∧ e = .returned (.int .i64 v) ∧ w.grownBy w' none

set_option maxRecDepth 8000 in
set_option maxHeartbeats 1600000 in
theorem navToward_any (ca a ta : Option Addr) (cc n c tlen tc : Nat) (f t : Nat → Int) (E : Nat → Nat → Int) (x y : Int) (w : World)
    (hc : Vec w.heap.size w ca 384 (Byts f)) (hf : ∀ i, 0 ≤ f i ∧ f i ≤ 255) (hL : Nv.Lst w a n c E) (hW : Nv.Words n E) (ht : Vec w.heap.size w ta tlen (Ints t)) (htb : ∀ i, -9223372036854775808 ≤ t i ∧ t i ≤ 9223372036854775807)
    (x1 : -9223372036854775808 ≤ x) (x2 : x ≤ 9223372036854775807) (y1 : -9223372036854775808 ≤ y) (y2 : y ≤ 9223372036854775807) :
    Calls Try.prog 11 #[.slice ca 384 cc, .slice a n c, .int .i64 x, .int .i64 y, .slice ta tlen tc] w (Nv.SaysToward w f t tlen E n x y) := by
  have hc' := hide hc
  have hf' := hide hf
  have hL' := hide hL
  have hW' := hide hW
  have ht' := hide ht
  have htb' := hide htb
  have cn := hide (fun w' => numberAt_any x y w' x1 x2 y1 y2)
  clear hc hf hL hW ht htb
  go_enter Try.func11, Try.ntmps11
  go_wp2_with fail
  refine (point_any _ _ _).mono ?_
  rintro e w1 ⟨rfl, rfl⟩
  go_wp2_with fail
  refine (unhide cn _).mono ?_
  rintro e w1 ⟨rfl, rfl⟩
  rcases Nv.num_cases x y with hm | ⟨m, hm, hme⟩
  · rw [hm]
    have he : Hid (Nv.IsToward f t tlen E n x y 0) := .inl ⟨hm, rfl⟩
    clear hm x1 x2 y1 y2
    go_wp2
    go_ret
    exact ⟨0, unhide he, rfl, World.grownBy.refl _ _⟩
  rw [hme]
  have hme' := hide hme
  obtain ⟨ex, ey, _⟩ := Nv.num_at hme
  have hm' : (m : Int) < 384 := by omega
  have HM := hide hm
  have ex' := hide ex
  have ey' := hide ey
  clear hm hme x1 x2 y1 y2 cn ex ey
  go_wp2_with fail
  refine (taken_any a n c E _ (unhide hL') (unhide hW')).mono ?_
  rintro e w2 ⟨g, rfl, hg, hA, hB⟩
  have hcc := hA.cell (unhide HM)
  have hff := hA.free m
  obtain ⟨w3, hw3⟩ : ∃ w3, w3 = w2.setCell ⟨g, m, none⟩ (.bool false) := ⟨_, rfl⟩
  have hA3 : Arr w3 g 4 384 (Bols (Nv.blk E n m)) := by
    rw [hw3]
    refine (hA.store m (.bool false)).congr fun j _ => ?_
    show _ = Value.bool (if j = m then false else Nv.st E n j)
    by_cases e : j = m
    · rw [if_pos e, if_pos e]
    · rw [if_neg e, if_neg e]; rfl
  have hB3 : Below w1.heap.size w1 w3 := by rw [hw3]; exact hB.setCell hg _
  have hw3' := hide hw3
  have hA3' := hide hA3
  have hB3' := hide hB3
  have cF := hide (field_any ca (some ⟨g, 0, none⟩) ta 384 tlen cc 384 tc f t (Nv.blk E n m) w3 (((unhide hc').kept hB3).mono hB3.size) (unhide hf') (hA3.vec _ hA3.lt (by unfold maxLen; omega)) (((unhide ht').kept hB3).mono hB3.size) (unhide htb'))
  clear hA hB hA3 hB3 hw3
  go_wp2_with fail
  rw [← unhide hw3']
  refine (unhide cF).mono ?_
  rintro e w4 ⟨F, ⟨g2, rfl, hg2, hA4, hB4⟩, hF⟩
  have hstep : Nv.IsToward f t tlen E n x y (Nv.step F (Nv.st E n) m) := .inr ⟨m, F, unhide hme', hF, rfl⟩
  have hgw : w1.grownBy w4 none := below_grown ((unhide hB3').trans (hB4.mono (unhide hB3').size))
  have hAb := (unhide hA3').kept hB4 (unhide hA3').lt
  have hhi : F m ≤ 400 := by
    by_cases h0 : 0 ≤ F m
    · have := fieldHigh hF (F m).toNat m (unhide HM) (by omega)
      omega
    · omega
  have hAb' := hide hAb
  have hA4' := hide hA4
  have hgw' := hide hgw
  have hst' := hide hstep
  have hc4 : w4.cell? ⟨g2, m, none⟩ = some (.int .i64 (F m)) := hA4.cell (unhide HM)
  have rA := hide (Fl.rep_int x (by rw [unhide ex']; omega) (by rw [unhide ex']; omega))
  have rB := hide (Fl.rep_int y (by rw [unhide ey']; omega) (by rw [unhide ey']; omega))
  generalize floatOfInt FloatKind.f64 x = A at *
  generalize floatOfInt FloatKind.f64 y = B at *
  clear hAb hA4 hgw hstep hg2 hB4 cF hcc hff hw3' hA3' hB3' hF hme'
  by_cases hlo : F m < 1
  · have hr : Hid (Nv.IsToward f t tlen E n x y 0) := by
      have h := unhide hst'
      rwa [show Nv.step F (Nv.st E n) m = 0 from if_pos hlo] at h
    go_wp2
    go_ret
    exact ⟨0, unhide hr, rfl, unhide hgw'⟩
  have hr : Hid (Nv.IsToward f t tlen E n x y (Nv.wayFrom (Nv.may F (Nv.st E n) m) 4 1)) := by
    have h := unhide hst'
    rwa [show Nv.step F (Nv.st E n) m = Nv.wayFrom (Nv.may F (Nv.st E n) m) 4 1 from if_neg hlo] at h
  clear hst'
  go_wp2_with fail
  go_loopw [15] (fun i wr => ∃ k : Nat, 1 ≤ k ∧ k ≤ 5 ∧ i = .int .i64 (k : Int) ∧ (∀ j : Nat, 1 ≤ j → j < k → Nv.may F (Nv.st E n) m j = false) ∧ w4.grownBy wr none) (fun i _ => 5 - (intOf i).toNat)
  case atStart => exact ⟨1, by omega, by omega, rfl, fun j h1 h2 => by omega, World.grownBy.refl _ _⟩
  case round =>
    obtain ⟨k, h1, h5, rfl, hno, hgr⟩ := hrel
    have hno' := hide hno
    have hgr' := hide hgr
    have hc5 : wr.cell? ⟨g2, m, none⟩ = some (.int .i64 (F m)) := ((unhide hA4').grown hgr (by simp)).cell (unhide HM)
    clear hno hgr hc4
    by_cases hlt : k ≤ 4
    · have hlt' : (k : Int) ≤ 4 := by omega
      have HL := hide hlt
      have H1 := hide h1
      have wb := hide (Fx.way_bd (k : Int))
      clear hlt h1 h5
      go_wp2_with fail
      refine (step_rep _ _).mono ?_
      rintro e wx ⟨a2, b2, rfl, ra, rb, rfl⟩
      obtain ⟨d1, d2, d3, d4⟩ := unhide wb
      obtain ⟨ra3, ea, Ra⟩ := Fl.rep_add (unhide rA) ra (by rw [unhide ex']; omega) (by rw [unhide ex']; omega)
      obtain ⟨rb3, eb, Rb⟩ := Fl.rep_add (unhide rB) rb (by rw [unhide ey']; omega) (by rw [unhide ey']; omega)
      have hsum := fun wq : World => run_complex_sum (P := Try.prog) wq .add (.inl rfl) 55 .f64 A B a2 b2 ra3 rb3 (by unfold cSumBits; rw [ea, eb]; rfl)
      have cN := hide (fun wq => navNumber_any ra3 rb3 _ _ wq (Fl.std_rep Ra) (Fl.std_rep Rb))
      have hnx : Hid (Nv.num (x + (Fx.way (k : Int)).1) (y + (Fx.way (k : Int)).2) = Nv.next m k) := by show _ = Nv.num _ _; rw [unhide ex', unhide ey']
      rw [unhide hnx] at cN
      clear ra rb ea eb Ra Rb d1 d2 d3 d4
      go_wp2_with fail
      refine (unhide cN _).mono ?_
      rintro e wy ⟨rfl, rfl⟩
      clear hsum cN hnx wb
      have hup : Hid (Nv.may F (Nv.st E n) m k = false → ∀ j : Nat, 1 ≤ j → j < k + 1 → Nv.may F (Nv.st E n) m j = false) := fun h j h1 h2 => by
        by_cases e : j = k
        · rw [e]; exact h
        · exact unhide hno' j h1 (by omega)
      rcases Nv.next_cases m k with hn | ⟨p, hp, hn⟩
      · rw [hn]
        have hno2 := hide (unhide hup (Nv.may_out hn))
        clear hn
        go_wp2_with fail
        go_quiet (fail)
        go_wp2
        go_roundw
        case rel => exact ⟨k + 1, by have := unhide H1; omega, by have := unhide HL; omega, by go_num, unhide hno2, grown_drew (unhide hgr') _⟩
        case measure => have := unhide HL; simp [intOf]; omega
      · rw [hn]
        have hmay := Nv.may_in (F := F) (st := Nv.st E n) hn
        have hpm := Nv.next_ne (unhide H1) (unhide HL) hn
        have hc6 : wy.cell? ⟨g2, p, none⟩ = some (.int .i64 (F p)) := ((unhide hA4').grown (unhide hgr') (by simp)).cell hp
        have hc7 : wy.cell? ⟨g, p, none⟩ = some (.bool (Nv.st E n p)) := by
          have h : wy.cell? ⟨g, p, none⟩ = some (.bool (if p = m then false else Nv.st E n p)) := ((unhide hAb').grown (unhide hgr') (by simp)).cell hp
          rwa [if_neg hpm] at h
        have hp' : (p : Int) < 384 := by omega
        by_cases hq : F p = F m - 1
        · have hq' : (F p == F m - 1) = true := by rw [beq_iff_eq]; exact hq
          rw [decide_eq_true hq, Bool.true_and] at hmay
          clear hn hpm hq hp
          by_cases hs : Nv.st E n p = true
          · rw [hs] at hc7 hmay
            have hno2 := hide (unhide hup hmay)
            clear hs hmay
            go_wp2_with fail
            go_quiet (fail)
            go_wp2
            go_roundw
            case rel => exact ⟨k + 1, by have := unhide H1; omega, by have := unhide HL; omega, by go_num, unhide hno2, grown_drew (unhide hgr') _⟩
            case measure => have := unhide HL; simp [intOf]; omega
          · rw [Bool.not_eq_true] at hs
            rw [hs] at hc7 hmay
            have hr2 : Hid (Nv.IsToward f t tlen E n x y (k : Int)) := by
              have h := unhide hr
              rwa [Nv.way_hit 4 k 1 (unhide hno') hmay (unhide H1) (by have := unhide HL; omega)] at h
            clear hs hmay
            go_wp2_with fail
            go_quiet (fail)
            go_wp2
            go_ret
            exact ⟨_, unhide hr2, rfl, grown_trans (unhide hgw') (grown_drew (unhide hgr') _)⟩
        · have hq' : (F p == F m - 1) = false := by rw [beq_eq_false_iff_ne]; exact hq
          rw [decide_eq_false hq, Bool.false_and] at hmay
          have hno2 := hide (unhide hup hmay)
          clear hn hpm hq hp hmay hc7
          go_wp2_with fail
          go_quiet (fail)
          go_wp2
          go_roundw
          case rel => exact ⟨k + 1, by have := unhide H1; omega, by have := unhide HL; omega, by go_num, unhide hno2, grown_drew (unhide hgr') _⟩
          case measure => have := unhide HL; simp [intOf]; omega
    · have hge : ¬ (k : Int) ≤ 4 := by omega
      have hr2 : Hid (Nv.IsToward f t tlen E n x y 0) := by
        have h := unhide hr
        rwa [Nv.way_none 4 1 fun j h1 h2 => unhide hno' j h1 (by omega)] at h
      go_wp2
      go_ret
      exact ⟨0, unhide hr2, rfl, grown_trans (unhide hgw') (unhide hgr')⟩

end Go.Proofs.Ythofgjphoahkfaa
