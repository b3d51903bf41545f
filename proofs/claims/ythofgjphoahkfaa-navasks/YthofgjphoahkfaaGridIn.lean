/-
  The targets: what the program's inmost does.
-/
import Derived.Test.YthofgjphoahkfaaGridOut
namespace Go.Proofs.Ythofgjphoahkfaa
open Go.RowKit

/-- Of the first k that are named: those that can be walked on have 0, all others -1; 'ring' are they. -/
structure Gr.Seeds (f t : Nat → Int) (k : Nat) (F : Nat → Int) (ring : List Nat) : Prop where
  two : ∀ i, i < 384 → F i = 0 ∨ F i = -1
  zero : ∀ i, i < 384 → (F i = 0 ↔ Gr.walkB (f i) = true ∧ ∃ j, j < k ∧ t j = (i : Int))
  mem : ∀ i, i < 384 → (0 ≤ F i ↔ i ∈ ring)
  rng : ∀ i, i ∈ ring → i < 384
  cnt : ring.length = Gr.cnt F 384

theorem Gr.cnt_none (n : Nat) : Gr.cnt (fun _ => -1) n = 0 := by
  induction n with
  | zero => rfl
  | succ n ih => unfold Gr.cnt; rw [ih]; rfl

theorem Gr.Seeds.none (f t : Nat → Int) : Gr.Seeds f t 0 (fun _ => -1) [] := by
  refine ⟨fun _ _ => .inr rfl, fun i hi => ?_, fun i hi => ?_, fun i hi => ?_, (Gr.cnt_none 384).symm⟩
  · constructor
    · intro h; cases h
    · rintro ⟨_, j, hj, _⟩; omega
  · simp
  · cases hi

theorem Gr.Seeds.pass {f t F : Nat → Int} {k : Nat} {ring : List Nat} (h : Gr.Seeds f t k F ring) (hs : ∀ c : Nat, c < 384 → t k = (c : Int) → Gr.walkB (f c) = true → 0 ≤ F c) : Gr.Seeds f t (k + 1) F ring := by
  refine ⟨h.two, fun i hi => ?_, h.mem, h.rng, h.cnt⟩
  rw [h.zero i hi]
  constructor
  · rintro ⟨hw, j, hj, he⟩
    exact ⟨hw, j, by omega, he⟩
  · rintro ⟨hw, j, hj, he⟩
    by_cases hjk : j = k
    · subst hjk
      have h0 := hs i hi he hw
      have : F i = 0 := by rcases h.two i hi with h | h <;> omega
      exact (h.zero i hi).1 this
    · exact ⟨hw, j, by omega, he⟩

theorem Gr.Seeds.pass_same {f t F : Nat → Int} {k c : Nat} {ring : List Nat} (h : Gr.Seeds f t k F ring) (ht : t k = (c : Int)) (hs : Gr.walkB (f c) = true → 0 ≤ F c) : Gr.Seeds f t (k + 1) F ring := by
  refine h.pass fun c' _ h' hw => ?_
  obtain rfl : c' = c := by omega
  exact hs hw

theorem Gr.Seeds.add {f t F : Nat → Int} {k c : Nat} {ring : List Nat} (h : Gr.Seeds f t k F ring) (hc : c < 384) (ht : t k = (c : Int)) (hw : Gr.walkB (f c) = true) (hneg : F c < 0) : Gr.Seeds f t (k + 1) (Gr.upd F c 0) (ring ++ [c]) := by
  refine ⟨fun i hi => ?_, fun i hi => ?_, fun i hi => ?_, fun i hi => ?_, ?_⟩
  · by_cases e : i = c
    · rw [e, Gr.upd_at]; exact .inl rfl
    · rw [Gr.upd_ne F _ e]; exact h.two i hi
  · by_cases e : i = c
    · subst e
      rw [Gr.upd_at]
      exact ⟨fun _ => ⟨hw, k, by omega, ht⟩, fun _ => rfl⟩
    · rw [Gr.upd_ne F _ e, h.zero i hi]
      constructor
      · rintro ⟨hw, j, hj, he⟩
        exact ⟨hw, j, by omega, he⟩
      · rintro ⟨hw, j, hj, he⟩
        exact ⟨hw, j, by by_cases hjk : j = k; (subst hjk; omega); omega, he⟩
  · by_cases e : i = c
    · rw [e, Gr.upd_at]; simp
    · rw [Gr.upd_ne F _ e, h.mem i hi]; simp [e]
  · rcases List.mem_append.1 hi with hi | hi
    · exact h.rng i hi
    · simp at hi; omega
  · rw [Gr.cnt_upd F c 0 384 hc hneg (by omega), List.length_append, h.cnt]; rfl

/-- A target that counts. -/
def Gr.tgt (f t : Nat → Int) (tlen : Nat) (i : Nat) : Prop := Gr.walkB (f i) = true ∧ ∃ j, j < tlen ∧ t j = (i : Int)

theorem Gr.Seeds.inv {op : Nat → Prop} {f t F : Nat → Int} {k : Nat} {ring : List Nat} (h : Gr.Seeds f t k F ring) : Gr.Inv op (Gr.tgt f t k) F ring 0 0 :=
  Gr.Inv.start h.two h.zero h.mem h.rng h.cnt

theorem Gr.kind_in (f : Nat → Int) (c : Nat) (h : c < 384) : Gr.kind 384 f (c : Int) = f c := by
  unfold Gr.kind
  rw [if_pos (by omega), Int.toNat_natCast]

theorem Gr.kind_out (f : Nat → Int) (z : Int) (h : ¬ (0 ≤ z ∧ z < 384)) : Gr.kind 384 f z = 0 := by
  unfold Gr.kind
  rw [if_neg (by omega)]

set_option maxRecDepth 8000 in
set_option maxHeartbeats 2000000 in
theorem inmost_any (G : Nat) (ca ta : Option Addr) (tlen cc tc : Nat) (f t : Nat → Int) (op : Nat → Prop) (w : World)
    (hc : Vec G w ca 384 (Byts f)) (hf : ∀ i, 0 ≤ f i ∧ f i ≤ 255) (ht : Vec G w ta tlen (Ints t)) (htb : ∀ i, -9223372036854775808 ≤ t i ∧ t i ≤ 9223372036854775807)
    (hA : Arr w G 3 384 (Ints fun _ => -1)) :
    Calls Try.prog 36 #[.slice ca 384 cc, .slice (some ⟨G, 0, none⟩) 384 384, .slice ta tlen tc] w (Ring G w op (Gr.tgt f t tlen) []) := by
  have hG := hA.lt
  have hm : tlen ≤ 9223372036854775807 := ht.1
  have hc' := hide hc
  have hf' := hide hf
  have ht' := hide ht
  have htb' := hide htb
  have hA' := hide hA
  obtain ⟨i0, hi, hz0, hz1, hz2⟩ := info_parts info_int
  obtain ⟨W0, hW⟩ : ∃ W0, W0 = w.heap.size := ⟨_, rfl⟩
  have hW' := hide hW
  have hGW : G < W0 := by omega
  have hw0 : Gr.walkB 0 = false := by decide
  clear hc hf ht hA hW htb
  go_enter Try.func36, Try.ntmps36
  go_wp2_with fail
  go_loopw [7, 12] (fun v i wr => ∃ (k : Nat) (ring : List Nat) (F : Nat → Int), k ≤ tlen ∧ i = .int .i64 k ∧ wr.ownsRow W0 3 1 v ring.length ((natInts ring).map (Value.int .i64)) ∧ Arr wr G 3 384 (Ints F) ∧ Gr.Seeds f t k F ring ∧ w.grownBy wr (some G)) (fun _ i _ => tlen - (intOf i).toNat)
  case atStart => exact ⟨0, [], _, Nat.zero_le _, rfl, World.ownsRow_nil _ _ _ _, unhide hA', Gr.Seeds.none f t, World.grownBy.refl _ _⟩
  case round =>
    obtain ⟨k, ring, F, hk, rfl, hown, hA, hS, hg⟩ := hrel
    have hS1 := hide hS
    have hA1 := hide hA
    have hg1 := hide hg
    have hown1 := hide hown
    have hrl : ring.length ≤ 384 := by rw [hS.cnt]; exact Gr.cnt_le _ _
    clear hS hA hg hA' hown
    by_cases hlt : k < tlen
    · have hbel : Below G w wr := grown_below (unhide hg1) (by omega)
      have hcw := hide ((unhide hc').kept hbel)
      obtain ⟨b, off, rfl, _, hcell⟩ := ((unhide ht').kept hbel).at hlt
      have hlt' : (k : Int) < (tlen : Int) := by omega
      obtain ⟨tb1, tb2⟩ := (unhide htb') k
      obtain ⟨z, hz⟩ : ∃ z, z = t k := ⟨_, rfl⟩
      have hcell' : wr.cell? ⟨b, off + k, none⟩ = some (.int .i64 z) := by rw [hz]; exact hcell
      rw [← hz] at tb1 tb2
      have hz' := hide hz
      clear hcell hz hbel
      by_cases hin : 0 ≤ z ∧ z < 384
      · obtain ⟨c, hcz⟩ : ∃ c : Nat, z = (c : Int) := ⟨z.toNat, by omega⟩
        subst hcz
        have hc384 : c < 384 := by omega
        have hkd := Gr.kind_in f c hc384
        have hcF := (unhide hA1).cell hc384
        have hcF' : wr.cell? ⟨G, c, none⟩ = some (.int .i64 (F c)) := hcF
        have hfF := (unhide hA1).free c
        have hc2 : (c : Int) < 384 := by omega
        clear hin hcF
        by_cases hwk : Gr.walkB (f c) = true
        · by_cases hneg : F c < 0
          · have hS2 := hide ((unhide hS1).add hc384 (unhide hz').symm hwk hneg)
            go_wp2_with (first | (go_at_call 43; refine (kindOf_any _ _ _ _ f _ _ (unhide hcw) (unhide hf') (by omega) (by omega)).mono ?_; rintro e w' ⟨rfl, hw⟩; subst w') | (go_at_call 42; refine (walk_any _ _).mono ?_; rintro e w' ⟨rfl, hw⟩; subst w') | (at_builtin; refine wpList_append_own _ rfl _ _ 22 rfl W0 3 i0 (.int .i64 0) 1 8 Try.underlying22 hi hz0 hz1 hz2 rfl (by decide) _ _ _ rfl ((ownsRow_setCell_below (unhide hown1) hGW _).alloc _) ⟨wr.heap.size, 0, none⟩ 1 1 [.int .i64 (c : Int)] rfl rfl ?c1 ?c2 ?c3 ?c4 ?c5 ?_))
            case c1 => exact one_at _ _ _ _ (by simp)
            case c2 => intro u hu; simp at hu; subst hu; rfl
            case c3 => unfold maxLen; omega
            case c4 => omega
            case c5 => have := (unhide hg1).size; have := unhide hW'; simp; omega
            intro v' w1 hown' hgrow _
            rw [natInts_more] at hown'
            have hown2 : Hid (w1.ownsRow W0 3 1 v' (ring ++ [c]).length ((natInts (ring ++ [c])).map (Value.int .i64))) := by rw [List.length_append]; exact hown'
            have hA2 := hide ((((unhide hA1).upd 0).alloc _).grown hgrow (fun e => by have := ((unhide hown1).lt _ e).1; omega))
            have hg2 := hide (grown_own (grown_alloc (grown_set (unhide hg1) c _) _) hgrow (fun m hm => by rw [← unhide hW']; exact ((unhide hown1).lt m hm).1))
            clear hown' hgrow hown1 hA1 hg1 hS1 hcF' hfF hcw
            go_wp2
            go_roundw
            case rel => exact ⟨k + 1, ring ++ [c], _, by omega, by go_num, unhide hown2, unhide hA2, unhide hS2, unhide hg2⟩
            case measure => simp [intOf]; omega
          · have hS2 := hide ((unhide hS1).pass_same (unhide hz').symm (fun _ => by omega))
            go_wp2_with (first | (go_at_call 43; refine (kindOf_any _ _ _ _ f _ _ (unhide hcw) (unhide hf') (by omega) (by omega)).mono ?_; rintro e w' ⟨rfl, hw⟩; subst w') | (go_at_call 42; refine (walk_any _ _).mono ?_; rintro e w' ⟨rfl, hw⟩; subst w'))
            go_roundw
            case rel => exact ⟨k + 1, ring, F, by omega, by go_num, unhide hown1, unhide hA1, unhide hS2, unhide hg1⟩
            case measure => simp [intOf]; omega
        · have hwk' : Gr.walkB (f c) = false := by simpa using hwk
          have hS2 := hide ((unhide hS1).pass_same (unhide hz').symm (fun hw => absurd hw hwk))
          clear hwk
          go_wp2_with (first | (go_at_call 43; refine (kindOf_any _ _ _ _ f _ _ (unhide hcw) (unhide hf') (by omega) (by omega)).mono ?_; rintro e w' ⟨rfl, hw⟩; subst w') | (go_at_call 42; refine (walk_any _ _).mono ?_; rintro e w' ⟨rfl, hw⟩; subst w'))
          go_roundw
          case rel => exact ⟨k + 1, ring, F, by omega, by go_num, unhide hown1, unhide hA1, unhide hS2, unhide hg1⟩
          case measure => simp [intOf]; omega
      · have hkd := Gr.kind_out f z hin
        have hS2 := hide ((unhide hS1).pass (fun c hc h _ => absurd (show 0 ≤ z ∧ z < 384 by have := unhide hz'; omega) hin))
        clear hin
        go_wp2_with (first | (go_at_call 43; refine (kindOf_any _ _ _ _ f _ _ (unhide hcw) (unhide hf') (by omega) (by omega)).mono ?_; rintro e w' ⟨rfl, hw⟩; subst w') | (go_at_call 42; refine (walk_any _ _).mono ?_; rintro e w' ⟨rfl, hw⟩; subst w'))
        go_roundw
        case rel => exact ⟨k + 1, ring, F, by omega, by go_num, unhide hown1, unhide hA1, unhide hS2, unhide hg1⟩
        case measure => simp [intOf]; omega
    · have hge : ¬ (k : Int) < (tlen : Int) := by omega
      obtain rfl : k = tlen := by omega
      have hfin := hide ((unhide hS1).inv (op := op))
      obtain ⟨a, cap, rfl, hvx⟩ := own_vex (G := G) (unhide hown1) hGW (by unfold maxLen; omega)
      have hvx' := hide hvx
      clear hvx hown1
      go_wp2
      go_ret
      exact ⟨ring, F, a, cap, rfl, unhide hvx', unhide hA1, unhide hfin, unhide hg1⟩

end Go.Proofs.Ythofgjphoahkfaa
