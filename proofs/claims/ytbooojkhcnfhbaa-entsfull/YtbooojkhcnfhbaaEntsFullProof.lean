/-
  For any kinds and any row the law EntsFull answers true: as many entities are spawned as there are rows, each in the next one, then none, and where one is freed the next comes; no condition.
-/
import Derived.Test.YtbooojkhcnfhbaaRows
import Derived.WalkKit
import Derived.ProofKit
import Derived.OpenShut
import Derived.Test.YtbooojkhcnfhbaaEntMath
import Derived.ShutString
import Derived.ChangeOld
import Derived.Below
namespace Go.Proofs.Ytbooojkhcnfhbaa.entsFull
open Go.ChangeShapes Go.WideShapes Go.ChangeAt Go.RowKit
open Go.ChangeMaps (open_string shut_string)
set_option linter.unusedVariables false

theorem own : ownKnob Try.prog.godebug = none := by kernel_rfl
theorem laidOut : laidOutB Try.prog = true := by kernel_rfl

/-- WHAT THE WALK IS TOLD OF A SLICE OF INTEGERS THAT CAME IN: it is nil; or it leads to a row of 'cap' cells, the numbers 'zs' (the first 'len' are its elements, the rest its spare room), each fitting its kind. -/
def IsRow (k : IntKind) (w : World) (a : Option Addr) (len cap : Nat) (zs : List Int) : Prop :=
  (a = none ∧ len = 0 ∧ cap = 0 ∧ zs = []) ∨
  ∃ x, a = some x ∧ len ≤ cap ∧ cap ≤ maxLen ∧ zs.length = cap ∧ (∀ i, i < zs.length → w.cell? (x.add i) = some (.int k (zs.getD i 0))) ∧ ∀ n ∈ zs, (Lit.int k n).wf = true

theorem IsRow.vec {k : IntKind} {w : World} {a : Option Addr} {len cap : Nat} {zs : List Int} (h : IsRow k w a len cap zs) : Vec w.heap.size w a len (fun i => .int k (zs[i]?.getD 0)) := by
  rcases h with ⟨rfl, rfl, rfl, rfl⟩ | ⟨x, rfl, hl, hm, hz, hcell, _⟩
  · exact ⟨Nat.zero_le _, .inl rfl⟩
  · refine ⟨Nat.le_trans hl hm, ?_⟩
    by_cases h0 : len = 0
    · exact .inl h0
    · right
      obtain ⟨b, off, spot⟩ := x
      have hc0 := hcell 0 (by omega)
      have hspot : spot = none := by simpa [Addr.add] using World.cell?_spot hc0
      subst hspot
      refine ⟨b, off, rfl, ?_, fun i hi => ?_⟩
      · have h := Go.block_lt_of_cell hc0
        simpa [Addr.add] using h
      · have h := hcell i (by omega)
        by_cases hi0 : i = 0
        · subst hi0
          simpa [Addr.add] using h
        · simpa [Addr.add, hi0] using h

set_option maxRecDepth 8000 in
set_option maxHeartbeats 4000000 in

theorem walk (a0 : Option Addr) (len0 cap0 : Nat) (z0 : List Int) (a1 : Int) (w : World) (w0 : IsRow .i64 w a0 len0 cap0 z0) (w1 : (Lit.int .i64 a1).wf = true) :
    Calls Try.prog 6 #[.slice a0 len0 cap0, .int .i64 a1] w fun e w' => e = .returned (.bool true) ∧ Below w.heap.size w w' := by
  have hv := hide w0.vec
  have hm : len0 ≤ 9223372036854775807 := w0.vec.1
  clear w0 w1
  obtain ⟨Z, hmk, hZ⟩ := make32
  have hZ' := hide hZ
  clear hZ
  go_enter Try.func6, Try.ntmps6
  go_wp2_with fail
  refine (known_any _).mono ?_
  rintro e wk ⟨rfl, hgk⟩
  have hgk' := hide hgk
  clear hgk
  go_wp2_with fail
  have hown0 := hide (unhide hZ' wk)
  have hg0 := hide (grown_alloc (unhide hgk') (.cells Z 24))
  obtain ⟨wb, hwb⟩ : ∃ wb, wb = wk.alloc (.cells Z 24) := ⟨_, rfl⟩
  rw [← hwb] at hown0 hg0 ⊢
  clear hwb hmk hZ' hgk'
  go_loopw [5, 6] (fun vl vi wr => ∃ (k g cap : Nat) (E : Nat → Nat → Int), k ≤ 32 ∧ vi = .int .i64 (k : Int) ∧ vl = .slice (some ⟨g, 0, none⟩) 32 cap ∧ 32 ≤ cap ∧ Own wr g 32 E ∧ En.Full k E ∧ w.grownBy wr none) (fun _ vi _ => 40 - (intOf vi).toNat)
  case atStart => exact ⟨0, _, 32, _, by omega, rfl, rfl, by omega, unhide hown0, En.Full.zero, unhide hg0⟩
  case round =>
    clear hown0 hg0
    obtain ⟨k, g, cap, E, hk, rfl, rfl, hcap, hown, hfull, hgr⟩ := hrel
    have hown' := hide hown
    have hfull' := hide hfull
    have hgr' := hide hgr
    have hcap' := hide hcap
    clear hown hfull hgr hcap
    by_cases hlt : k < 32
    · have hlt' : (k : Int) < 32 := by omega
      have HL := hide hlt
      have tail : ∀ (K : Int), 1 ≤ K ∧ K ≤ 4 → True := fun _ _ => trivial
      by_cases hkl : k < len0
      · obtain ⟨b, off, rfl, hb, hc⟩ := (unhide hv).at hkl
        have hc' : wr.cell? ⟨b, off + k, none⟩ = some (.int .i64 (z0[k]?.getD 0)) := (grown_cell (unhide hgr') b _ hb (by simp)).trans hc
        have hkl' : (k : Int) < (len0 : Int) := by omega
        obtain ⟨K, hK, hK1⟩ : ∃ K, K = 1 + z0[k]?.getD 0 % 4 ∧ 1 ≤ K ∧ K ≤ 4 := ⟨_, rfl, by omega, by omega⟩
        have hK' := hide hK
        have b1 : 0 ≤ z0[k]?.getD 0 % 4 ∧ z0[k]?.getD 0 % 4 < 4 := by omega
        obtain ⟨m4, hm4⟩ : ∃ m, m = z0[k]?.getD 0 % 4 := ⟨_, rfl⟩
        rw [← hm4] at b1
        have hm4' := hide hm4
        clear hc hb hkl hK hm4 tail hlt
        go_wp2_with fail
        refine (within_any _ _ _ (by omega) (by omega)).mono ?_
        rintro e w' ⟨rfl, rfl⟩
        rw [← unhide hm4']
        have hKm : Hid (1 + m4 = K) := by show 1 + m4 = K; rw [unhide hK', unhide hm4']
        obtain ⟨b2, b3⟩ := b1
        clear hc' hK' hm4'
        go_wp2_with fail
        rw [unhide hKm]
        clear b2 b3 hKm
        refine (stats_any K _).mono ?_
        rintro e w2 ⟨rfl, hg2⟩
        have hown2 := hide ((unhide hown').on hg2)
        have hgr2 := hide (grown_trans (unhide hgr') hg2)
        clear hg2 hown' hgr'
        go_wp2_with fail
        refine (spawn_next g cap k E K _ (unhide hown2).ents (unhide hcap') (unhide hfull') (unhide HL) hK1).mono ?_
        rintro e w3 ⟨g3, cap3, rfl, hlo3, hnc3, _, hown3, hg3⟩
        have hgr3 := hide (grown_trans (unhide hgr2) hg3)
        have u0 : w3.cell? ⟨g3, k * 11, none⟩ = some (.int .i64 K) := by
          have h := hown3.ents.2.2 k 0 (unhide HL) (by omega)
          rw [En.put_same, show En.gen (En.stats K) 1 0 = K from En.stats_kind hK1] at h
          exact h
        have u1 : w3.cell? ⟨g3, k * 11 + 1, none⟩ = some (.int .i64 1) := by
          have h := hown3.ents.2.2 k 1 (unhide HL) (by omega)
          rw [En.put_same] at h
          exact h
        have u2 : w3.cell? ⟨g, k * 11, none⟩ = some (.int .i64 0) := by
          have h := ((unhide hown2).on hg3).ents.2.2 k 0 (unhide HL) (by omega)
          rw [((unhide hfull').2 k (Nat.le_refl _)).1] at h
          exact h
        have hown3' := hide hown3
        have hnc3' := hide hnc3
        have hfull3 := hide ((unhide hfull').next hK1)
        clear hown3 hg3 hlo3 hnc3 hown2 hgr2
        go_wp2
        go_roundw
        case rel => exact ⟨k + 1, g3, cap3, _, by have := unhide HL; omega, by go_num, rfl, unhide hnc3', unhide hown3', unhide hfull3, unhide hgr3⟩
        case measure => simp [intOf]; omega
      · have hkl' : ¬ (k : Int) < (len0 : Int) := by omega
        clear hkl tail hlt
        go_wp2_with fail
        refine (stats_any 2 _).mono ?_
        rintro e w2 ⟨rfl, hg2⟩
        have hown2 := hide ((unhide hown').on hg2)
        have hgr2 := hide (grown_trans (unhide hgr') hg2)
        clear hg2 hown' hgr'
        go_wp2_with fail
        refine (spawn_next g cap k E 2 _ (unhide hown2).ents (unhide hcap') (unhide hfull') (unhide HL) (by omega)).mono ?_
        rintro e w3 ⟨g3, cap3, rfl, hlo3, hnc3, _, hown3, hg3⟩
        have hgr3 := hide (grown_trans (unhide hgr2) hg3)
        have u0 : w3.cell? ⟨g3, k * 11, none⟩ = some (.int .i64 2) := by
          have h := hown3.ents.2.2 k 0 (unhide HL) (by omega)
          rw [En.put_same] at h
          exact h
        have u1 : w3.cell? ⟨g3, k * 11 + 1, none⟩ = some (.int .i64 1) := by
          have h := hown3.ents.2.2 k 1 (unhide HL) (by omega)
          rw [En.put_same] at h
          exact h
        have u2 : w3.cell? ⟨g, k * 11, none⟩ = some (.int .i64 0) := by
          have h := ((unhide hown2).on hg3).ents.2.2 k 0 (unhide HL) (by omega)
          rw [((unhide hfull').2 k (Nat.le_refl _)).1] at h
          exact h
        have hown3' := hide hown3
        have hnc3' := hide hnc3
        have hfull3 := hide ((unhide hfull').next (K := 2) (by omega))
        clear hown3 hg3 hlo3 hnc3 hown2 hgr2
        go_wp2
        go_roundw
        case rel => exact ⟨k + 1, g3, cap3, _, by have := unhide HL; omega, by go_num, rfl, unhide hnc3', unhide hown3', unhide hfull3, unhide hgr3⟩
        case measure => simp [intOf]; omega
    · obtain rfl : k = 32 := by omega
      clear hlt hk
      go_wp2_with fail
      refine (stats_any 2 _).mono ?_
      rintro e w2 ⟨rfl, hg2⟩
      have hown2 := hide ((unhide hown').on hg2)
      have hgr2 := hide (grown_trans (unhide hgr') hg2)
      clear hg2 hown' hgr'
      go_wp2_with fail
      refine (spawn_stop g cap E 2 _ (unhide hown2).ents (unhide hcap') (unhide hfull') (by omega)).mono ?_
      rintro e w3 ⟨rfl, hg3⟩
      have hown3 := hide ((unhide hown2).on hg3)
      have hgr3 := hide (grown_trans (unhide hgr2) hg3)
      clear hg3 hown2 hgr2
      go_wp2_with fail
      refine (spawn_bad g 32 cap (fun _ => 0) _ (by show ¬ ((1:Int) ≤ 0 ∧ (0:Int) ≤ 4); omega)).mono ?_
      rintro e w4 ⟨rfl, hg4⟩
      have hown4 := hide ((unhide hown3).on hg4)
      have hgr4 := hide (grown_trans (unhide hgr3) hg4)
      clear hg4 hown3 hgr3
      go_wp2_with fail
      refine (within_any _ _ _ (by omega) (by omega)).mono ?_
      rintro e w' ⟨rfl, hw⟩
      subst w'
      obtain ⟨r, hr, hr32⟩ : ∃ r : Nat, a1 % 32 = (r : Int) ∧ r < 32 := ⟨(a1 % 32).toNat, by omega, by omega⟩
      rw [hr]
      clear hr
      go_wp2_with fail
      refine (free_full g cap r E _ (unhide hown4).ents (unhide hcap') (unhide hfull') hr32).mono ?_
      rintro e w5 ⟨g5, cap5, rfl, hlo5, hnc5, _, hown5, hg5⟩
      have hown5' := hide hown5
      have hnc5' := hide hnc5
      have hgr5 := hide (grown_trans (unhide hgr4) hg5)
      clear hg5 hown5 hlo5 hnc5 hown4 hgr4
      go_wp2_with fail
      refine (stats_any 3 _).mono ?_
      rintro e w6 ⟨rfl, hg6⟩
      have hown6 := hide ((unhide hown5').on hg6)
      have hgr6 := hide (grown_trans (unhide hgr5) hg6)
      clear hg6 hown5' hgr5
      go_wp2_with fail
      refine (spawn_again g5 cap5 r E 3 _ (unhide hown6).ents (unhide hnc5') (unhide hfull') hr32 (by omega)).mono ?_
      rintro e w7 ⟨g7, cap7, rfl, hlo7, hnc7, _, hown7, hg7⟩
      have hgr7 := hide (grown_trans (unhide hgr6) hg7)
      have u1 : w7.cell? ⟨g7, r * 11 + 1, none⟩ = some (.int .i64 2) := by
        have h := hown7.ents.2.2 r 1 hr32 (by omega)
        rw [En.put_same] at h
        exact h
      have hr' : (r : Int) < 32 := by omega
      clear hown7 hg7 hlo7 hnc7 hown6 hgr6 hnc5' hcap' hfull'
      go_wp2
      go_ret
      exact ⟨rfl, grown_below (unhide hgr7)⟩

set_option maxRecDepth 100000 in
theorem lifted (os : Os) (started : os.Started) (H : Type) (enc : TypeId × Value → H) :
    ReturnsInHanded {} Try.checked os 6 .any (Rows.entsFullSpec.pre6 enc Try.prog Try.f6 Rows.entsFullRow.domain false) (Rows.entsFullSpec.post enc Try.prog Try.f6 false true false false) := by
  refine returnsInHanded_of_change (C := Try.checked) own started (by kernel_rfl) Try.func6
    (ChangeSpec.witness6 (enc := enc) (C := Try.checked) false ⟨#[], #[.slice none 0 0, .int .i64 0], []⟩ 8 (by kernel_rfl) (by kernel_rfl) (by kernel_rfl) (by kernel_rfl)) ?_
  intro W base args ds gs before hval0 hW hcnd _
  have hval : ∀ (j : Nat) t v, Try.f6.params[j]? = some t → args[j]? = some v → Value.okWide Try.prog W .any base t v := hval0
  have hW' := hW
  obtain ⟨p, q, hA0, hV, rfl, hfz, hnd⟩ := hW
  have hA : DataW.TrodAll enc Try.prog W 0 (fun _ => true) true Try.f6.params.toList args.toList ds p := hA0
  rw [Try.params6] at hA hval
  obtain ⟨v0, vs0, d0, ds0, p0, q0, hargs, rfl, rfl, h0, r0⟩ := trodAll_cons hA
  obtain ⟨v1, vs1, d1, ds1, p1, q1, rfl, rfl, rfl, h1, r1⟩ := trodAll_cons r0
  obtain ⟨rfl, rfl, rfl⟩ := trodAll_nil r1
  obtain rfl : args = #[v0, v1] := by cases args; simp_all
  obtain ⟨rfl, rfl⟩ := trodVars_none hV
  obtain ⟨a0, len0, cap0, rfl⟩ := okWide_slice Try.underlying38 (hval 0 38 v0 rfl rfl)
  have k0 := h0
  have lt0 : ∀ x ∈ p0, x.block < W.heap.size := by obtain ⟨m, hm⟩ := k0; exact DataW.trod_lt m _ _ _ hm
  obtain ⟨z0, w0⟩ : ∃ zs, IsRow .i64 W a0 len0 cap0 zs := by
    obtain ⟨fuel, hf⟩ := h0
    rcases open_ints Try.underlying38 Try.underlying3 (by kernel_rfl) hf with ⟨hcs, _⟩ | ⟨x, l, c, zs, hcs, _, hl, hm, hz, _, hcell, hwz⟩
    · simp [Value.cells] at hcs
      obtain ⟨rfl, rfl, rfl⟩ := hcs
      exact ⟨[], .inl ⟨rfl, rfl, rfl, rfl⟩⟩
    · simp [Value.cells] at hcs
      obtain ⟨rfl, rfl, rfl⟩ := hcs
      exact ⟨zs, .inr ⟨_, rfl, hl, hm, by simpa using hz, hcell, hwz⟩⟩
  obtain ⟨a1, rfl, rfl, rfl, w1⟩ := open_int Try.underlying3 (hval 1 3 v1 rfl rfl) h1
  clear hA0 hval0
  refine (walk a0 len0 cap0 z0 a1 W w0 w1).mono fun e W' ⟨he, bel⟩ => ?_
  subst he
  exact ⟨_, rfl, _, _, _, [], _, [], hW', trodAll_mk1 (shut_bool Try.underlying4 _), (trodAll_cons_mk (Below.trod laidOut (by kernel_rfl) (of_decide_eq_true (by kernel_rfl)) k0 bel lt0) (trodAll_cons_mk (shut_int Try.underlying3 w1) trodAll_mk0)), rfl, bel.frame _, fun h => by cases h⟩

theorem over : Rows.entsFullRow.holds Try.pinned (OpenSpec.ofChange Rows.entsFullSpec) :=
  OpenClaim.holds_of_wide 6 Try.f6 rfl rfl rfl rfl rfl rfl rfl ⟨rfl, rfl, rfl, rfl, rfl⟩ rfl rfl rfl rfl rfl (by kernel_rfl) Try.func6 (by kernel_rfl)
    (of_decide_eq_true (by kernel_rfl)) (by unfold Func.isWrapper; first | (rw [if_pos (by decide +kernel)]; kernel_rfl) | (rw [if_neg (by decide +kernel)]; exact ⟨rfl, rfl⟩))
    (fun os started H enc _ => lifted os started H enc)

theorem proved : Rows.EntsFullSaid := over
#print axioms proved
end Go.Proofs.Ytbooojkhcnfhbaa.entsFull
