/-
  For any row of numbers the law EntsTurns answers true: rows that are spawned and freed in any order, each id finds its row, one that was freed none, the lowest free row is taken, the 33rd is refused; no condition.
-/
import Derived.Test.YtbooojkhcnfhbaaRows
import Derived.WalkKit
import Derived.ProofKit
import Derived.OpenShut
import Derived.Test.YtbooojkhcnfhbaaEntMath
import Derived.ShutString
import Derived.ChangeOld
import Derived.Below
namespace Go.Proofs.Ytbooojkhcnfhbaa.entsTurns
open Go.ChangeShapes Go.WideShapes Go.ChangeAt Go.RowKit
open Go.ChangeMaps (open_string shut_string)
set_option linter.unusedVariables false

theorem own : ownKnob Try.prog.godebug = none := by kernel_rfl
theorem laidOut : laidOutB Try.prog = true := by kernel_rfl

/-- WHAT THE WALK IS TOLD OF A SLICE OF INTEGERS THAT CAME IN: it is nil; or it leads to a row of 'cap' cells, the numbers 'zs' (the first 'len' are its elements, the rest its spare room), each fitting its kind. -/
def IsRow (k : IntKind) (w : World) (a : Option Addr) (len cap : Nat) (zs : List Int) : Prop :=
  (a = none ∧ len = 0 ∧ cap = 0 ∧ zs = []) ∨
  ∃ x, a = some x ∧ len ≤ cap ∧ cap ≤ maxLen ∧ zs.length = cap ∧ (∀ i, i < zs.length → w.cell? (x.add i) = some (.int k (zs.getD i 0))) ∧ ∀ n ∈ zs, (Lit.int k n).wf = true

theorem IsRow.vec {k : IntKind} {w : World} {a : Option Addr} {len cap : Nat} {zs : List Int} (h : IsRow k w a len cap zs) : Vec w.heap.size w a len (fun i => .int k (zs[i]?.getD 0)) := by
  rcases h with ⟨rfl, rfl, rfl, rfl⟩ | ⟨x, rfl, hl, hm, hz, hcell, _⟩
  · exact ⟨Nat.zero_le _, .inl rfl⟩
  · refine ⟨Nat.le_trans hl hm, ?_⟩
    by_cases h0 : len = 0
    · exact .inl h0
    · right
      obtain ⟨b, off, spot⟩ := x
      have hc0 := hcell 0 (by omega)
      have hspot : spot = none := by simpa [Addr.add] using World.cell?_spot hc0
      subst hspot
      refine ⟨b, off, rfl, ?_, fun i hi => ?_⟩
      · have h := Go.block_lt_of_cell hc0
        simpa [Addr.add] using h
      · have h := hcell i (by omega)
        by_cases hi0 : i = 0
        · subst hi0
          simpa [Addr.add] using h
        · simpa [Addr.add, hi0] using h

theorem IsRow.word {w : World} {a : Option Addr} {len cap : Nat} {zs : List Int} (h : IsRow .i64 w a len cap zs) (i : Nat) : -9223372036854775808 ≤ zs[i]?.getD 0 ∧ zs[i]?.getD 0 ≤ 9223372036854775807 := by
  rcases h with ⟨_, _, _, rfl⟩ | ⟨_, _, _, _, _, _, hw⟩
  · simp
  · by_cases hi : i < zs.length
    · have h := hw zs[i] (List.getElem_mem hi)
      simp only [Lit.wf, Bool.and_eq_true, decide_eq_true_eq, show IntKind.i64.min = -9223372036854775808 from by decide, show IntKind.i64.max = 9223372036854775807 from by decide] at h
      rw [List.getElem?_eq_getElem hi]
      exact h
    · rw [List.getElem?_eq_none (by omega)]
      simp

set_option maxRecDepth 8000 in
set_option maxHeartbeats 8000000 in

theorem walk (a0 : Option Addr) (len0 cap0 : Nat) (z0 : List Int) (w : World) (w0 : IsRow .i64 w a0 len0 cap0 z0) :
    Calls Try.prog 4 #[.slice a0 len0 cap0] w fun e w' => e = .returned (.bool true) ∧ Below w.heap.size w w' := by
  have hv := hide w0.vec
  have hwd := hide w0.word
  have hm : len0 ≤ 9223372036854775807 := w0.vec.1
  clear w0
  obtain ⟨Z, hmk, hZ⟩ := make32
  have hZ' := hide hZ
  clear hZ
  go_enter Try.func4, Try.ntmps4
  go_wp2_with fail
  refine (known_any _).mono ?_
  rintro e wk ⟨rfl, hgk⟩
  have hgk' := hide hgk
  clear hgk
  go_wp2_with fail
  have hown0 := hide (unhide hZ' wk)
  have hg0 := hide (grown_alloc (unhide hgk') (.cells Z 24))
  obtain ⟨wb, hwb⟩ : ∃ wb, wb = wk.alloc (.cells Z 24) := ⟨_, rfl⟩
  rw [← hwb] at hown0 hg0 ⊢
  clear hwb hmk hZ' hgk'
  go_loopw [3, 4, 5] (fun vl vn vi wr => ∃ (k g cap : Nat) (L : Int) (E : Nat → Nat → Int), k ≤ 80 ∧ k ≤ len0 ∧ vi = .int .i64 (k : Int) ∧ vl = .slice (some ⟨g, 0, none⟩) 32 cap ∧ vn = .int .i64 L ∧ L = En.live E 32 ∧ 32 ≤ cap ∧ Own wr g 32 E ∧ En.Gens 32 E ∧ w.grownBy wr none) (fun _ _ vi _ => 100 - (intOf vi).toNat)
  case atStart => exact ⟨0, _, 32, 0, _, by omega, by omega, rfl, rfl, rfl, (En.live_zero 32).symm, by omega, unhide hown0, fun i _ => ⟨by show (0:Int) ≤ 0; decide, by show (0:Int) ≤ 255; decide⟩, unhide hg0⟩
  case round =>
    clear hown0 hg0
    obtain ⟨k, g, cap, L, E, hk, hkl, rfl, rfl, rfl, hL, hcap, hown, hgens, hgr⟩ := hrel
    have hL' := hide hL
    have hLb := hide (En.live_le E 32)
    obtain ⟨hL0, hL1⟩ : 0 ≤ L ∧ L ≤ 32 := by have := En.live_le E 32; rw [← hL] at this; exact ⟨this.1, by omega⟩
    have hown' := hide hown
    have hgens' := hide hgens
    have hgr' := hide hgr
    have hcap' := hide hcap
    clear hown hgens hgr hcap hL hLb
    by_cases hend : k < len0 ∧ k < 80
    · obtain ⟨h1, h2⟩ := hend
      obtain ⟨b, off, rfl, hb, hc⟩ := (unhide hv).at h1
      obtain ⟨z, hz⟩ : ∃ z, z = z0[k]?.getD 0 := ⟨_, rfl⟩
      have hc' : wr.cell? ⟨b, off + k, none⟩ = some (.int .i64 z) := by rw [hz]; exact (grown_cell (unhide hgr') b _ hb (by simp)).trans hc
      have hzb := unhide hwd k
      rw [← hz] at hzb
      obtain ⟨hz0, hz1⟩ := hzb
      have h1' : (k : Int) < (len0 : Int) := by omega
      have h2' : (k : Int) < 80 := by omega
      have HK := hide (And.intro h1 h2)
      clear hc hb hz h1 h2 hk hkl
      by_cases h3 : z.tmod 3 = 0
      · have hq : Hid (∀ r : Nat, r < 32 → True) := fun _ _ => trivial
        clear hq
        have hq3 : Hid True := trivial
        go_wp2_with fail
        refine (within_any _ _ _ (by omega) (by omega)).mono ?_
        rintro e w' ⟨rfl, hw⟩
        subst w'
        obtain ⟨r, hr, hr32⟩ : ∃ r : Nat, z.tdiv 3 % 32 = (r : Int) ∧ r < 32 := ⟨(z.tdiv 3 % 32).toNat, by omega, by omega⟩
        rw [hr]
        have hr' : (r : Int) < 32 := by omega
        have cid := hide (id_any g 32 cap E (r : Int) wr (unhide hown').ents (unhide hcap') (unhide hgens'))
        have cfree : Hid (∀ x : World, wr.grownBy x none → Calls Try.prog 12 #[.slice (some ⟨g, 0, none⟩) 32 cap, .int .i64 (r : Int)] x (Lists x 32 (En.put E r (En.hole (E r 1))))) := fun x hg => free_in g 32 cap r E x ((unhide hown').on hg).ents (unhide hcap') hr32
        obtain ⟨F, hF⟩ : ∃ F, F = En.put E r (En.hole (E r 1)) := ⟨_, rfl⟩
        rw [← hF] at cfree
        have hFz : Hid (F r 0 = 0) := by show F r 0 = 0; rw [hF, En.put_same]; rfl
        have hFg : Hid (En.Gens 32 F) := by rw [hF]; exact (unhide hgens').free r
        have HR := hide hr32
        have cid2 : Hid (∀ (x : World) (g2 c2 : Nat), Own x g2 32 F → 32 ≤ c2 → Calls Try.prog 20 #[.slice (some ⟨g2, 0, none⟩) 32 c2, .int .i64 (r : Int)] x (Says x (.int .i64 (-1)))) := fun x g2 c2 ho hcc => by
          have h := id_any g2 32 c2 F (r : Int) x ho.ents hcc (unhide hFg)
          rwa [En.id_free (unhide hFz)] at h
        clear hc' h3 hz0 hz1 hr
        by_cases hf : E r 0 = 0
        · rw [En.id_free hf] at cid
          have hFl : Hid (L = En.live F 32) := by show L = En.live F 32; rw [hF, En.live_same hr32 hf]; exact unhide hL'
          clear hf hF hr32
          go_wp2_with fail
          refine (unhide cid).mono ?_
          rintro e w2 ⟨rfl, hg2⟩
          have hgr2 := hide (grown_trans (unhide hgr') hg2)
          have cfree2 := hide (unhide cfree w2 hg2)
          clear hg2 cid cfree hgr'
          go_wp2_with fail
          refine (unhide cfree2).mono ?_
          rintro e w3 ⟨g3, cap3, rfl, hlo3, hnc3, _, hown3, hg3⟩
          have hgr3 := hide (grown_trans (unhide hgr2) hg3)
          have hown3' := hide hown3
          have hnc3' := hide hnc3
          have cid3 := hide (unhide cid2 w3 g3 cap3 hown3 hnc3)
          clear hown3 hnc3 hg3 hlo3 cid2 cfree2
          go_wp2_with fail
          refine (unhide cid3).mono ?_
          rintro e w4 ⟨rfl, hg4⟩
          have hgr4 := hide (grown_trans (unhide hgr3) hg4)
          have hown4 := hide ((unhide hown3').on hg4)
          clear hg4 cid3
          go_wp2
          go_roundw
          case rel => exact ⟨k + 1, g3, cap3, L, F, by have := unhide HK; omega, by have := unhide HK; omega, by go_num, rfl, rfl, unhide hFl, unhide hnc3', unhide hown4, unhide hFg, unhide hgr4⟩
          case measure => simp [intOf]; omega
        · obtain ⟨I, hI⟩ : ∃ I, I = (r : Int) + 32 * E r 1 := ⟨_, rfl⟩
          have hI0 : 0 ≤ I := by have := unhide hgens' r hr32; omega
          rw [En.id_at hr32 hf, ← hI] at cid
          have hFl : Hid (L - 1 = En.live F 32) := by show L - 1 = En.live F 32; rw [hF, En.live_free hr32 hf, ← unhide hL']
          have cof2 : Hid (∀ (x : World) (g2 c2 : Nat), Own x g2 32 F → 32 ≤ c2 → Calls Try.prog 22 #[.slice (some ⟨g2, 0, none⟩) 32 c2, .int .i64 I] x (Says x (.int .i64 (-1)))) := fun x g2 c2 ho hcc => by
            have h := of_any g2 32 c2 F I x ho.ents hcc (unhide hFg)
            rwa [hI, En.of_gone (unhide HR) (unhide hFz), ← hI] at h
          clear hf hF hr32 hI
          go_wp2_with fail
          refine (unhide cid).mono ?_
          rintro e w2 ⟨rfl, hg2⟩
          have hgr2 := hide (grown_trans (unhide hgr') hg2)
          have cfree2 := hide (unhide cfree w2 hg2)
          clear hg2 cid cfree hgr'
          go_wp2_with fail
          refine (unhide cfree2).mono ?_
          rintro e w3 ⟨g3, cap3, rfl, hlo3, hnc3, _, hown3, hg3⟩
          have hgr3 := hide (grown_trans (unhide hgr2) hg3)
          have hown3' := hide hown3
          have hnc3' := hide hnc3
          have cid3 := hide (unhide cid2 w3 g3 cap3 hown3 hnc3)
          clear hown3 hnc3 hg3 hlo3 cid2 cfree2
          go_wp2_with fail
          refine (unhide cid3).mono ?_
          rintro e w4 ⟨rfl, hg4⟩
          have hgr4 := hide (grown_trans (unhide hgr3) hg4)
          have hown4 := hide ((unhide hown3').on hg4)
          have cof4 := hide (unhide cof2 w4 g3 cap3 (unhide hown4) (unhide hnc3'))
          clear hg4 cid3 cof2
          go_wp2_with fail
          refine (unhide cof4).mono ?_
          rintro e w5 ⟨rfl, hg5⟩
          have hgr5 := hide (grown_trans (unhide hgr4) hg5)
          have hown5 := hide ((unhide hown4).on hg5)
          clear hg5 cof4
          go_wp2
          go_roundw
          case rel => exact ⟨k + 1, g3, cap3, L - 1, F, by have := unhide HK; omega, by have := unhide HK; omega, by go_num, rfl, rfl, unhide hFl, unhide hnc3', unhide hown5, unhide hFg, unhide hgr5⟩
          case measure => simp [intOf]; omega
      · have h3' : (z.tmod 3 == 0) = false := by simp [h3]
        clear h3
        obtain ⟨K, hK, hK1⟩ : ∃ K, K = 1 + z % 4 ∧ 1 ≤ K ∧ K ≤ 4 := ⟨_, rfl, by omega, by omega⟩
        have hK' := hide hK
        obtain ⟨m4, hm4, b2, b3⟩ : ∃ m, m = z % 4 ∧ 0 ≤ m ∧ m < 4 := ⟨_, rfl, by omega, by omega⟩
        have hm4' := hide hm4
        clear hK hm4
        go_wp2_with fail
        refine (within_any _ _ _ (by omega) (by omega)).mono ?_
        rintro e w' ⟨rfl, hw⟩
        subst w'
        rw [← unhide hm4']
        have hKm : Hid (1 + m4 = K) := by show 1 + m4 = K; rw [unhide hK', unhide hm4']
        clear hc' hK' hm4' h3' hz0 hz1
        go_wp2_with fail
        rw [unhide hKm]
        clear b2 b3 hKm
        refine (stats_any K _).mono ?_
        rintro e w2 ⟨rfl, hg2⟩
        have hown2 := hide ((unhide hown').on hg2)
        have hgr2 := hide (grown_trans (unhide hgr') hg2)
        clear hg2 hown' hgr'
        go_wp2_with fail
        have hKs : Hid (1 ≤ En.stats K 0 ∧ En.stats K 0 ≤ 4) := by show 1 ≤ En.stats K 0 ∧ En.stats K 0 ≤ 4; rw [En.stats_kind hK1]; exact hK1
        rcases En.first_cases (En.freeQ E) 32 with ⟨hf, hno⟩ | ⟨r, hr32, hf, hq, hno⟩
        · have hL32 : L = 32 := by rw [unhide hL']; exact En.live_none (fun j hj => of_decide_eq_false (hno j hj))
          refine (spawn_full g 32 cap E (En.stats K) _ (unhide hown2).ents (unhide hcap') (unhide hKs) hf).mono ?_
          rintro e w3 ⟨rfl, hg3⟩
          have hown3 := hide ((unhide hown2).on hg3)
          have hgr3 := hide (grown_trans (unhide hgr2) hg3)
          clear hg3 hown2 hgr2 hno hf
          subst hL32
          go_wp2
          go_roundw
          case rel => exact ⟨k + 1, g, cap, 32, E, by have := unhide HK; omega, by have := unhide HK; omega, by go_num, rfl, rfl, unhide hL', unhide hcap', unhide hown3, unhide hgens', unhide hgr3⟩
          case measure => simp [intOf]; omega
        · have hfree : E r 0 = 0 := of_decide_eq_true hq
          have hL32 : ¬ L = 32 := fun e => by
            have h := unhide hL'
            rw [e] at h
            exact En.live_all (m := 32) h.symm r hr32 hfree
          refine (spawn_some g 32 cap r E (En.stats K) _ (unhide hown2).ents (unhide hcap') (unhide hKs) hf hr32 (unhide hgens')).mono ?_
          rintro e w3 ⟨g3, cap3, rfl, hlo3, hnc3, _, hown3, hg3⟩
          have hgr3 := hide (grown_trans (unhide hgr2) hg3)
          obtain ⟨F, hF⟩ : ∃ F, F = En.put E r (En.gen (En.stats K) ((E r 1 + 1) % 256)) := ⟨_, rfl⟩
          rw [← hF] at hown3
          have hFk : Hid (F r 0 ≠ 0) := by show F r 0 ≠ 0; rw [hF, En.put_same]; show En.stats K 0 ≠ 0; rw [En.stats_kind hK1]; omega
          have hFg : Hid (En.Gens 32 F) := by rw [hF]; exact (unhide hgens').spawn r _
          have hFl : Hid (L + 1 = En.live F 32) := by show L + 1 = En.live F 32; rw [hF, En.live_spawn hr32 hfree hK1, ← unhide hL']
          have hown3' := hide hown3
          have hnc3' := hide hnc3
          have hwas := hide ((unhide hown2).on hg3).ents
          have hno' := hide hno
          have HR := hide hr32
          have hr' : (r : Int) < 32 := by omega
          clear hown3 hg3 hlo3 hnc3 hown2 hgr2 hF hfree hf hq hno hKs hK1 hr32
          go_wp2_with fail
          go_loop [10] (fun vj => ∃ j : Nat, j ≤ r ∧ vj = .int .i64 (j : Int)) (fun vj => 40 - (intOf vj).toNat)
          case atStart => exact ⟨0, by omega, rfl⟩
          case round =>
            obtain ⟨j, hj, rfl⟩ := hrel
            by_cases hjr : j < r
            · have u0 := (unhide hwas).2.2 j 0 (by have := unhide HR; omega) (by omega)
              rw [Nat.add_zero] at u0
              have hnz : (E j 0 == 0) = false := by have := unhide hno' j hjr; simpa [En.freeQ] using this
              have hjr' : (j : Int) < (r : Int) := by omega
              have hj32 : (j : Int) < 32 := by omega
              have HJ := hide hjr
              clear hjr
              go_wp2
              go_round
              case rel => exact ⟨j + 1, by have := unhide HJ; omega, by go_num⟩
              case measure => simp [intOf]; omega
            · have hjr' : ¬ (j : Int) < (r : Int) := by omega
              have cid := hide (id_any g3 32 cap3 F (r : Int) w3 (unhide hown3').ents (unhide hnc3') (unhide hFg))
              obtain ⟨I, hI⟩ : ∃ I, I = (r : Int) + 32 * F r 1 := ⟨_, rfl⟩
              rw [En.id_at (unhide HR) (unhide hFk), ← hI] at cid
              have cof : Hid (∀ x : World, w3.grownBy x none → Calls Try.prog 22 #[.slice (some ⟨g3, 0, none⟩) 32 cap3, .int .i64 I] x (Says x (.int .i64 (r : Int)))) := fun x hg => by
                have h := of_any g3 32 cap3 F I x ((unhide hown3').on hg).ents (unhide hnc3') (unhide hFg)
                rwa [hI, En.of_id (unhide HR) (unhide hFk), ← hI] at h
              clear hI hjr
              go_wp2_with fail
              refine (unhide cid).mono ?_
              rintro e w4 ⟨rfl, hg4⟩
              have hof4 := hide (unhide cof w4 hg4)
              have hgr4 := hide (grown_trans (unhide hgr3) hg4)
              have hown4 := hide ((unhide hown3').on hg4)
              clear hg4 cid cof
              go_wp2_with fail
              refine (unhide hof4).mono ?_
              rintro e w5 ⟨rfl, hg5⟩
              have hgr5 := hide (grown_trans (unhide hgr4) hg5)
              have hown5 := hide ((unhide hown4).on hg5)
              clear hg5 hof4 hown4 hgr4
              go_wp2
              go_roundw
              case rel => exact ⟨k + 1, g3, cap3, L + 1, F, by have := unhide HK; omega, by have := unhide HK; omega, by go_num, rfl, rfl, unhide hFl, unhide hnc3', unhide hown5, unhide hFg, unhide hgr5⟩
              case measure => simp [intOf]; omega
    · have hcond : ¬ ((k : Int) < (len0 : Int) ∧ (k : Int) < 80) := by omega
      by_cases ha : (k : Int) < (len0 : Int)
      · have hb : ¬ (k : Int) < 80 := by omega
        clear hcond hend
        go_wp2
        go_ret
        exact ⟨rfl, grown_below (unhide hgr')⟩
      · clear hcond hend
        go_wp2
        go_ret
        exact ⟨rfl, grown_below (unhide hgr')⟩

set_option maxRecDepth 100000 in
theorem lifted (os : Os) (started : os.Started) (H : Type) (enc : TypeId × Value → H) :
    ReturnsInHanded {} Try.checked os 4 .any (Rows.entsTurnsSpec.pre6 enc Try.prog Try.f4 Rows.entsTurnsRow.domain false) (Rows.entsTurnsSpec.post enc Try.prog Try.f4 false true false false) := by
  refine returnsInHanded_of_change (C := Try.checked) own started (by kernel_rfl) Try.func4
    (ChangeSpec.witness6 (enc := enc) (C := Try.checked) false ⟨#[], #[.slice none 0 0], []⟩ 8 (by kernel_rfl) (by kernel_rfl) (by kernel_rfl) (by kernel_rfl)) ?_
  intro W base args ds gs before hval0 hW hcnd _
  have hval : ∀ (j : Nat) t v, Try.f4.params[j]? = some t → args[j]? = some v → Value.okWide Try.prog W .any base t v := hval0
  have hW' := hW
  obtain ⟨p, q, hA0, hV, rfl, hfz, hnd⟩ := hW
  have hA : DataW.TrodAll enc Try.prog W 0 (fun _ => true) true Try.f4.params.toList args.toList ds p := hA0
  rw [Try.params4] at hA hval
  obtain ⟨v0, vs0, d0, ds0, p0, q0, hargs, rfl, rfl, h0, r0⟩ := trodAll_cons hA
  obtain ⟨rfl, rfl, rfl⟩ := trodAll_nil r0
  obtain rfl : args = #[v0] := by cases args; simp_all
  obtain ⟨rfl, rfl⟩ := trodVars_none hV
  obtain ⟨a0, len0, cap0, rfl⟩ := okWide_slice Try.underlying38 (hval 0 38 v0 rfl rfl)
  have k0 := h0
  have lt0 : ∀ x ∈ p0, x.block < W.heap.size := by obtain ⟨m, hm⟩ := k0; exact DataW.trod_lt m _ _ _ hm
  obtain ⟨z0, w0⟩ : ∃ zs, IsRow .i64 W a0 len0 cap0 zs := by
    obtain ⟨fuel, hf⟩ := h0
    rcases open_ints Try.underlying38 Try.underlying3 (by kernel_rfl) hf with ⟨hcs, _⟩ | ⟨x, l, c, zs, hcs, _, hl, hm, hz, _, hcell, hwz⟩
    · simp [Value.cells] at hcs
      obtain ⟨rfl, rfl, rfl⟩ := hcs
      exact ⟨[], .inl ⟨rfl, rfl, rfl, rfl⟩⟩
    · simp [Value.cells] at hcs
      obtain ⟨rfl, rfl, rfl⟩ := hcs
      exact ⟨zs, .inr ⟨_, rfl, hl, hm, by simpa using hz, hcell, hwz⟩⟩
  clear hA0 hval0
  refine (walk a0 len0 cap0 z0 W w0).mono fun e W' ⟨he, bel⟩ => ?_
  subst he
  exact ⟨_, rfl, _, _, _, [], _, [], hW', trodAll_mk1 (shut_bool Try.underlying4 _), (trodAll_cons_mk (Below.trod laidOut (by kernel_rfl) (of_decide_eq_true (by kernel_rfl)) k0 bel lt0) trodAll_mk0), rfl, bel.frame _, fun h => by cases h⟩

theorem over : Rows.entsTurnsRow.holds Try.pinned (OpenSpec.ofChange Rows.entsTurnsSpec) :=
  OpenClaim.holds_of_wide 4 Try.f4 rfl rfl rfl rfl rfl rfl rfl ⟨rfl, rfl, rfl, rfl, rfl⟩ rfl rfl rfl rfl rfl (by kernel_rfl) Try.func4 (by kernel_rfl)
    (of_decide_eq_true (by kernel_rfl)) (by unfold Func.isWrapper; first | (rw [if_pos (by decide +kernel)]; kernel_rfl) | (rw [if_neg (by decide +kernel)]; exact ⟨rfl, rfl⟩))
    (fun os started H enc _ => lifted os started H enc)

theorem proved : Rows.EntsTurnsSaid := over
#print axioms proved
end Go.Proofs.Ytbooojkhcnfhbaa.entsTurns
