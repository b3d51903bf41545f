/-
  For any seed, any row of numbers and any number of sides the law DiceMixes answers true: what comes is the document's, the row stays as it was, and asked again it is the same; no condition.
-/
import Derived.Test.YtlenpbkedefhjaaRows
import Derived.WalkKit
import Derived.ProofKit
import Derived.OpenShut
import Derived.Test.YtlenpbkedefhjaaDiceKnown
import Derived.BigQuiet
import Derived.WalkSmall
import Derived.Laws.AppendOwnNone
import Derived.ShutString
import Derived.ChangeOld
import Derived.Below
namespace Go.Proofs.Ytlenpbkedefhjaa.diceMixes
open Go.ChangeShapes Go.WideShapes Go.ChangeAt Go.RowKit
open Go.ChangeMaps (open_string shut_string)
set_option linter.unusedVariables false

theorem own : ownKnob Try.prog.godebug = none := by kernel_rfl
theorem laidOut : laidOutB Try.prog = true := by kernel_rfl

/-- WHAT THE WALK IS TOLD OF A SLICE OF INTEGERS THAT CAME IN: it is nil; or it leads to a row of 'cap' cells, the numbers 'zs' (the first 'len' are its elements, the rest its spare room), each fitting its kind. -/
def IsRow (k : IntKind) (w : World) (a : Option Addr) (len cap : Nat) (zs : List Int) : Prop :=
  (a = none ∧ len = 0 ∧ cap = 0 ∧ zs = []) ∨
  ∃ x, a = some x ∧ len ≤ cap ∧ cap ≤ maxLen ∧ zs.length = cap ∧ (∀ i, i < zs.length → w.cell? (x.add i) = some (.int k (zs.getD i 0))) ∧ ∀ n ∈ zs, (Lit.int k n).wf = true

theorem IsRow.row {w : World} {a : Option Addr} {len cap : Nat} {zs : List Int} (h : IsRow .i64 w a len cap zs) : Row w a len (zs.take len) := by
  rcases h with ⟨rfl, rfl, rfl, rfl⟩ | ⟨x, rfl, hl, hm, hz, hcell, _⟩
  · exact ⟨rfl, Nat.zero_le _, .inl rfl⟩
  · refine ⟨by simp; omega, Nat.le_trans hl hm, ?_⟩
    by_cases h0 : len = 0
    · exact .inl h0
    · right
      obtain ⟨b, off, spot⟩ := x
      have hspot : spot = none := by simpa [Addr.add] using World.cell?_spot (hcell 0 (by omega))
      subst hspot
      refine ⟨b, off, rfl, fun i hi => ?_⟩
      have h := hcell i (by omega)
      rw [List.getElem?_take, if_pos hi]
      by_cases hi0 : i = 0
      · subst hi0
        simpa [Addr.add] using h
      · simpa [Addr.add, hi0] using h

theorem info_int : (Try.prog.info? 3).map (fun i => (i.zero, i.size, i.bytes)) = some (some (.int .i64 0), 1, 8) := by kernel_rfl

theorem row_src {w : World} {x : Addr} {len : Nat} {zs : List Int} (h : Row w (some x) len zs) (j : Nat) (u : Value) (hj : (zs.map (Value.int .i64))[j]? = some u) : w.cell? (x.add j) = some u := by
  obtain ⟨hz, hm, h0 | ⟨b, off, ha, hc⟩⟩ := h
  · obtain rfl := List.eq_nil_of_length_eq_zero (hz.trans h0)
    simp at hj
  · simp at ha
    subst ha
    rw [List.getElem?_map] at hj
    obtain ⟨z, hz1, hz2⟩ := Option.map_eq_some_iff.1 hj
    have hlt : j < zs.length := (List.getElem?_eq_some_iff.1 hz1).1
    have := hc j (by omega)
    rw [hz1] at this
    rw [← hz2]
    by_cases hj0 : j = 0
    · subst hj0
      simpa [Addr.add] using this
    · simpa [Addr.add, hj0] using this

theorem own_row {w : World} {base : Nat} {v : Value} {len : Nat} {zs : List Int} (h : w.ownsRow base 3 1 v len (zs.map (Value.int .i64))) (hm : len ≤ maxLen) : ∃ a cap, v = .slice a len cap ∧ Row w a len zs := by
  have h1 := h.1
  rcases h.2 with ⟨rfl, rfl⟩ | ⟨g, cap, cur, rfl, _, _, _, _, _, _⟩
  · exact ⟨none, 0, rfl, by simpa using h1, hm, .inl rfl⟩
  · refine ⟨_, cap, rfl, by simpa using h1, hm, .inr ⟨g, 0, rfl, fun i hi => ?_⟩⟩
    have := h.cellAt i (by omega)
    simp at h1
    rw [Nat.zero_add, this, List.getElem?_map, List.getElem?_eq_getElem (by omega)]
    rfl

theorem one_cells (zs : List Int) : ∀ u ∈ zs.map (Value.int .i64), u.oneCell' = true := by
  intro u hu
  obtain ⟨z, _, rfl⟩ := List.mem_map.1 hu
  rfl

theorem die_ways (n seed : Int) (zs : List Int) : (n < 1 ∧ Dc.die n seed zs = 0) ∨ (1 ≤ n ∧ 0 ≤ Dc.die n seed zs ∧ Dc.die n seed zs < n) := by
  by_cases h : n < 1
  · exact .inl ⟨h, Dc.die_low n seed zs h⟩
  · exact .inr ⟨by omega, Dc.die_bd n seed zs (by omega)⟩

theorem row_drew {w : World} {a : Option Addr} {len : Nat} {zs : List Int} (h : Row w a len zs) (n : Nat) : Row (w.drewN n) a len zs := h.kept (below_drewN (Below.refl _ _) n)

set_option maxHeartbeats 1600000 in

theorem walk (a0 : Int) (a1 : Option Addr) (len1 cap1 : Nat) (z1 : List Int) (a2 : Int) (w : World) (w0 : (Lit.int .i64 a0).wf = true) (w1 : IsRow .i64 w a1 len1 cap1 z1) (w2 : (Lit.int .i64 a2).wf = true) :
    Calls Try.prog 3 #[.int .i64 a0, .slice a1 len1 cap1, .int .i64 a2] w fun e w' => e = .returned (.bool true) ∧ Below w.heap.size w w' := by
  have hrow := w1.row
  have hn := (bounds_i64 w2).2
  obtain ⟨i0, hi, hz0, hz1, hz2⟩ := info_parts info_int
  by_cases hlen : (1000 : Int) < (len1 : Int)
  · clear hi hz0 hz1 hz2 w0 w1 w2 hrow
    go_enter Try.func3, Try.ntmps3
    go_wp2_with fail
    refine (known_any _).mono ?_
    rintro e wk ⟨rfl, bel⟩
    go_wp2
    go_ret
    exact ⟨rfl, bel⟩
  · rcases w1 with ⟨rfl, rfl, rfl, rfl⟩ | ⟨x, rfl, _, _, _, _, _⟩
    · clear w0 w2 hlen
      generalize List.take 0 [] = zs at hrow
      have hD := hide (die_ways a2 a0 zs)
      go_enter Try.func3, Try.ntmps3
      go_wp2_with fail
      refine (known_any _).mono ?_
      rintro e wk ⟨rfl, bel⟩
      have hl := hide ((hrow.kept bel).kept ((Below.refl _ _).alloc (Nat.le_refl _) (.cells #[] 3)))
      have hmine := hide (show Row (wk.alloc (.cells #[] 3)) (some ⟨wk.heap.size, 0, none⟩) 0 zs from ⟨hrow.1, Nat.zero_le _, .inl rfl⟩)
      have bel1 : Below w.heap.size w (wk.alloc (.cells #[] 3)) := bel.alloc bel.size _
      clear hrow
      go_wp2_with (at_builtin; refine wpList_append_own_none rfl _ _ 22 rfl wk.heap.size 3 i0 1 Try.underlying22 hi _ _ _ rfl (World.ownsRow_made _ _ _ (Nat.le_refl _) (by decide) (by simp)) rfl ?_)
      clear hi hz0 hz1 hz2
      refine (mix_row _ _ _ _ _ _ (unhide hmine)).mono ?_
      rintro e w2 ⟨rfl, rfl⟩
      go_wp2_with fail
      refine (die_row _ _ _ _ _ _ _ (unhide hmine) hn).mono ?_
      rintro e w2 ⟨rfl, rfl⟩
      go_wp2_with fail
      refine wp_loop_rounds 1 ?_
      rw [rounds_succ]
      go_wp2_with fail
      refine (refMix_row _ _ _ _ _ _ (unhide hl)).mono ?_
      rintro e w3 ⟨rfl, rfl⟩
      go_wp2_with fail
      refine (refDie_row _ _ _ _ _ _ _ (unhide hl) hn).mono ?_
      rintro e w3 ⟨rfl, rfl⟩
      go_wp2_with fail
      refine (mix_row _ _ _ _ _ _ (unhide hl)).mono ?_
      rintro e w3 ⟨rfl, rfl⟩
      rcases unhide hD with ⟨d1, d2⟩ | ⟨d1, d2, d3⟩
      · go_wp2
        go_ret
        exact ⟨rfl, bel1⟩
      · go_wp2
        go_ret
        exact ⟨rfl, bel1⟩
    · clear w0 w2
      generalize z1.take len1 = zs at hrow
      have hz : zs.length = len1 := hrow.1
      have hD := hide (die_ways a2 a0 zs)
      go_enter Try.func3, Try.ntmps3
      go_wp2_with fail
      refine (known_any _).mono ?_
      rintro e wk ⟨rfl, bel⟩
      replace hrow := hide (hrow.kept bel)
      have hwk := bel.size
      go_wp2_with (at_builtin; refine wpList_append_own _ rfl _ _ 22 rfl wk.heap.size 3 i0 (.int .i64 0) 1 8 Try.underlying22 hi hz0 hz1 hz2 rfl (by decide) _ _ _ rfl (World.ownsRow_made _ _ _ (Nat.le_refl _) (by decide) (by simp)) x len1 cap1 (zs.map (Value.int .i64)) rfl ?c1 ?c2 ?c3 ?c4 ?c5 ?c6 ?_)
      case c1 => simp [hz]
      case c2 => exact row_src ((unhide hrow).kept ((Below.refl _ _).alloc (Nat.le_refl _) _))
      case c3 => exact one_cells zs
      case c4 => unfold maxLen; omega
      case c5 => omega
      case c6 => simp
      intro v' w1 hown hgrow _
      obtain ⟨a', cap', rfl, hmine⟩ := own_row hown (by unfold maxLen; omega)
      have bel0 : Below wk.heap.size wk w1 := ((Below.refl wk.heap.size wk).alloc (Nat.le_refl _) _).grown hgrow (by simp) (by intro k hk; simp [Value.ownBlock] at hk; omega)
      have bel1 : Below w.heap.size w w1 := bel.trans (bel0.mono hwk)
      replace hmine := hide hmine
      have hl := hide ((unhide hrow).kept bel0)
      clear hown hgrow bel0 hrow hi hz0 hz1 hz2
      go_wp2_with fail
      refine (mix_row _ _ _ _ _ _ (unhide hmine)).mono ?_
      rintro e w2 ⟨rfl, rfl⟩
      go_wp2_with fail
      refine (die_row _ _ _ _ _ _ _ (unhide hmine) hn).mono ?_
      rintro e w2 ⟨rfl, rfl⟩
      go_wp2_with fail
      go_loopw [10] (fun i wr => ∃ k : Nat, k ≤ len1 ∧ i = .int .i64 k ∧ Row wr a' len1 zs ∧ Row wr (some x) len1 zs ∧ Below w.heap.size w wr) (fun i _ => len1 - (intOf i).toNat)
      case atStart => exact ⟨0, Nat.zero_le _, rfl, unhide hmine, unhide hl, bel1⟩
      case round =>
        obtain ⟨k, hk, rfl, hm', hl', hb⟩ := hrel
        have hm2 := hide hm'
        have hl2 := hide hl'
        clear hm' hl' hmine hl bel1 bel
        go_wp2_with fail
        · have hlt : k < len1 := by omega
          have hlt2 : (k : Int) < (len1 : Int) := by omega
          obtain ⟨_, _, h0 | ⟨b1, o1, e1, c1⟩⟩ := unhide hm2
          · exact absurd hlt (by omega)
          obtain ⟨_, _, h0 | ⟨b2, o2, e2, c2⟩⟩ := unhide hl2
          · exact absurd hlt (by omega)
          have g1 := c1 k hlt
          have g2 := c2 k hlt
          clear c1 c2
          subst e1
          cases e2
          go_quiet (fail)
          go_wp2
          go_roundw
          case rel => exact ⟨k + 1, by omega, by go_num, row_drew (unhide hm2) _, row_drew (unhide hl2) _, below_drewN hb _⟩
          case measure => simp [intOf]; omega
        · refine (refMix_row _ _ _ _ _ _ (unhide hl2)).mono ?_
          rintro e w3 ⟨rfl, rfl⟩
          go_wp2_with fail
          refine (refDie_row _ _ _ _ _ _ _ (unhide hl2) hn).mono ?_
          rintro e w3 ⟨rfl, rfl⟩
          go_wp2_with fail
          refine (mix_row _ _ _ _ _ _ (unhide hl2)).mono ?_
          rintro e w3 ⟨rfl, rfl⟩
          rcases unhide hD with ⟨d1, d2⟩ | ⟨d1, d2, d3⟩
          · go_wp2
            go_ret
            exact ⟨rfl, hb⟩
          · go_wp2
            go_ret
            exact ⟨rfl, hb⟩

set_option maxRecDepth 100000 in
theorem lifted (os : Os) (started : os.Started) (H : Type) (enc : TypeId × Value → H) :
    ReturnsInHanded {} Try.checked os 3 .any (Rows.diceMixesSpec.pre6 enc Try.prog Try.f3 Rows.diceMixesRow.domain false) (Rows.diceMixesSpec.post enc Try.prog Try.f3 false true false false) := by
  refine returnsInHanded_of_change (C := Try.checked) own started (by kernel_rfl) Try.func3
    (ChangeSpec.witness6 (enc := enc) (C := Try.checked) false ⟨#[], #[.int .i64 0, .slice none 0 0, .int .i64 0], []⟩ 8 (by kernel_rfl) (by kernel_rfl) (by kernel_rfl) (by kernel_rfl)) ?_
  intro W base args ds gs before hval0 hW hcnd _
  have hval : ∀ (j : Nat) t v, Try.f3.params[j]? = some t → args[j]? = some v → Value.okWide Try.prog W .any base t v := hval0
  have hW' := hW
  obtain ⟨p, q, hA0, hV, rfl, hfz, hnd⟩ := hW
  have hA : DataW.TrodAll enc Try.prog W 0 (fun _ => true) true Try.f3.params.toList args.toList ds p := hA0
  rw [Try.params3] at hA hval
  obtain ⟨v0, vs0, d0, ds0, p0, q0, hargs, rfl, rfl, h0, r0⟩ := trodAll_cons hA
  obtain ⟨v1, vs1, d1, ds1, p1, q1, rfl, rfl, rfl, h1, r1⟩ := trodAll_cons r0
  obtain ⟨v2, vs2, d2, ds2, p2, q2, rfl, rfl, rfl, h2, r2⟩ := trodAll_cons r1
  obtain ⟨rfl, rfl, rfl⟩ := trodAll_nil r2
  obtain rfl : args = #[v0, v1, v2] := by cases args; simp_all
  obtain ⟨rfl, rfl⟩ := trodVars_none hV
  obtain ⟨a0, rfl, rfl, rfl, w0⟩ := open_int Try.underlying2 (hval 0 2 v0 rfl rfl) h0
  obtain ⟨a1, len1, cap1, rfl⟩ := okWide_slice Try.underlying22 (hval 1 22 v1 rfl rfl)
  have k1 := h1
  have lt1 : ∀ x ∈ p1, x.block < W.heap.size := by obtain ⟨m, hm⟩ := k1; exact DataW.trod_lt m _ _ _ hm
  obtain ⟨z1, w1⟩ : ∃ zs, IsRow .i64 W a1 len1 cap1 zs := by
    obtain ⟨fuel, hf⟩ := h1
    rcases open_ints Try.underlying22 Try.underlying3 (by kernel_rfl) hf with ⟨hcs, _⟩ | ⟨x, l, c, zs, hcs, _, hl, hm, hz, _, hcell, hwz⟩
    · simp [Value.cells] at hcs
      obtain ⟨rfl, rfl, rfl⟩ := hcs
      exact ⟨[], .inl ⟨rfl, rfl, rfl, rfl⟩⟩
    · simp [Value.cells] at hcs
      obtain ⟨rfl, rfl, rfl⟩ := hcs
      exact ⟨zs, .inr ⟨_, rfl, hl, hm, by simpa using hz, hcell, hwz⟩⟩
  obtain ⟨a2, rfl, rfl, rfl, w2⟩ := open_int Try.underlying3 (hval 2 3 v2 rfl rfl) h2
  clear hA0 hval0
  refine (walk a0 a1 len1 cap1 z1 a2 W w0 w1 w2).mono fun e W' ⟨he, bel⟩ => ?_
  subst he
  exact ⟨_, rfl, _, _, _, [], _, [], hW', trodAll_mk1 (shut_bool Try.underlying4 _), (trodAll_cons_mk (shut_int Try.underlying2 w0) (trodAll_cons_mk (Below.trod laidOut (by kernel_rfl) (of_decide_eq_true (by kernel_rfl)) k1 bel lt1) (trodAll_cons_mk (shut_int Try.underlying3 w2) trodAll_mk0))), rfl, bel.frame _, fun h => by cases h⟩

theorem over : Rows.diceMixesRow.holds Try.pinned (OpenSpec.ofChange Rows.diceMixesSpec) :=
  OpenClaim.holds_of_wide 3 Try.f3 rfl rfl rfl rfl rfl rfl rfl ⟨rfl, rfl, rfl, rfl, rfl⟩ rfl rfl rfl rfl rfl (by kernel_rfl) Try.func3 (by kernel_rfl)
    (of_decide_eq_true (by kernel_rfl)) (by unfold Func.isWrapper; first | (rw [if_pos (by decide +kernel)]; kernel_rfl) | (rw [if_neg (by decide +kernel)]; exact ⟨rfl, rfl⟩))
    (fun os started H enc _ => lifted os started H enc)

theorem proved : Rows.DiceMixesSaid := over
#print axioms proved
end Go.Proofs.Ytlenpbkedefhjaa.diceMixes
