/-
  For any frame and any numbers the law TableHost answers true: the host's seat is taken once, is never given up, and a seat that is taken is not taken again; no condition.
-/
import Derived.Test.YtiegccdgoemamabRows
import Derived.WalkKit
import Derived.ProofKit
import Derived.OpenShut
import Derived.Test.YtiegccdgoemamabTableKnown
import Derived.ShutString
import Derived.ChangeOld
import Derived.Below
namespace Go.Proofs.Ytiegccdgoemamab.tableHost
open Go.ChangeShapes Go.WideShapes Go.ChangeAt Go.RowKit
open Go.ChangeMaps (open_string shut_string)
set_option linter.unusedVariables false

theorem own : ownKnob Try.prog.godebug = none := by kernel_rfl
theorem laidOut : laidOutB Try.prog = true := by kernel_rfl

/-- WHAT THE WALK IS TOLD OF A SLICE OF INTEGERS THAT CAME IN: it is nil; or it leads to a row of 'cap' cells, the numbers 'zs' (the first 'len' are its elements, the rest its spare room), each fitting its kind. -/
def IsRow (k : IntKind) (w : World) (a : Option Addr) (len cap : Nat) (zs : List Int) : Prop :=
  (a = none ∧ len = 0 ∧ cap = 0 ∧ zs = []) ∨
  ∃ x, a = some x ∧ len ≤ cap ∧ cap ≤ maxLen ∧ zs.length = cap ∧ (∀ i, i < zs.length → w.cell? (x.add i) = some (.int k (zs.getD i 0))) ∧ ∀ n ∈ zs, (Lit.int k n).wf = true

theorem IsRow.vec {k : IntKind} {w : World} {a : Option Addr} {len cap : Nat} {zs : List Int} (h : IsRow k w a len cap zs) : Vec w.heap.size w a len (fun i => .int k (zs[i]?.getD 0)) := by
  rcases h with ⟨rfl, rfl, rfl, rfl⟩ | ⟨x, rfl, hl, hm, hz, hcell, _⟩
  · exact ⟨Nat.zero_le _, .inl rfl⟩
  · refine ⟨Nat.le_trans hl hm, ?_⟩
    by_cases h0 : len = 0
    · exact .inl h0
    · right
      obtain ⟨b, off, spot⟩ := x
      have hc0 := hcell 0 (by omega)
      have hspot : spot = none := by simpa [Addr.add] using World.cell?_spot hc0
      subst hspot
      refine ⟨b, off, rfl, ?_, fun i hi => ?_⟩
      · have h := Go.block_lt_of_cell hc0
        simpa [Addr.add] using h
      · have h := hcell i (by omega)
        by_cases hi0 : i = 0
        · subst hi0
          simpa [Addr.add] using h
        · simpa [Addr.add, hi0] using h

theorem IsRow.long {w : World} {a : Option Addr} {len cap : Nat} {zs : List Int} (h : IsRow .i64 w a len cap zs) (i : Nat) : -9223372036854775808 ≤ zs[i]?.getD 0 ∧ zs[i]?.getD 0 ≤ 9223372036854775807 := by
  rcases h with ⟨_, _, _, rfl⟩ | ⟨_, _, _, _, _, _, hw⟩
  · simp
  · by_cases hi : i < zs.length
    · have h := hw zs[i] (List.getElem_mem hi)
      simp only [Lit.wf, Bool.and_eq_true, decide_eq_true_eq, show IntKind.i64.min = -9223372036854775808 from by decide, show IntKind.i64.max = 9223372036854775807 from by decide] at h
      rw [List.getElem?_eq_getElem hi]
      exact h
    · rw [List.getElem?_eq_none (by omega)]
      exact ⟨by decide, by decide⟩

theorem Tb.host_no (F z l : Int) (h : z < 1) (k : Int) (hk : k = 2 ∨ k = 3) : Tb.err (Tb.put Tb.zero 0 (Tb.span 0 F)) 1 k 0 z l = 1 := by
  unfold Tb.err
  rw [if_neg (fun h => h hk), if_neg (by omega), if_pos h]

theorem Tb.host_ret (F z l : Int) (h : ¬ z < 1) : Tb.err (Tb.put Tb.zero 0 (Tb.span 0 F)) 1 3 0 z l = 16 := by
  unfold Tb.err
  rw [if_neg (by omega), if_neg (by omega), if_neg h, if_pos rfl]
  rfl

theorem Tb.host_seat (F z l : Int) (hF : F ≤ 1000) (h : ¬ z < 1) : Tb.err (Tb.put Tb.zero 0 (Tb.span 0 F)) 1 2 0 z l = 16 := by
  unfold Tb.err
  rw [if_neg (by omega), if_neg (by omega), if_neg h, if_neg (by omega)]
  have hat : Tb.at (Tb.put Tb.zero 0 (Tb.span 0 F)) 0 9223372036854775807 1 = 0 := Tb.at_hit (k := 0) ⟨rfl, show F ≤ 9223372036854775807 by omega⟩
  unfold Tb.free
  rw [hat]
  rfl

set_option maxRecDepth 8000 in
set_option maxHeartbeats 6400000 in

theorem walk (a0 : Int) (a1 : Option Addr) (len1 cap1 : Nat) (z1 : List Int) (w : World) (w0 : (Lit.int .i64 a0).wf = true) (w1 : IsRow .i64 w a1 len1 cap1 z1) :
    Calls Try.prog 4 #[.int .i64 a0, .slice a1 len1 cap1] w fun e w' => e = .returned (.bool true) ∧ Below w.heap.size w w' := by
  have hv := hide w1.vec
  have hz := hide w1.long
  have hm : len1 ≤ 9223372036854775807 := w1.vec.1
  clear w0 w1
  have hFlo := Int.emod_nonneg a0 (b := 1000) (by decide)
  have hFhi := Int.emod_lt_of_pos a0 (b := 1000) (by decide)
  have cw := hide fun x => within16_any a0 1000 x (by decide) (by decide)
  obtain ⟨m, hmm⟩ : ∃ m, a0 % 1000 = m := ⟨_, rfl⟩
  rw [hmm] at cw hFlo hFhi
  clear hmm
  obtain ⟨F, hF⟩ : ∃ F, 1 + m = F := ⟨_, rfl⟩
  have hFb : 1 ≤ F ∧ F ≤ 1000 := by omega
  have HF := hide hFb
  have c1 := hide fun x => tbAdd_ok none 0 0 Tb.zero 2 0 0 F 0 x (Tb.noTab x _) (by omega) (by omega) (Tb.first 0 F (by decide) (by decide) (by omega)) 1 (Tb.put Tb.zero 0 (Tb.span 0 F)) rfl
  obtain ⟨E, hE⟩ : ∃ E, Tb.put Tb.zero 0 (Tb.span 0 F) = E := ⟨_, rfl⟩
  rw [hE] at c1
  have e1 := hide (show ∀ z l k, z < 1 → (k = 2 ∨ k = 3) → Tb.err E 1 k 0 z l = 1 from fun z l k h hk => hE ▸ Tb.host_no F z l h k hk)
  have e2 := hide (show ∀ z l, ¬ z < 1 → Tb.err E 1 3 0 z l = 16 from fun z l h => hE ▸ Tb.host_ret F z l h)
  have e3 := hide (show ∀ z l, ¬ z < 1 → Tb.err E 1 2 0 z l = 16 from fun z l h => hE ▸ Tb.host_seat F z l (by omega) h)
  clear hE
  go_enter Try.func4, Try.ntmps4
  go_wp2_with fail
  refine (known16_any _).mono ?_
  rintro e wk ⟨rfl, hgk⟩
  have HK := hide hgk
  clear hgk
  go_wp2_with fail
  refine (unhide cw _).mono ?_
  rintro e wk' ⟨rfl, rfl⟩
  clear cw
  go_wp2_with fail
  clear hF hFlo hFhi
  refine (unhide c1 _).mono ?_
  rintro e x ⟨a, c, rfl, ht, hx⟩
  have HT := hide ht
  have HX := hide (grown_trans (unhide HK) hx)
  clear c1 ht hx HK
  go_wp2_with fail
  go_loopw [7] (fun vi wr => ∃ k : Nat, k ≤ len1 ∧ vi = .int .i64 (k : Int) ∧ Hid (w.grownBy wr none ∧ Tb.Tab wr a 1 c E)) (fun vi _ => len1 + 1 - (intOf vi).toNat)
  case atStart => exact ⟨0, by omega, rfl, unhide HX, unhide HT⟩
  case round =>
    clear HT HX
    obtain ⟨k, hk, rfl, hrel⟩ := hrel
    by_cases hlt : k < len1 ∧ k < 20
    · obtain ⟨hl1, hl2⟩ := hlt
      obtain ⟨b, off, rfl, hb, hc⟩ := (unhide hv).at hl1
      have hl1' : (k : Int) < (len1 : Int) := by omega
      have hl2' : (k : Int) < 20 := by omega
      have hc' : wr.cell? ⟨b, off + k, none⟩ = some (.int .i64 (z1[k]?.getD 0)) := (grown_cell (unhide hrel).1 b _ hb (by simp)).trans hc
      have hzb := (unhide hz k).2
      have HH := hide fun y (hg : wr.grownBy y none) => (grown_cell (grown_trans (unhide hrel).1 hg) b (off + k) hb (by simp)).trans hc
      obtain ⟨z, hzz⟩ : ∃ z, z1[k]?.getD 0 = z := ⟨_, rfl⟩
      rw [hzz] at hc' hzb HH
      have HKK := hide hl1
      have HZB := hide hzb
      clear hc hb hzz hzb hl1 hl2 hk
      by_cases h1 : z < 1
      · have h1' : ¬ 0 < z := by omega
        go_wp2_with fail
        refine (tbAdd_no a 1 c E 3 0 0 z F wr (unhide hrel).2 (by omega) (unhide HZB) 1 (unhide e1 z F 3 (by omega) (.inr rfl)) (by decide)).mono ?_
        rintro e y ⟨rfl, hy⟩
        have HY := hide hy
        clear hc' hy
        have hc' := unhide HH y (unhide HY)
        go_wp2_with fail
        refine (tbAdd_no a 1 c E 2 0 0 z 0 y ((unhide hrel).2.on (unhide HY)) (by omega) (unhide HZB) 1 (unhide e1 z 0 2 (by omega) (.inl rfl)) (by decide)).mono ?_
        rintro e x ⟨rfl, hx⟩
        have HX := hide (grown_trans (unhide HY) hx)
        clear hc' hx
        have hc' := unhide HH x (unhide HX)
        go_wp2
        go_roundw
        case rel => exact ⟨k + 1, by have := unhide HKK; omega, by go_num, grown_trans (unhide hrel).1 (unhide HX), (unhide hrel).2.on (unhide HX)⟩
        case measure => simp [intOf]; have := unhide HKK; omega
      · have h1' : 0 < z := by omega
        go_wp2_with fail
        refine (tbAdd_no a 1 c E 3 0 0 z F wr (unhide hrel).2 (by omega) (unhide HZB) 16 (unhide e2 z F (by omega)) (by decide)).mono ?_
        rintro e y ⟨rfl, hy⟩
        have HY := hide hy
        clear hc' hy
        have hc' := unhide HH y (unhide HY)
        go_wp2_with fail
        refine (tbAdd_no a 1 c E 2 0 0 z 0 y ((unhide hrel).2.on (unhide HY)) (by omega) (unhide HZB) 16 (unhide e3 z 0 (by omega)) (by decide)).mono ?_
        rintro e x ⟨rfl, hx⟩
        have HX := hide (grown_trans (unhide HY) hx)
        clear hc' hx
        have hc' := unhide HH x (unhide HX)
        go_wp2
        go_roundw
        case rel => exact ⟨k + 1, by have := unhide HKK; omega, by go_num, grown_trans (unhide hrel).1 (unhide HX), (unhide hrel).2.on (unhide HX)⟩
        case measure => simp [intOf]; have := unhide HKK; omega
    · by_cases hl : k < len1
      · have hl' : (k : Int) < (len1 : Int) := by omega
        have h20 : ¬ (k : Int) < 20 := by omega
        clear hlt hl hk
        go_wp2
        go_ret
        exact ⟨rfl, none_below (unhide hrel).1⟩
      · have hl' : ¬ (k : Int) < (len1 : Int) := by omega
        clear hlt hl hk
        go_wp2
        go_ret
        exact ⟨rfl, none_below (unhide hrel).1⟩

set_option maxRecDepth 100000 in
theorem lifted (os : Os) (started : os.Started) (H : Type) (enc : TypeId × Value → H) :
    ReturnsInHanded {} Try.checked os 4 .any (Rows.tableHostSpec.pre6 enc Try.prog Try.f4 Rows.tableHostRow.domain false) (Rows.tableHostSpec.post enc Try.prog Try.f4 false true false false) := by
  refine returnsInHanded_of_change (C := Try.checked) own started (by kernel_rfl) Try.func4
    (ChangeSpec.witness6 (enc := enc) (C := Try.checked) false ⟨#[], #[.int .i64 0, .slice none 0 0], []⟩ 8 (by kernel_rfl) (by kernel_rfl) (by kernel_rfl) (by kernel_rfl)) ?_
  intro W base args ds gs before hval0 hW hcnd _
  have hval : ∀ (j : Nat) t v, Try.f4.params[j]? = some t → args[j]? = some v → Value.okWide Try.prog W .any base t v := hval0
  have hW' := hW
  obtain ⟨p, q, hA0, hV, rfl, hfz, hnd⟩ := hW
  have hA : DataW.TrodAll enc Try.prog W 0 (fun _ => true) true Try.f4.params.toList args.toList ds p := hA0
  rw [Try.params4] at hA hval
  obtain ⟨v0, vs0, d0, ds0, p0, q0, hargs, rfl, rfl, h0, r0⟩ := trodAll_cons hA
  obtain ⟨v1, vs1, d1, ds1, p1, q1, rfl, rfl, rfl, h1, r1⟩ := trodAll_cons r0
  obtain ⟨rfl, rfl, rfl⟩ := trodAll_nil r1
  obtain rfl : args = #[v0, v1] := by cases args; simp_all
  obtain ⟨rfl, rfl⟩ := trodVars_none hV
  obtain ⟨a0, rfl, rfl, rfl, w0⟩ := open_int Try.underlying3 (hval 0 3 v0 rfl rfl) h0
  obtain ⟨a1, len1, cap1, rfl⟩ := okWide_slice Try.underlying22 (hval 1 22 v1 rfl rfl)
  have k1 := h1
  have lt1 : ∀ x ∈ p1, x.block < W.heap.size := by obtain ⟨m, hm⟩ := k1; exact DataW.trod_lt m _ _ _ hm
  obtain ⟨z1, w1⟩ : ∃ zs, IsRow .i64 W a1 len1 cap1 zs := by
    obtain ⟨fuel, hf⟩ := h1
    rcases open_ints Try.underlying22 Try.underlying3 (by kernel_rfl) hf with ⟨hcs, _⟩ | ⟨x, l, c, zs, hcs, _, hl, hm, hz, _, hcell, hwz⟩
    · simp [Value.cells] at hcs
      obtain ⟨rfl, rfl, rfl⟩ := hcs
      exact ⟨[], .inl ⟨rfl, rfl, rfl, rfl⟩⟩
    · simp [Value.cells] at hcs
      obtain ⟨rfl, rfl, rfl⟩ := hcs
      exact ⟨zs, .inr ⟨_, rfl, hl, hm, by simpa using hz, hcell, hwz⟩⟩
  clear hA0 hval0
  refine (walk a0 a1 len1 cap1 z1 W w0 w1).mono fun e W' ⟨he, bel⟩ => ?_
  subst he
  exact ⟨_, rfl, _, _, _, [], _, [], hW', trodAll_mk1 (shut_bool Try.underlying4 _), (trodAll_cons_mk (shut_int Try.underlying3 w0) (trodAll_cons_mk (Below.trod laidOut (by kernel_rfl) (of_decide_eq_true (by kernel_rfl)) k1 bel lt1) trodAll_mk0)), rfl, bel.frame _, fun h => by cases h⟩

theorem over : Rows.tableHostRow.holds Try.pinned (OpenSpec.ofChange Rows.tableHostSpec) :=
  OpenClaim.holds_of_wide 4 Try.f4 rfl rfl rfl rfl rfl rfl rfl ⟨rfl, rfl, rfl, rfl, rfl⟩ rfl rfl rfl rfl rfl (by kernel_rfl) Try.func4 (by kernel_rfl)
    (of_decide_eq_true (by kernel_rfl)) (by unfold Func.isWrapper; first | (rw [if_pos (by decide +kernel)]; kernel_rfl) | (rw [if_neg (by decide +kernel)]; exact ⟨rfl, rfl⟩))
    (fun os started H enc _ => lifted os started H enc)

theorem proved : Rows.TableHostSaid := over
#print axioms proved
end Go.Proofs.Ytiegccdgoemamab.tableHost
