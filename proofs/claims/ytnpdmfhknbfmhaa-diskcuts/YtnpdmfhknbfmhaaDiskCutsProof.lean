/-
  Behind Cut(n) just n writes are done; those that may not be count for nothing; then the power is gone, till Start: for every number and order, at this commit; no condition.
-/
import Derived.Test.YtnpdmfhknbfmhaaRows
import Derived.WalkKit
import Derived.ProofKit
import Derived.OpenShut
import Derived.Test.YtnpdmfhknbfmhaaDiskMade
import Derived.BigQuiet
import Derived.Deep.Grids
import Derived.ShutString
import Derived.ChangeOld
import Derived.Below
namespace Go.Proofs.Ytnpdmfhknbfmhaa.diskCuts
open Go.ChangeShapes Go.WideShapes Go.ChangeAt Go.RowKit
open Go.ChangeMaps (open_string shut_string)
set_option linter.unusedVariables false

theorem own : ownKnob Try.prog.godebug = none := by kernel_rfl
theorem laidOut : laidOutB Try.prog = true := by kernel_rfl

/-- WHAT THE WALK IS TOLD OF A SLICE OF INTEGERS THAT CAME IN: it is nil; or it leads to a row of 'cap' cells, the numbers 'zs' (the first 'len' are its elements, the rest its spare room), each fitting its kind. -/
def IsRow (k : IntKind) (w : World) (a : Option Addr) (len cap : Nat) (zs : List Int) : Prop :=
  (a = none ∧ len = 0 ∧ cap = 0 ∧ zs = []) ∨
  ∃ x, a = some x ∧ len ≤ cap ∧ cap ≤ maxLen ∧ zs.length = cap ∧ (∀ i, i < zs.length → w.cell? (x.add i) = some (.int k (zs.getD i 0))) ∧ ∀ n ∈ zs, (Lit.int k n).wf = true

/-- A slice of bools that came in: nil; or a row of 'cap' cells. -/
def IsBols (w : World) (a : Option Addr) (len cap : Nat) (f : Nat → Bool) : Prop :=
  (a = none ∧ len = 0 ∧ cap = 0) ∨ ∃ x, a = some x ∧ len ≤ cap ∧ cap ≤ maxLen ∧ ∀ i, i < cap → w.cell? (x.add i) = some (.bool (f i))

theorem IsBols.at {w : World} {a : Option Addr} {len cap : Nat} {f : Nat → Bool} (h : IsBols w a len cap f) {i : Nat} (hi : i < len) : ∃ b off, a = some ⟨b, off, none⟩ ∧ b < w.heap.size ∧ ∀ j, j < len → w.cell? ⟨b, off + j, none⟩ = some (.bool (f j)) := by
  rcases h with ⟨rfl, rfl, rfl⟩ | ⟨x, rfl, hl, hm, hc⟩
  · omega
  · obtain ⟨b, off, spot⟩ := x
    have hc0 := hc 0 (by omega)
    have hspot : spot = none := by simpa [Addr.add] using World.cell?_spot hc0
    subst hspot
    have h0 := hc0
    rw [Go.WideShapes.add_plain] at h0
    exact ⟨b, off, rfl, Go.block_lt_of_cell h0, fun j hj => by have := hc j (by omega); rwa [Go.WideShapes.add_plain] at this⟩

theorem IsBols.len {w : World} {a : Option Addr} {len cap : Nat} {f : Nat → Bool} (h : IsBols w a len cap f) : len ≤ maxLen := by
  rcases h with ⟨rfl, rfl, rfl⟩ | ⟨x, rfl, hl, hm, hc⟩
  · exact Nat.zero_le _
  · omega

theorem has49 : Dk.has 4 9 = false := by decide

theorem has4 (i : Nat) : Dk.has 4 ((i % 4 : Nat) : Int) = true := by
  unfold Dk.has
  simp only [decide_eq_true_eq]
  omega

set_option maxRecDepth 8000 in
set_option maxHeartbeats 3200000 in

theorem walk (a0 : Int) (a1 : Option Addr) (len1 cap1 : Nat) (z1 : Nat → Bool) (w : World) (w0 : (Lit.int .i64 a0).wf = true) (w1 : IsBols w a1 len1 cap1 z1) :
    Calls Try.prog 5 #[.int .i64 a0, .slice a1 len1 cap1] w fun e w' => e = .returned (.bool true) ∧ Below w.heap.size w w' := by
  have hl1 : (len1 : Int) ≤ 9223372036854775807 := by have := w1.len; unfold maxLen at this; omega
  have W1 := hide w1
  clear w0 w1
  have ck := hide (known13_any w)
  obtain ⟨Z, hmk, hZ⟩ := Dk.made
  have HZ := hide hZ
  clear hZ
  go_enter Try.func5, Try.ntmps5
  go_wp2_with fail
  refine (unhide ck).mono ?_
  rintro e x1 ⟨rfl, hg1⟩
  have G1 := hide hg1
  have cN := hide (Dk.mine_new 4 x1 (by omega) (by omega))
  clear ck hg1
  go_wp2_with fail
  refine (unhide cN).mono ?_
  rintro e x2 ⟨p, b, rfl, hM, hg2⟩
  have hlo := hide (And.intro (Nat.le_trans (unhide G1).size hM.low) (Nat.le_trans (unhide G1).size hM.lowb))
  have T2 := hide (Turn.new (B := fun _ => False) (grown_trans (unhide G1) hg2))
  have M2 := hide hM
  have cw := hide (within13_any a0 20 x2 (by omega) (by omega))
  have m0 : 0 ≤ a0 % 20 := Int.emod_nonneg _ (by omega)
  have m1 : a0 % 20 < 20 := Int.emod_lt_of_pos _ (by omega)
  obtain ⟨n, hn⟩ : ∃ n : Nat, a0 % 20 = (n : Int) := ⟨(a0 % 20).toNat, by omega⟩
  rw [hn] at cw m1
  clear cN hg2 hM m0 hn
  go_wp2_with fail
  refine (unhide cw).mono ?_
  rintro e wq ⟨rfl, hq'⟩
  obtain rfl : x2 = wq := hq'.symm
  have cC := hide (Dk.mine_cut _ p b 4 _ n x2 (unhide M2))
  clear cw M2
  go_wp2_with fail
  refine (unhide cC).mono ?_
  rintro e x3 ⟨rfl, hM, ht⟩
  have H0 : Hid (∃ s : Dk.St, Dk.Mine x3 x1.heap.size p b 4 s ∧ s.done = 0 ∧ s.left = (n : Int) - (0 : Nat) ∧ (s.dead = true → 0 = n) ∧ Turn (fun _ => False) w x3) :=
    ⟨_, hM, rfl, by simp, (fun q => by cases q), Dk.still (unhide T2) ht (unhide hlo).1 (unhide hlo).2⟩
  clear hM ht cC T2
  go_wp2_with fail
  go_loopw [7, 8, 9, 10] (fun v7 v8 _ _ wr => ∃ d i : Nat, i ≤ 30 ∧ d ≤ i ∧ d ≤ n ∧ v7 = .int .i64 (d : Int) ∧ v8 = .int .i64 (i : Int) ∧ Hid (∃ s : Dk.St, Dk.Mine wr x1.heap.size p b 4 s ∧ s.done = d ∧ s.left = (n : Int) - (d : Nat) ∧ (s.dead = true → d = n) ∧ Turn (fun _ => False) w wr)) (fun _ v8 _ _ _ => 50 - (intOf v8).toNat)
  case atStart => exact ⟨0, 0, by omega, by omega, by omega, rfl, rfl, H0⟩
  case round =>
    clear H0
    obtain ⟨d, i, hi30, hdi, hdn, rfl, rfl, hX⟩ := hrel
    obtain ⟨s, hM, hs1, hs2, hs3, hT⟩ := unhide hX
    have HD := hide (And.intro hi30 (And.intro hdi hdn))
    have HT := hide hT
    have hb0 : s.left ≤ 9223372036854775807 := by rw [hs2]; omega
    have hb1 : s.done ≤ 1099511627776 := by rw [hs1]; omega
    by_cases hlt : i < 30
    · have hlt' : (i : Int) < 30 := by omega
      have d0 : (d : Int) ≤ (n : Int) := by omega
      have HL := hide hlt
      by_cases hw : i < len1 ∧ z1 i = true
      · obtain ⟨b1, o1, rfl, hb1', hc1⟩ := (unhide W1).at hw.1
        have d1 : wr.cell? ⟨b1, o1 + i, none⟩ = some (.bool true) := by
          rw [hT.cell hb1' (fun q => q), hc1 i hw.1, hw.2]
        have hi1 : (i : Int) < (len1 : Int) := by omega
        have cW := Dk.write_made (unhide HZ) hM 9 hb0 hb1
        cases hd : s.dead with
        | true =>
          have e1 : d = n := hs3 hd
          have e2 : ¬ (d : Int) < (n : Int) := by omega
          rw [Dk.wr_dead hd] at cW
          have CW := hide cW
          have HS := hide (And.intro hs1 (And.intro hs2 hs3))
          have HSD := hide hd
          clear cW hX hM hs1 hs2 hs3 hT hb0 hb1 hlt hw hb1' hc1 hi30 hdi hdn hd e1
          go_wp2_with fail
          refine (unhide CW).mono ?_
          rintro e y ⟨rfl, hM, ht⟩
          have T4 := hide (Dk.still (unhide HT) ht (unhide hlo).1 (unhide hlo).2)
          have M4 := hide hM
          have cD := dkDead_any _ p b 4 _ _ _ _ y hM
          rw [unhide HSD] at cD
          have CD := hide cD
          clear hM ht CW cD d1
          go_wp2_with fail
          refine (unhide CD).mono ?_
          rintro e wq ⟨rfl, hq'⟩
          obtain rfl : y = wq := hq'.symm
          have hR : Hid (∃ s : Dk.St, Dk.Mine y x1.heap.size p b 4 s ∧ s.done = d ∧ s.left = (n : Int) - (d : Nat) ∧ (s.dead = true → d = n) ∧ Turn (fun _ => False) w y) := ⟨s, unhide M4, (unhide HS).1, (unhide HS).2.1, (unhide HS).2.2, unhide T4⟩
          clear CD M4 T4 HS HSD HT
          go_wp2_with fail
          go_roundw
          case rel => exact ⟨d, i + 1, by have := unhide HL; omega, by have := (unhide HD).2.1; omega, (unhide HD).2.2, rfl, by go_num, hR⟩
          case measure => simp [intOf]; have := unhide HL; omega
        | false =>
          rw [Dk.wr_arg hd (.inl has49)] at cW
          have CW := hide cW
          have HS := hide (And.intro hs1 (And.intro hs2 hs3))
          clear cW hX hM hs1 hs2 hs3 hT hb0 hb1 hlt hw hb1' hc1 hi30 hdi hdn hd
          go_wp2_with fail
          refine (unhide CW).mono ?_
          rintro e y ⟨rfl, hM, ht⟩
          have hR : Hid (∃ s : Dk.St, Dk.Mine y x1.heap.size p b 4 s ∧ s.done = d ∧ s.left = (n : Int) - (d : Nat) ∧ (s.dead = true → d = n) ∧ Turn (fun _ => False) w y) := ⟨s, hM, (unhide HS).1, (unhide HS).2.1, (unhide HS).2.2, Dk.still (unhide HT) ht (unhide hlo).1 (unhide hlo).2⟩
          clear hM ht CW HS HT d1
          go_wp2_with fail
          go_roundw
          case rel => exact ⟨d, i + 1, by have := unhide HL; omega, by have := (unhide HD).2.1; omega, (unhide HD).2.2, rfl, by go_num, hR⟩
          case measure => simp [intOf]; have := unhide HL; omega
      · have hrm : (i : Int).tmod 4 = ((i % 4 : Nat) : Int) := by rw [Int.tmod_eq_emod_of_nonneg (by omega)]; omega
        have hrm2 : (i : Int) % 4 = ((i % 4 : Nat) : Int) := by omega
        obtain ⟨r, hr⟩ : ∃ r, i % 4 = r := ⟨_, rfl⟩
        have hh := has4 i
        rw [hr] at hrm hrm2 hh
        have cW := Dk.write_made (unhide HZ) hM r hb0 hb1
        have hcase : (¬ (i : Int) < (len1 : Int)) ∨ ((i : Int) < (len1 : Int) ∧ ∃ b1 o1, a1 = some ⟨b1, o1, none⟩ ∧ wr.cell? ⟨b1, o1 + i, none⟩ = some (.bool false)) := by
          by_cases q : i < len1
          · obtain ⟨b1, o1, ha, hb1', hc1⟩ := (unhide W1).at q
            refine .inr ⟨by omega, b1, o1, ha, ?_⟩
            rw [hT.cell hb1' (fun q => q), hc1 i q]
            cases hz : z1 i
            · rfl
            · exact absurd ⟨q, hz⟩ hw
          · exact .inl (by omega)
        have hthree : ∃ r1 s1 dd, Dk.wr 4 s r Dk.noughts = (r1, s1) ∧ ((r1 = 0 ∧ (d : Int) < (n : Int) ∧ dd = d + 1) ∨ (r1 = 11 ∧ ¬ (d : Int) < (n : Int) ∧ dd = d ∧ s1.dead = true)) ∧ s1.done = dd ∧ s1.left = (n : Int) - (dd : Nat) ∧ (s1.dead = true → dd = n) ∧ dd ≤ d + 1 ∧ dd ≤ n := by
          cases hd : s.dead with
          | true => exact ⟨_, _, d, Dk.wr_dead hd, .inr ⟨rfl, by have := hs3 hd; omega, rfl, hd⟩, hs1, hs2, hs3, by omega, hdn⟩
          | false =>
            by_cases h0 : s.left = 0
            · exact ⟨_, _, d, Dk.wr_cut hd hh Dk.noughts_len h0, .inr ⟨rfl, by omega, rfl, rfl⟩, hs1, by simp only; omega, fun _ => by omega, by omega, hdn⟩
            · refine ⟨_, _, d + 1, Dk.wr_ok hd hh Dk.noughts_len h0, .inl ⟨rfl, by omega, rfl⟩, by simp only; omega, ?_, (fun q => by cases q), by omega, by omega⟩
              simp only
              rw [if_pos (by omega)]
              omega
        obtain ⟨r1, s1, dd, hwr, hcs, k1, k2, k3, k4, k5⟩ := hthree
        rw [hwr] at cW
        have CW := hide cW
        have HK := hide (And.intro k1 (And.intro k2 (And.intro k3 (And.intro k4 k5))))
        have d30 : (d : Int) ≤ 30 := by omega
        clear cW hX hM hs1 hs2 hs3 hT hb0 hb1 hlt hw hi30 hdi hdn hwr k1 k2 k3 k4 k5 hr hh
        rcases hcs with ⟨rfl, e1, e2⟩ | ⟨rfl, e1, e2, e3⟩
        · have E2 := hide e2
          clear e2
          rcases hcase with hge | ⟨hge, b1, o1, rfl, d1⟩
          all_goals
            go_wp2_with fail
            refine (unhide CW).mono ?_
            rintro e y ⟨rfl, hM, ht⟩
            have hR : Hid (∃ s : Dk.St, Dk.Mine y x1.heap.size p b 4 s ∧ s.done = dd ∧ s.left = (n : Int) - (dd : Nat) ∧ (s.dead = true → dd = n) ∧ Turn (fun _ => False) w y) := ⟨s1, hM, (unhide HK).1, (unhide HK).2.1, (unhide HK).2.2.1, Dk.still (unhide HT) ht (unhide hlo).1 (unhide hlo).2⟩
            have cD := dkWrites_any _ p b 4 _ _ _ _ y hM
            rw [(unhide HK).1, unhide E2] at cD
            have eD : (((d + 1 : Nat) : Int)) = (d : Int) + 1 := by omega
            rw [eD] at cD
            have CD := hide cD
            clear hM ht CW cD HT eD
            go_wp2_with fail
            refine (unhide CD).mono ?_
            rintro e wq ⟨rfl, hq'⟩
            obtain rfl : y = wq := hq'.symm
            clear CD
            go_wp2_with fail
            go_roundw
            case rel => exact ⟨dd, i + 1, by have := unhide HL; omega, by have := (unhide HD).2.1; have := (unhide HK).2.2.2.1; omega, (unhide HK).2.2.2.2, by have := unhide E2; rw [this]; go_num, by go_num, hR⟩
            case measure => simp [intOf]; have := unhide HL; omega
        · have E2 := hide e2
          have E3 := hide e3
          clear e2 e3
          rcases hcase with hge | ⟨hge, b1, o1, rfl, d1⟩
          all_goals
            go_wp2_with fail
            refine (unhide CW).mono ?_
            rintro e y ⟨rfl, hM, ht⟩
            have hR : Hid (∃ s : Dk.St, Dk.Mine y x1.heap.size p b 4 s ∧ s.done = dd ∧ s.left = (n : Int) - (dd : Nat) ∧ (s.dead = true → dd = n) ∧ Turn (fun _ => False) w y) := ⟨s1, hM, (unhide HK).1, (unhide HK).2.1, (unhide HK).2.2.1, Dk.still (unhide HT) ht (unhide hlo).1 (unhide hlo).2⟩
            have cD := dkDead_any _ p b 4 _ _ _ _ y hM
            rw [unhide E3] at cD
            have CD := hide cD
            have cE := dkWrites_any _ p b 4 _ _ _ _ y hM
            rw [(unhide HK).1, unhide E2] at cE
            have CE := hide cE
            clear hM ht CW cD cE HT
            go_wp2_with fail
            refine (unhide CD).mono ?_
            rintro e wq ⟨rfl, hq'⟩
            obtain rfl : y = wq := hq'.symm
            clear CD
            go_wp2_with fail
            refine (unhide CE).mono ?_
            rintro e wq ⟨rfl, hq'⟩
            obtain rfl : y = wq := hq'.symm
            clear CE
            go_wp2_with fail
            go_roundw
            case rel => exact ⟨dd, i + 1, by have := unhide HL; omega, by have := (unhide HD).2.1; have := (unhide HK).2.2.2.1; omega, (unhide HK).2.2.2.2, by have := unhide E2; rw [this], by go_num, hR⟩
            case measure => simp [intOf]; have := unhide HL; omega
    · have hge : ¬ (i : Int) < 30 := by omega
      have cS := hide (Dk.mine_start _ p b 4 s wr hM)
      have HB := hide (And.intro hb0 hb1)
      clear hX hM hs1 hs2 hs3 hT hb0 hb1 hlt hi30 hdi hdn
      go_wp2_with fail
      refine (unhide cS).mono ?_
      rintro e y ⟨rfl, hM, ht⟩
      have T4 := hide (Dk.still (unhide HT) ht (unhide hlo).1 (unhide hlo).2)
      have CD := hide (dkDead_any _ p b 4 _ _ _ _ y hM)
      have cW := Dk.write_made (unhide HZ) hM 0 (by simp) (unhide HB).2
      rw [Dk.wr_ok rfl (by decide) Dk.noughts_len (by simp)] at cW
      have CW := hide cW
      clear hM ht cW cS
      go_wp2_with fail
      refine (unhide CD).mono ?_
      rintro e wq ⟨rfl, hq'⟩
      obtain rfl : y = wq := hq'.symm
      clear CD
      go_wp2_with fail
      refine (unhide CW).mono ?_
      rintro e y2 ⟨rfl, hM, ht⟩
      have hbel : Hid (Below w.heap.size w y2) := Turn.below (Dk.still (unhide T4) ht (unhide hlo).1 (unhide hlo).2) (Nat.le_refl _) (fun _ q => q.elim)
      clear hM ht CW
      go_wp2
      go_ret
      exact ⟨rfl, unhide hbel⟩

set_option maxRecDepth 100000 in
theorem lifted (os : Os) (started : os.Started) (H : Type) (enc : TypeId × Value → H) :
    ReturnsInHanded {} Try.checked os 5 .any (Rows.diskCutsSpec.pre6 enc Try.prog Try.f5 Rows.diskCutsRow.domain false) (Rows.diskCutsSpec.post enc Try.prog Try.f5 false true false false) := by
  refine returnsInHanded_of_change (C := Try.checked) own started (by kernel_rfl) Try.func5
    (ChangeSpec.witness6 (enc := enc) (C := Try.checked) false ⟨#[], #[.int .i64 0, .slice none 0 0], []⟩ 8 (by kernel_rfl) (by kernel_rfl) (by kernel_rfl) (by kernel_rfl)) ?_
  intro W base args ds gs before hval0 hW hcnd _
  have hval : ∀ (j : Nat) t v, Try.f5.params[j]? = some t → args[j]? = some v → Value.okWide Try.prog W .any base t v := hval0
  have hW' := hW
  obtain ⟨p, q, hA0, hV, rfl, hfz, hnd⟩ := hW
  have hA : DataW.TrodAll enc Try.prog W 0 (fun _ => true) true Try.f5.params.toList args.toList ds p := hA0
  rw [Try.params5] at hA hval
  obtain ⟨v0, vs0, d0, ds0, p0, q0, hargs, rfl, rfl, h0, r0⟩ := trodAll_cons hA
  obtain ⟨v1, vs1, d1, ds1, p1, q1, rfl, rfl, rfl, h1, r1⟩ := trodAll_cons r0
  obtain ⟨rfl, rfl, rfl⟩ := trodAll_nil r1
  obtain rfl : args = #[v0, v1] := by cases args; simp_all
  obtain ⟨rfl, rfl⟩ := trodVars_none hV
  obtain ⟨a0, rfl, rfl, rfl, w0⟩ := open_int Try.underlying3 (hval 0 3 v0 rfl rfl) h0
  obtain ⟨a1, len1, cap1, rfl⟩ := okWide_slice Try.underlying48 (hval 1 48 v1 rfl rfl)
  have k1 := h1
  have lt1 : ∀ x ∈ p1, x.block < W.heap.size := by obtain ⟨m, hm⟩ := k1; exact DataW.trod_lt m _ _ _ hm
  obtain ⟨z1, w1⟩ : ∃ f, IsBols W a1 len1 cap1 f := by
    obtain ⟨fuel, hf⟩ := h1
    rcases Go.Deep.open_bools Try.underlying48 Try.underlying4 (by kernel_rfl) hf with ⟨hcs, _⟩ | ⟨x, l, c, f, hcs, _, hl, hm, _, hcell⟩
    · simp [Value.cells] at hcs
      obtain ⟨rfl, rfl, rfl⟩ := hcs
      exact ⟨fun _ => false, .inl ⟨rfl, rfl, rfl⟩⟩
    · simp [Value.cells] at hcs
      obtain ⟨rfl, rfl, rfl⟩ := hcs
      exact ⟨f, .inr ⟨_, rfl, hl, hm, hcell⟩⟩
  clear hA0 hval0
  refine (walk a0 a1 len1 cap1 z1 W w0 w1).mono fun e W' ⟨he, bel⟩ => ?_
  subst he
  exact ⟨_, rfl, _, _, _, [], _, [], hW', trodAll_mk1 (shut_bool Try.underlying4 _), (trodAll_cons_mk (shut_int Try.underlying3 w0) (trodAll_cons_mk (Below.trod laidOut (by kernel_rfl) (of_decide_eq_true (by kernel_rfl)) k1 bel lt1) trodAll_mk0)), rfl, bel.frame _, fun h => by cases h⟩

theorem over : Rows.diskCutsRow.holds Try.pinned (OpenSpec.ofChange Rows.diskCutsSpec) :=
  OpenClaim.holds_of_wide 5 Try.f5 rfl rfl rfl rfl rfl rfl rfl ⟨rfl, rfl, rfl, rfl, rfl⟩ rfl rfl rfl rfl rfl (by kernel_rfl) Try.func5 (by kernel_rfl)
    (of_decide_eq_true (by kernel_rfl)) (by unfold Func.isWrapper; first | (rw [if_pos (by decide +kernel)]; kernel_rfl) | (rw [if_neg (by decide +kernel)]; exact ⟨rfl, rfl⟩))
    (fun os started H enc _ => lifted os started H enc)

theorem proved : Rows.DiskCutsSaid := over
#print axioms proved
end Go.Proofs.Ytnpdmfhknbfmhaa.diskCuts
