/-
  What was written stays, whatever is written elsewhere, and however often the power goes: for every bytes and calls, at this commit; no condition.
-/
import Derived.Test.YtnpdmfhknbfmhaaRows
import Derived.WalkKit
import Derived.ProofKit
import Derived.OpenShut
import Derived.Test.YtnpdmfhknbfmhaaDiskMade
import Derived.Test.YtnpdmfhknbfmhaaTill
import Derived.BigQuiet
import Derived.Laws.AppendOwnNone
import Derived.ShutString
import Derived.ChangeOld
import Derived.SizedLaws
import Derived.Below
namespace Go.Proofs.Ytnpdmfhknbfmhaa.diskStays
open Go.ChangeShapes Go.WideShapes Go.ChangeAt Go.RowKit
open Go.ChangeMaps (open_string shut_string)
set_option linter.unusedVariables false

theorem own : ownKnob Try.prog.godebug = none := by kernel_rfl
theorem laidOut : laidOutB Try.prog = true := by kernel_rfl

/-- WHAT THE WALK IS TOLD OF A SLICE OF INTEGERS THAT CAME IN: it is nil; or it leads to a row of 'cap' cells, the numbers 'zs' (the first 'len' are its elements, the rest its spare room), each fitting its kind. -/
def IsRow (k : IntKind) (w : World) (a : Option Addr) (len cap : Nat) (zs : List Int) : Prop :=
  (a = none ∧ len = 0 ∧ cap = 0 ∧ zs = []) ∨
  ∃ x, a = some x ∧ len ≤ cap ∧ cap ≤ maxLen ∧ zs.length = cap ∧ (∀ i, i < zs.length → w.cell? (x.add i) = some (.int k (zs.getD i 0))) ∧ ∀ n ∈ zs, (Lit.int k n).wf = true

theorem IsRow.src {w : World} {a : Option Addr} {len cap : Nat} {zs : List Int} (h : IsRow .u8 w a len cap zs) : ∃ l : List Int, l.length = len ∧ len ≤ cap ∧ cap ≤ maxLen ∧ Ck.Src w (.slice a l.length cap) l := by
  rcases h with ⟨rfl, rfl, rfl, rfl⟩ | ⟨x, rfl, hl, hm, hz, hcell, _⟩
  · exact ⟨[], rfl, Nat.le_refl _, Nat.zero_le _, .inl ⟨rfl, rfl⟩⟩
  · refine ⟨zs.take len, by rw [List.length_take]; omega, hl, hm, .inr ⟨x, cap, rfl, fun j u hj => ?_⟩⟩
    unfold Ck.bys at hj
    rw [List.getElem?_map, List.getElem?_take] at hj
    split at hj
    · rename_i hjl
      have hjz : j < zs.length := by omega
      rw [List.getElem?_eq_getElem hjz] at hj
      simp at hj
      rw [hcell j hjz, ← hj, List.getD, List.getElem?_eq_getElem hjz]
      rfl
    · simp at hj

set_option maxRecDepth 8000 in
set_option maxHeartbeats 6400000 in

theorem walk (a0 : Option Addr) (len0 cap0 : Nat) (z0 : List Int) (a1 : Option Addr) (len1 cap1 : Nat) (z1 : Nat → Trip) (w : World) (hB0 : len0 ≤ 140737488351232) (hS1 : ∀ i, i < len1 → (z1 i).n ≤ 140737488351232 ∧ -9223372036854775808 ≤ (z1 i).v ∧ (z1 i).v ≤ 9223372036854775807) (w0 : IsRow .u8 w a0 len0 cap0 z0) (w1 : Trip.Came w a1 len1 z1) :
    Calls Try.prog 4 #[.slice a0 len0 cap0, .slice a1 len1 cap1] w fun e w' => e = .returned (.bool true) ∧ Below w.heap.size w w' := by
  obtain ⟨l, hln, hc, hcm, hs⟩ := IsRow.src w0
  have HS := hide hs
  have HC := hide (And.intro hln hB0)
  have W1 := hide w1
  have HSZ := hide hS1
  have hl1 : (len1 : Int) ≤ 9223372036854775807 := by have := w1.1; unfold maxLen at this; omega
  have ck := hide (known13_any w)
  clear w0 w1 hs hc hcm hln hB0 hS1
  go_enter Try.func4, Try.ntmps4
  go_wp2_with fail
  refine (unhide ck).mono ?_
  rintro e x1 ⟨rfl, hg1⟩
  have G1 := hide hg1
  have cN := hide (Dk.mine_new 8 x1 (by omega) (by omega))
  clear ck hg1
  go_wp2_with fail
  refine (unhide cN).mono ?_
  rintro e x2 ⟨p, b, rfl, hM, hg2⟩
  have hlo := hide (And.intro (Nat.le_trans (unhide G1).size hM.low) (Nat.le_trans (unhide G1).size hM.lowb))
  have G2 := hide (grown_trans (unhide G1) hg2)
  have hup := hide (And.intro hM.box.lt hM.ltb)
  have M2 := hide hM
  clear cN hg2 hM G1
  obtain ⟨x3, hx3⟩ : ∃ x, x2.alloc (.cells #[.int .u8 1] 5) = x := ⟨_, rfl⟩
  obtain ⟨g2, hg2⟩ : ∃ g, x2.heap.size = g := ⟨_, rfl⟩
  have g3 : x2.grownBy x3 none := by rw [← hx3]; exact World.grownBy_alloc _ _ _
  have hoz : Hid (x3.ownsRow x2.heap.size 5 1 (.slice (some ⟨g2, 0, none⟩) 1 1) 1 [.int .u8 1]) := by
    rw [← hx3, ← hg2]
    exact World.ownsRow_lit (base := x2.heap.size) (e := 5) (size := 1) x2 #[.int .u8 1] 1 (Nat.le_refl _) (by unfold maxLen; omega) rfl
  have hSA : Hid (Ck.Src x3 (.slice a0 len0 cap0) l) := by
    have h := (unhide HS).grown (grown_trans (unhide G2) g3)
    rw [(unhide HC).1] at h
    exact h
  have hbz : Hid (x2.heap.size ≤ x3.heap.size) := g3.size
  have hnn : Hid (1 + l.length ≤ 140737488355328) := (show _ ≤ _ by have := unhide HC; omega)
  have hnext : Hid (∀ v x4, x4.ownsRow x2.heap.size 5 1 v (1 + l.length) ([.int .u8 1] ++ Ck.bys l) → x3.grownBy x4 (Value.slice (some ⟨g2, 0, none⟩) 1 1).ownBlock → ∃ g cp, v = .slice (some ⟨g, 0, none⟩) (1 + l.length) cp ∧ x2.heap.size ≤ g ∧ g < x4.heap.size ∧ x2.grownBy x4 none ∧ Ck.Src x4 (.slice (some ⟨g, 0, none⟩) (1 + l.length) cp) (1 :: l)) := fun v x4 h1 h2 => by
    have hg : x2.grownBy x4 none := grown_own g3 h2 (fun k e => by cases e; rw [hg2]; exact Nat.le_refl _)
    rcases h1.2 with ⟨q, q0⟩ | ⟨g, cp, cur, rfl, q1, q2, _⟩
    · omega
    · refine ⟨g, cp, rfl, q1, (Array.getElem?_eq_some_iff.1 q2).1, hg, .inr ⟨⟨g, 0, none⟩, cp, by rw [List.length_cons, Nat.add_comm], fun j u hj => h1.cells (g := g) rfl j u hj⟩⟩
  have hg2s := hide hg2
  clear g3
  go_wp2_with (at_builtin; refine wpList_append_wide rfl _ _ rfl x2.heap.size _ 1 [.int .u8 1] rfl (unhide hoz) _ l rfl (unhide hSA) (unhide hnn) (unhide hbz) ?_)
  intro v6 x4 hown hgrow hnil
  rw [← unhide hg2s] at hown
  obtain ⟨g, cp, rfl, hgl, hgh, hg4, hs4⟩ := unhide hnext v6 x4 hown hgrow
  have cS := hide (Dk.sector_any (some ⟨g, 0, none⟩) (1 + l.length) cp (1 :: l) x4 (by rw [List.length_cons, Nat.add_comm]) (by have := unhide hnn; unfold maxLen; omega) hs4)
  have G4 := hide (grown_trans (unhide G2) hg4)
  have M4 := hide ((unhide M2).on hg4)
  have H4 := hide (And.intro hgl hg4.size)
  obtain ⟨m4, hm4⟩ : ∃ m, 1 + l.length = m := ⟨_, rfl⟩
  rw [hm4] at cS ⊢
  clear hown hgrow hnil hgl hgh hg4 hs4 hm4 hnext hoz hSA hnn hbz hx3 hg2 hg2s M2 G2
  go_wp2_with fail
  refine (unhide cS).mono ?_
  rintro e x5 ⟨a7, c7, rfl, hs7, hg5, hA7⟩
  obtain ⟨L, hL⟩ : ∃ L, Dk.sec (1 :: l) = L := ⟨_, rfl⟩
  rw [hL] at hs7 ⊢
  have G5 := hide (grown_trans (unhide G4) hg5)
  have M5 := hide ((unhide M4).on hg5)
  have A7 : Hid (∀ ad, a7 = some ad → ad.block ≠ p ∧ ad.block ≠ b) := fun ad e => by
    have h1 := unhide hup
    have h2 := unhide H4
    rcases hA7 ad e with q | q
    · rw [e] at q
      simp only [Option.some.injEq] at q
      rw [q]
      simp only
      omega
    · omega
  have S5 := hide hs7
  obtain ⟨n7, hn7⟩ : ∃ n, L.length = n := ⟨_, rfl⟩
  rw [hn7] at S5 ⊢
  have HN := hide hn7
  clear hs7 hg5 hA7 hL cS G4 M4 H4 hn7
  by_cases h7 : n7 = 64
  rotate_left
  · have h7' : ((n7 : Int) != 64) = true := by simp; omega
    have hbel : Hid (Below w.heap.size w x5) := none_below (unhide G5)
    clear h7
    go_wp2
    go_ret
    exact ⟨rfl, unhide hbel⟩
  subst h7
  have cW := Dk.mine_write _ p b 8 _ 3 a7 c7 L x5 (unhide M5) (by rw [unhide HN]; exact unhide S5) (fun ad _ e => (unhide A7 ad e).1) (by simp [Dk.fresh]) (by simp [Dk.fresh])
  rw [Dk.wr_ok rfl (by decide) (unhide HN) (by simp [Dk.fresh])] at cW
  rw [unhide HN] at cW
  simp only at cW
  have CW := hide cW
  clear cW
  go_wp2_with fail
  refine (unhide CW).mono ?_
  rintro e x6 ⟨rfl, hM6, ht6⟩
  have H0 : Hid (∃ s : Dk.St, Dk.Mine x6 x1.heap.size p b 8 s ∧ s.f 3 = L ∧ s.done ≤ 0 + 1 ∧ s.left ≤ 9223372036854775807 ∧ Ck.Src x6 (.slice a7 64 c7) L ∧ Turn (fun _ => False) w x6) := by
    refine ⟨_, hM6, (show Dk.putF Dk.fresh.f 3 L 3 = L from if_pos rfl), by simp [Dk.fresh], by simp [Dk.fresh], (unhide S5).turned ht6 (fun ad e _ q => ?_), Dk.still (Turn.new (unhide G5)) ht6 (unhide hlo).1 (unhide hlo).2⟩
    have := unhide A7 ad e
    rcases q with q | q
    · exact this.1 q
    · exact this.2 q
  clear hM6 ht6 CW M5 S5 G5
  go_wp2_with fail
  go_loopw [8, 9] (fun v8 _ wr => ∃ i : Nat, i ≤ 60 ∧ i ≤ len1 ∧ v8 = .int .i64 (i : Int) ∧ Hid (∃ s : Dk.St, Dk.Mine wr x1.heap.size p b 8 s ∧ s.f 3 = L ∧ s.done ≤ i + 1 ∧ s.left ≤ 9223372036854775807 ∧ Ck.Src wr (.slice a7 64 c7) L ∧ Turn (fun _ => False) w wr)) (fun v8 _ _ => 100 - (intOf v8).toNat)
  case atStart => exact ⟨0, by omega, Nat.zero_le _, rfl, H0⟩
  case round =>
    clear H0
    obtain ⟨i, hi60, hil, rfl, hX⟩ := hrel
    obtain ⟨s, hM, hs3, hs1, hs2, hS7, hT⟩ := unhide hX
    clear hX
    by_cases hlt : i < len1 ∧ i < 60
    · have hlt1 : (i : Int) < (len1 : Int) := by omega
      have hlt2 : (i : Int) < 60 := by omega
      have HL := hide hlt
      obtain ⟨b1, o1, rfl, hb1, d0, d1, d2, hby⟩ := (unhide W1).2 i hlt.1
      have hsz := unhide HSZ i hlt.1
      obtain ⟨u, v, ai, ni, ci, li, hz⟩ : ∃ u v ai ni ci li, z1 i = ⟨u, v, ai, ni, ci, li⟩ := ⟨_, _, _, _, _, _, rfl⟩
      rw [hz] at d0 d1 d2 hby hsz
      simp only at d0 d1 d2 hby hsz
      obtain ⟨y1, y2, y3, y4⟩ := Byt.src hby
      have e0 : wr.cell? ⟨b1, o1 + i * 3, none⟩ = some (.int .i64 u) := (hT.cell hb1 (fun q => q) _).trans d0
      have e1 : wr.cell? ⟨b1, o1 + i * 3 + 1, none⟩ = some (.int .i64 v) := (hT.cell hb1 (fun q => q) _).trans d1
      have e2 : wr.cell? ⟨b1, o1 + i * 3 + 2, none⟩ = some (.slice ai ni ci) := (hT.cell hb1 (fun q => q) _).trans d2
      have HSV := hide hsz
      have hsi : Hid (Ck.Src w (.slice ai ni ci) li ∧ li.length = ni ∧ ni ≤ maxLen ∧ ∀ ad, ai = some ad → 0 < ni → ad.block < w.heap.size) := ⟨y2, y1, y3, y4⟩
      clear d0 d1 d2 hby hz y1 y2 y3 y4 hsz hlt
      go_upto_region 13 with fail
      obtain ⟨X, hX⟩ : ∃ X, wr.alloc (.cells #[.int .i64 u, .int .i64 v, .slice ai ni ci] 33) = X := ⟨_, rfl⟩
      obtain ⟨bx, hbx⟩ : ∃ g, wr.heap.size = g := ⟨_, rfl⟩
      have gX : wr.grownBy X none := by rw [← hX]; exact World.grownBy_alloc _ _ _
      have hrow := heap_alloc_new wr (.cells #[.int .i64 u, .int .i64 v, .slice ai ni ci] 33)
      rw [hX, hbx] at hrow
      have k0 : X.cell? ⟨bx, 0, none⟩ = some (.int .i64 u) := by rw [cell_of_row X bx 0 _ _ _ hrow]; rfl
      have k1 : X.cell? ⟨bx, 1, none⟩ = some (.int .i64 v) := by rw [cell_of_row X bx 1 _ _ _ hrow]; rfl
      have k2 : X.cell? ⟨bx, 2, none⟩ = some (.slice ai ni ci) := by rw [cell_of_row X bx 2 _ _ _ hrow]; rfl
      have hpb : Hid (bx ≠ p ∧ bx ≠ b) := by have h1 := hM.box.lt; have h2 := hM.ltb; exact ⟨by omega, by omega⟩
      have HM := hide (hM.on gX)
      have HT := hide (hT.then gX)
      have HS7 := hide (hS7.grown gX)
      have HB : Hid (s.left ≤ 9223372036854775807 ∧ s.done ≤ 1099511627776) := ⟨hs2, by omega⟩
      have HF := hide (And.intro hs3 hs1)
      rw [hX, hbx]
      have HXl := hide (show bx < X.heap.size by rw [← hX, ← hbx]; simp)
      have hR : Hid (∀ (Y : World) (s' : Dk.St), Dk.Mine Y x1.heap.size p b 8 s' → s'.f 3 = s.f 3 → s'.done ≤ s.done + 1 → s'.left ≤ 9223372036854775807 → Ck.Src Y (.slice a7 64 c7) L → Turn (fun _ => False) w Y → ∃ s : Dk.St, Dk.Mine Y x1.heap.size p b 8 s ∧ s.f 3 = L ∧ s.done ≤ i + 1 + 1 ∧ s.left ≤ 9223372036854775807 ∧ Ck.Src Y (.slice a7 64 c7) L ∧ Turn (fun _ => False) w Y) := fun Y s' q1 q2 q3 q4 q5 q6 => ⟨s', q1, q2.trans (unhide HF).1, by have := (unhide HF).2; omega, q4, q5, q6⟩
      have hoff7 : Hid (∀ (x y : World), Ck.Src x (.slice a7 64 c7) L → Turn (fun k => k = p ∨ k = b) x y → Ck.Src y (.slice a7 64 c7) L) := fun x y q1 q2 => q1.turned q2 (fun ad e _ q => by
        have := unhide A7 ad e
        rcases q with q | q
        · exact this.1 q
        · exact this.2 q)
      clear e0 e1 e2 hX hbx gX hrow hM hT hS7 hs1 hs2 hs3 hb1
      by_cases h2 : u = 2
      · subst h2
        by_cases h3 : v = 3
        · subst h3
          have hEnd := hide (unhide hR X s (unhide HM) rfl (by omega) (unhide HB).1 (unhide HS7) (unhide HT))
          clear hR hoff7 HM HT HS7
          go_wp2_with fail
          go_roundw
          case rel => exact ⟨i + 1, by have := unhide HL; omega, by have := unhide HL; omega, by go_num, hEnd⟩
          case measure => simp [intOf]; have := unhide HL; omega
        have h3' : (v != 3) = true := by simp [h3]
        have HX : Hid (bx < X.drew.heap.size ∧ X.drew.cell? ⟨bx, 0, none⟩ = some (.int .i64 2) ∧ X.drew.cell? ⟨bx, 1, none⟩ = some (.int .i64 v) ∧ X.drew.cell? ⟨bx, 2, none⟩ = some (.slice ai ni ci)) := ⟨unhide HXl, k0, k1, k2⟩
        have hS0 : Hid (X.drew.cell? ⟨bx, 1, none⟩ = some (.int .i64 v) ∧ X.drew.cell? ⟨bx, 2, none⟩ = some (.slice ai ni ci)) := ⟨k1, k2⟩
        have gd : X.grownBy X.drew none := grown_drew (World.grownBy.refl X none) 1
        have HM' := hide ((unhide HM).on gd)
        have HT' := hide ((unhide HT).then gd)
        have HS7' := hide ((unhide HS7).grown gd)
        have cS := hide (Dk.sector_any ai ni ci li X.drew (unhide hsi).2.1 (unhide hsi).2.2.1 ((unhide hsi).1.grown (Turn.grownBy (unhide HT'))))
        have hoff : Hid (∀ (Y : World) (a' : Option Addr) (c' : Nat), Ck.Src Y (.slice a' (Dk.sec li).length c') (Dk.sec li) → X.drew.grownBy Y none → (∀ ad, a' = some ad → a' = ai ∨ X.drew.heap.size ≤ ad.block) → ∀ ad, (Dk.sec li).length = 64 → a' = some ad → ad.block ≠ p) := fun Y a' c' q1 q2 q3 ad q4 q5 => by
          have hp := (unhide HM').box.lt
          have hlow := (unhide hlo).1
          rcases q3 ad q5 with q | q
          · rw [q5] at q
            have h0 : 0 < ni := by
              rcases Nat.eq_zero_or_pos ni with e | e
              · have e2 := (unhide hsi).2.1
                rw [e] at e2
                rw [Dk.sec_same (.inl e2), e2] at q4
                omega
              · exact e
            have := (unhide hsi).2.2.2 ad q.symm h0
            omega
          · omega
        clear HM HT HS7
        have HM := HM'
        have HT := HT'
        have HS7 := HS7'
        clear HM' HT' HS7' gd h3
        have h3 := hide h3'
        go_upto_region 14 with fail
        clear k0 k1 k2
        refine wp_region_till (h := 6) (S := fun x => Hid (x.cell? ⟨bx, 1, none⟩ = some (.int .i64 v) ∧ x.cell? ⟨bx, 2, none⟩ = some (.slice ai ni ci))) (by kernel_rfl) ?_
        refine wpTill_take (i := 0) (v := ?_) [6] rfl (by kernel_rfl) (by kernel_rfl) (by kernel_rfl) (by kernel_rfl) (fun _ _ _ h => h) hS0 (Or.inl ⟨by rfl, ?_⟩) ?_
        rotate_left
        · intro x hSx
          clear hSx
          go_simp
          try with_reducible rfl
        simp only [Act.put, List.getElem_toArray, List.getElem_cons_zero, List.setIfInBounds_toArray, List.set_cons_succ, List.set_cons_zero]
        refine wpTill_take (i := 1) (v := ?_) [2, 6] rfl (by kernel_rfl) (by kernel_rfl) (by kernel_rfl) (by kernel_rfl) (fun _ _ _ h => h) hS0 (Or.inl ⟨by rfl, ?_⟩) ?_
        rotate_left
        · intro x hSx
          clear hSx
          go_simp
          try with_reducible rfl
        simp only [Act.put, List.getElem_toArray, List.getElem_cons_zero, List.getElem_cons_succ, List.setIfInBounds_toArray, List.set_cons_succ, List.set_cons_zero]
        refine wpTill_take (i := 2) (v := ?_) [6] rfl (by kernel_rfl) (by kernel_rfl) (by kernel_rfl) (by kernel_rfl) (fun _ _ _ h => h) hS0 (Or.inl ⟨by rfl, ?_⟩) ?_
        rotate_left
        · intro x hSx
          have b0 := (unhide hSx).1
          clear hSx
          go_simp
          try with_reducible rfl
        simp only [Act.put, List.getElem_toArray, List.getElem_cons_zero, List.getElem_cons_succ, List.setIfInBounds_toArray, List.set_cons_succ, List.set_cons_zero]
        refine wpTill_take (i := 3) (v := ?_) [4, 5, 6] rfl (by kernel_rfl) (by kernel_rfl) (by kernel_rfl) (by kernel_rfl) (fun _ _ _ h => h) hS0 (Or.inl ⟨by rfl, ?_⟩) ?_
        rotate_left
        · intro x hSx
          clear hSx
          go_simp
          try with_reducible rfl
        simp only [Act.put, List.getElem_toArray, List.getElem_cons_zero, List.getElem_cons_succ, List.setIfInBounds_toArray, List.set_cons_succ, List.set_cons_zero]
        refine wpTill_take (i := 4) (v := ?_) [5, 6] rfl (by kernel_rfl) (by kernel_rfl) (by kernel_rfl) (by kernel_rfl) (fun _ _ _ h => h) hS0 (Or.inl ⟨by rfl, ?_⟩) ?_
        rotate_left
        · intro x hSx
          have b0 := (unhide hSx).2
          clear hSx
          go_simp
          try with_reducible rfl
        simp only [Act.put, List.getElem_toArray, List.getElem_cons_zero, List.getElem_cons_succ, List.setIfInBounds_toArray, List.set_cons_succ, List.set_cons_zero]
        refine wpTill_only (j := 5) (by kernel_rfl) rfl (fun K hK => ?_)
        go_simp
        refine (unhide cS).mono ?_
        rintro e Y ⟨a', c', rfl, hs', hg', hA'⟩
        have hMY := (unhide HM).on hg'
        have hS1 : Hid (Y.cell? ⟨bx, 1, none⟩ = some (.int .i64 v) ∧ Y.cell? ⟨bx, 2, none⟩ = some (.slice ai ni ci)) := ⟨(grown_cell hg' bx 1 (unhide HX).1 (by simp)).trans (unhide HX).2.2.1, (grown_cell hg' bx 2 (unhide HX).1 (by simp)).trans (unhide HX).2.2.2⟩
        have k0 : Y.cell? ⟨bx, 0, none⟩ = some (.int .i64 2) := (grown_cell hg' bx 0 (unhide HX).1 (by simp)).trans (unhide HX).2.1
        have cW := hide (Dk.mine_write _ p b 8 s v a' c' (Dk.sec li) Y hMY hs' (unhide hoff Y a' c' hs' hg' hA') (unhide HB).1 (unhide HB).2)
        have TY := hide (Turn.then (unhide HT) hg')
        have SY := hide ((unhide HS7).grown hg')
        have K0 := hide k0
        have HltY := hide (Nat.lt_of_lt_of_le (unhide HX).1 hg'.size)
        clear cS hs' hg' hA' hMY k0
        obtain ⟨nn, hnn⟩ : ∃ nn, (Dk.sec li).length = nn := ⟨_, rfl⟩
        rw [hnn] at cW ⊢
        clear hnn
        try go_simp
        refine hK.out _ _ (fun _ => hS1) ?_
        clear hK K
        refine wpTill_only (j := 6) (by kernel_rfl) rfl (fun K hK => ?_)
        go_simp
        refine (unhide cW).mono ?_
        rintro e Y2 ⟨rfl, hM2, ht2⟩
        try go_simp
        refine hK.out _ _ (fun hx => absurd (hx.symm.trans (by kernel_rfl)) Bool.false_ne_true) ?_
        clear hK K
        refine wpTill_done (by kernel_rfl) ?_ _
        have hv3 : (3 : Int) ≠ v := by have := unhide h3; simp at this; exact fun q => this q.symm
        have hEnd := hide (unhide hR Y2 _ hM2 (Dk.wr_other hv3) (Dk.wr_done 8 s v (Dk.sec li)).2 (Dk.wr_left 8 s v (Dk.sec li) (unhide HB).1) (unhide hoff7 _ _ (unhide SY) ht2) (Dk.still (unhide TY) ht2 (unhide hlo).1 (unhide hlo).2))
        have k0 : Y2.cell? ⟨bx, 0, none⟩ = some (.int .i64 2) := (ht2.cell (unhide HltY) (by have := unhide hpb; omega) 0).trans (unhide K0)
        clear hM2 ht2 cW hR hoff7 SY TY HltY K0 hoff HM HT HS7 HX hS0 hS1 hv3 h3'
        go_wp2_with fail
        go_roundw
        case rel => exact ⟨i + 1, by have := unhide HL; omega, by have := unhide HL; omega, by go_num, hEnd⟩
        case measure => simp [intOf]; have := unhide HL; omega
      have h2' : (u == 2) = false := by simp [h2]
      by_cases h3 : u = 3
      · subst h3
        have cC := hide (Dk.mine_cut _ p b 8 s v X (unhide HM))
        clear h2'
        go_wp2_with fail
        refine (unhide cC).mono ?_
        rintro e Y2 ⟨rfl, hM2, ht2⟩
        have hEnd := hide (unhide hR Y2 _ hM2 rfl (by simp) (unhide HSV).2.2 (unhide hoff7 _ _ (unhide HS7) ht2) (Dk.still (unhide HT) ht2 (unhide hlo).1 (unhide hlo).2))
        have k0' : Y2.cell? ⟨bx, 0, none⟩ = some (.int .i64 3) := (ht2.cell (unhide HXl) (by have := unhide hpb; omega) 0).trans k0
        clear hM2 ht2 cC hR hoff7 HM HT HS7 k0 k1 k2
        go_wp2_with fail
        go_roundw
        case rel => exact ⟨i + 1, by have := unhide HL; omega, by have := unhide HL; omega, by go_num, hEnd⟩
        case measure => simp [intOf]; have := unhide HL; omega
      have h3' : (u == 3) = false := by simp [h3]
      by_cases h4 : u = 4
      · subst h4
        have cC := hide (Dk.mine_start _ p b 8 s X (unhide HM))
        clear h2' h3'
        go_wp2_with fail
        refine (unhide cC).mono ?_
        rintro e Y2 ⟨rfl, hM2, ht2⟩
        have hEnd := hide (unhide hR Y2 _ hM2 rfl (by simp) (by simp) (unhide hoff7 _ _ (unhide HS7) ht2) (Dk.still (unhide HT) ht2 (unhide hlo).1 (unhide hlo).2))
        clear hM2 ht2 cC hR hoff7 HM HT HS7 k0 k1 k2
        go_wp2_with fail
        go_roundw
        case rel => exact ⟨i + 1, by have := unhide HL; omega, by have := unhide HL; omega, by go_num, hEnd⟩
        case measure => simp [intOf]; have := unhide HL; omega
      have h4' : (u == 4) = false := by simp [h4]
      have hEnd := hide (unhide hR X s (unhide HM) rfl (by omega) (unhide HB).1 (unhide HS7) (unhide HT))
      clear hR hoff7 HM HT HS7 h2 h3 h4
      go_wp2_with fail
      go_roundw
      case rel => exact ⟨i + 1, by have := unhide HL; omega, by have := unhide HL; omega, by go_num, hEnd⟩
      case measure => simp [intOf]; have := unhide HL; omega
    · have hge : (¬ (i : Int) < (len1 : Int)) ∨ ((i : Int) < (len1 : Int) ∧ ¬ (i : Int) < 60) := by omega
      have cC := hide (Dk.mine_start _ p b 8 s wr hM)
      have HS7 := hide hS7
      have HT := hide hT
      have HF := hide hs3
      clear hlt hi60 hil hM hS7 hT hs1 hs2 hs3
      have hoff7 : Hid (∀ (x y : World), Ck.Src x (.slice a7 64 c7) L → Turn (fun k => k = p ∨ k = b) x y → Ck.Src y (.slice a7 64 c7) L) := fun x y q1 q2 => q1.turned q2 (fun ad e _ q => by
        have := unhide A7 ad e
        rcases q with q | q
        · exact this.1 q
        · exact this.2 q)
      rcases hge with hge | ⟨hge, hge2⟩
      all_goals
        go_wp2_with fail
        refine (unhide cC).mono ?_
        rintro e Y2 ⟨rfl, hM2, ht2⟩
        have T2 := hide (Dk.still (unhide HT) ht2 (unhide hlo).1 (unhide hlo).2)
        have S2 := hide (unhide hoff7 _ _ (unhide HS7) ht2)
        have cR := Dk.mine_read _ p b 8 _ 3 Y2 hM2
        have hrd : Dk.rd 8 ⟨s.f, s.done, -1, false⟩ 3 = (0, L) := by
          unfold Dk.rd
          rw [if_neg (by simp), if_neg (by decide)]
          simp only
          rw [unhide HF]
        rw [hrd] at cR
        have CR := hide cR
        clear cR cC hM2 ht2 hrd HT HS7
        go_wp2_with fail
        refine (unhide CR).mono ?_
        rintro e Y3 ⟨ar, kr, cr, rfl, hsr, hgr⟩
        have t1 := Ck.Src.text hsr
        have t2 := Ck.Src.text ((unhide S2).grown hgr)
        have hbel : Hid (Below w.heap.size w Y3) := Turn.below ((unhide T2).then hgr) (Nat.le_refl _) (fun _ q => q.elim)
        obtain ⟨str, hstr⟩ : ∃ str, strOfNums L = str := ⟨_, rfl⟩
        rw [hstr] at t1 t2
        clear CR hsr hgr S2 T2 hstr
        go_wp2
        go_ret
        exact ⟨rfl, unhide hbel⟩

set_option maxRecDepth 100000 in
theorem lifted (os : Os) (started : os.Started) (H : Type) (enc : TypeId × Value → H) :
    ReturnsInHanded {} Try.checked os 4 .any (Rows.diskStaysSpec.pre6 enc Try.prog Try.f4 Rows.diskStaysRow.domain false) (Rows.diskStaysSpec.post enc Try.prog Try.f4 false true false false) := by
  refine returnsInHanded_of_change_sized (C := Try.checked) own started (by kernel_rfl) Try.func4
    (ChangeSpec.witness6 (enc := enc) (C := Try.checked) false ⟨#[], #[.slice none 0 0, .slice none 0 0], []⟩ 8 (by kernel_rfl) (by kernel_rfl) (by kernel_rfl) (by kernel_rfl)) ?_
  intro W base args ds gs before hval0 hW hcnd hreach _
  have hval : ∀ (j : Nat) t v, Try.f4.params[j]? = some t → args[j]? = some v → Value.okWide Try.prog W .any base t v := hval0
  have hW' := hW
  obtain ⟨p, q, hA0, hV, rfl, hfz, hnd⟩ := hW
  have hA : DataW.TrodAll enc Try.prog W 0 (fun _ => true) true Try.f4.params.toList args.toList ds p := hA0
  rw [Try.params4] at hA hval
  obtain ⟨v0, vs0, d0, ds0, p0, q0, hargs, rfl, rfl, h0, r0⟩ := trodAll_cons hA
  obtain ⟨v1, vs1, d1, ds1, p1, q1, rfl, rfl, rfl, h1, r1⟩ := trodAll_cons r0
  obtain ⟨rfl, rfl, rfl⟩ := trodAll_nil r1
  obtain rfl : args = #[v0, v1] := by cases args; simp_all
  obtain ⟨rfl, rfl⟩ := trodVars_none hV
  obtain ⟨a0, len0, cap0, rfl⟩ := okWide_slice Try.underlying31 (hval 0 31 v0 rfl rfl)
  have k0 := h0
  have lt0 : ∀ x ∈ p0, x.block < W.heap.size := by obtain ⟨m, hm⟩ := k0; exact DataW.trod_lt m _ _ _ hm
  obtain ⟨z0, w0⟩ : ∃ zs, IsRow .u8 W a0 len0 cap0 zs := by
    obtain ⟨fuel, hf⟩ := h0
    rcases open_ints Try.underlying31 Try.underlying5 (by kernel_rfl) hf with ⟨hcs, _⟩ | ⟨x, l, c, zs, hcs, _, hl, hm, hz, _, hcell, hwz⟩
    · simp [Value.cells] at hcs
      obtain ⟨rfl, rfl, rfl⟩ := hcs
      exact ⟨[], .inl ⟨rfl, rfl, rfl, rfl⟩⟩
    · simp [Value.cells] at hcs
      obtain ⟨rfl, rfl, rfl⟩ := hcs
      exact ⟨zs, .inr ⟨_, rfl, hl, hm, by simpa using hz, hcell, hwz⟩⟩
  obtain ⟨a1, len1, cap1, rfl⟩ := okWide_slice Try.underlying22 (hval 1 22 v1 rfl rfl)
  have k1 := h1
  have lt1 : ∀ x ∈ p1, x.block < W.heap.size := by obtain ⟨m, hm⟩ := k1; exact DataW.trod_lt m _ _ _ hm
  obtain ⟨z1, w1⟩ : ∃ z, Trip.Came W a1 len1 z := by
    obtain ⟨fuel, hf⟩ := h1
    exact open_calls (by simpa [Value.cells] using hf)
  have hB0 : len0 ≤ 140737488351232 := by
    obtain ⟨fuel, hf⟩ := k0
    exact byts_small (by simpa [Value.cells] using hf) (fun n hn => by simpa using List.all_eq_true.1 hreach _ (DataW.weights_mem_each (j := 0) rfl rfl n hn))
  have hS1 : ∀ i, i < len1 → (z1 i).n ≤ 140737488351232 ∧ -9223372036854775808 ≤ (z1 i).v ∧ (z1 i).v ≤ 9223372036854775807 := by
    obtain ⟨fuel, hf⟩ := k1
    exact open_calls_small (by simpa [Value.cells] using hf) (fun n hn => by simpa using List.all_eq_true.1 hreach _ (DataW.weights_mem_each (j := 1) rfl rfl n hn)) w1
  clear hA0 hval0
  refine (walk a0 len0 cap0 z0 a1 len1 cap1 z1 W hB0 hS1 w0 w1).mono fun e W' ⟨he, bel⟩ => ?_
  subst he
  exact ⟨_, rfl, _, _, _, [], _, [], hW', trodAll_mk1 (shut_bool Try.underlying4 _), (trodAll_cons_mk (Below.trod laidOut (by kernel_rfl) (of_decide_eq_true (by kernel_rfl)) k0 bel lt0) (trodAll_cons_mk (Below.trod laidOut (by kernel_rfl) (of_decide_eq_true (by kernel_rfl)) k1 bel lt1) trodAll_mk0)), rfl, bel.frame _, fun h => by cases h⟩

theorem over : Rows.diskStaysRow.holds Try.pinned (OpenSpec.ofChange Rows.diskStaysSpec) :=
  OpenClaim.holds_of_wide 4 Try.f4 rfl rfl rfl rfl rfl rfl rfl ⟨rfl, rfl, rfl, rfl, rfl⟩ rfl rfl rfl rfl rfl (by kernel_rfl) Try.func4 (by kernel_rfl)
    (of_decide_eq_true (by kernel_rfl)) (by unfold Func.isWrapper; first | (rw [if_pos (by decide +kernel)]; kernel_rfl) | (rw [if_neg (by decide +kernel)]; exact ⟨rfl, rfl⟩))
    (fun os started H enc _ => lifted os started H enc)

theorem proved : Rows.DiskStaysSaid := over
#print axioms proved
end Go.Proofs.Ytnpdmfhknbfmhaa.diskStays
