/-
  Whatever is read and written, and wherever the power goes, each call answers as the document says (calls behind the hundredth are let by): for every count and calls, at this commit; no condition.
-/
import Derived.Test.YtnpdmfhknbfmhaaRows
import Derived.WalkKit
import Derived.ProofKit
import Derived.OpenShut
import Derived.Test.YtnpdmfhknbfmhaaDiskPair
import Derived.Test.YtnpdmfhknbfmhaaTill
import Derived.BigQuiet
import Derived.Laws.AppendOwnNone
import Derived.ShutString
import Derived.ChangeOld
import Derived.SizedLaws
import Derived.Below
namespace Go.Proofs.Ytnpdmfhknbfmhaa.diskPlays
open Go.ChangeShapes Go.WideShapes Go.ChangeAt Go.RowKit
open Go.ChangeMaps (open_string shut_string)
set_option linter.unusedVariables false

theorem own : ownKnob Try.prog.godebug = none := by kernel_rfl
theorem laidOut : laidOutB Try.prog = true := by kernel_rfl

/-- WHAT THE WALK IS TOLD OF A SLICE OF INTEGERS THAT CAME IN: it is nil; or it leads to a row of 'cap' cells, the numbers 'zs' (the first 'len' are its elements, the rest its spare room), each fitting its kind. -/
def IsRow (k : IntKind) (w : World) (a : Option Addr) (len cap : Nat) (zs : List Int) : Prop :=
  (a = none ∧ len = 0 ∧ cap = 0 ∧ zs = []) ∨
  ∃ x, a = some x ∧ len ≤ cap ∧ cap ≤ maxLen ∧ zs.length = cap ∧ (∀ i, i < zs.length → w.cell? (x.add i) = some (.int k (zs.getD i 0))) ∧ ∀ n ∈ zs, (Lit.int k n).wf = true

theorem sec_pos {li : List Int} (h : 0 < (Dk.sec li).length) : 0 < li.length := by
  rcases Nat.eq_zero_or_pos li.length with e | e
  · rw [Dk.sec_same (.inl e), e] at h
    omega
  · exact e

set_option maxRecDepth 8000 in
set_option maxHeartbeats 12800000 in

theorem walk (a0 : Int) (a1 : Option Addr) (len1 cap1 : Nat) (z1 : Nat → Trip) (w : World) (hS1 : ∀ i, i < len1 → (z1 i).n ≤ 140737488351232 ∧ -9223372036854775808 ≤ (z1 i).v ∧ (z1 i).v ≤ 9223372036854775807) (w0 : (Lit.int .i64 a0).wf = true) (w1 : Trip.Came w a1 len1 z1) :
    Calls Try.prog 3 #[.int .i64 a0, .slice a1 len1 cap1] w fun e w' => e = .returned (.bool true) ∧ Below w.heap.size w w' := by
  have W1 := hide w1
  have HSZ := hide hS1
  have hl1 : (len1 : Int) ≤ 9223372036854775807 := by have := w1.1; unfold maxLen at this; omega
  have ck := hide (known13_any w)
  clear w0 w1 hS1
  by_cases hbad : a0 < 1 ∨ 1024 < a0
  · go_enter Try.func3, Try.ntmps3
    go_wp2_with fail
    refine (unhide ck).mono ?_
    rintro e x1 ⟨rfl, hg1⟩
    have hbel : Hid (Below w.heap.size w x1) := none_below hg1
    have cN := hide (dkNew_bad a0 x1 hbad)
    have cR := hide (refNew13_bad a0 x1 hbad)
    clear ck hg1 hbad
    go_wp2_with fail
    refine (unhide cN).mono ?_
    rintro e wq ⟨rfl, hq'⟩
    obtain rfl : x1 = wq := hq'.symm
    clear cN
    go_wp2_with fail
    refine (unhide cR).mono ?_
    rintro e wq ⟨rfl, hq'⟩
    obtain rfl : x1 = wq := hq'.symm
    clear cR
    go_wp2_with fail
    go_loopw [9, 10, 11, 12, 13, 14, 15, 16, 17] (fun v9 _ _ _ _ _ _ _ _ wr => v9 = .int .i64 0 ∧ wr = x1) (fun _ _ _ _ _ _ _ _ _ _ => 0)
    case atStart => exact ⟨rfl, rfl⟩
    case round =>
      obtain ⟨rfl, rfl⟩ := hrel
      go_wp2
      go_ret
      exact ⟨rfl, unhide hbel⟩
  obtain ⟨n, rfl⟩ : ∃ n : Nat, a0 = (n : Int) := ⟨a0.toNat, by omega⟩
  have hn1 : 1 ≤ n := by omega
  have hn2 : n ≤ 1024 := by omega
  have HN := hide (And.intro hn1 hn2)
  clear hbad hn1 hn2
  go_enter Try.func3, Try.ntmps3
  go_wp2_with fail
  refine (unhide ck).mono ?_
  rintro e x1 ⟨rfl, hg1⟩
  have G1 := hide hg1
  have cN := hide (Dk.mine_new n x1 (unhide HN).1 (unhide HN).2)
  clear ck hg1
  go_wp2_with fail
  refine (unhide cN).mono ?_
  rintro e x2 ⟨p, b, rfl, hM, hg2⟩
  have cR := hide (refNew13_any n x2 (unhide HN).1 (unhide HN).2)
  have M2 := hide hM
  have G2 := hide (grown_trans (unhide G1) hg2)
  clear cN hM hg2
  go_wp2_with fail
  refine (unhide cR).mono ?_
  rintro e x3 ⟨q, vv, Vs, rfl, hD, hg3⟩
  have hH : Hid (Dk.Highs w p b q vv) := ⟨Nat.le_trans (unhide G1).size (unhide M2).low, Nat.le_trans (unhide G1).size (unhide M2).lowb, Nat.le_trans (unhide G2).size hD.low, fun k e => Nat.le_trans (unhide G2).size (hD.rows.own.lt k e).1⟩
  have H0 : Hid (∃ s, Dk.Pair w x3 x1.heap.size x2.heap.size p b q vv n 0 s) := by
    refine ⟨Dk.fresh, (unhide M2).on hg3, Dk.Refd.low (B := fun _ => True) ⟨Vs, _, hD, by rw [List.length_replicate], fun k hk => ?_, fun _ _ _ _ => trivial⟩, Nat.le_refl _, by simp [Dk.fresh], Turn.new (grown_trans (unhide G2) hg3)⟩
    rw [List.getElem?_replicate, if_pos hk]
    rfl
  clear cR hD hg3 M2 G1 G2
  go_wp2_with fail
  go_loopw [9, 10, 11, 12, 13, 14, 15, 16, 17] (fun v9 _ _ _ _ _ _ _ _ wr => ∃ i : Nat, i ≤ 100 ∧ i ≤ len1 ∧ v9 = .int .i64 (i : Int) ∧ Hid (∃ s, Dk.Pair w wr x1.heap.size x2.heap.size p b q vv n i s)) (fun v9 _ _ _ _ _ _ _ _ _ => 200 - (intOf v9).toNat)
  case atStart => exact ⟨0, by omega, Nat.zero_le _, rfl, H0⟩
  case round =>
    clear H0
    obtain ⟨i, hi, hil, rfl, hX⟩ := hrel
    obtain ⟨s, hP⟩ := unhide hX
    clear hX
    by_cases hlt : i < len1 ∧ i < 100
    · have hlt1 : (i : Int) < (len1 : Int) := by omega
      have hlt2 : (i : Int) < 100 := by omega
      have HL := hide hlt
      have hT := hP.2.2.2.2
      obtain ⟨b1, o1, rfl, hb1, d0, d1, d2, hby⟩ := (unhide W1).2 i hlt.1
      have hsz := unhide HSZ i hlt.1
      obtain ⟨u, v, ai, ni, ci, li, hz⟩ : ∃ u v ai ni ci li, z1 i = ⟨u, v, ai, ni, ci, li⟩ := ⟨_, _, _, _, _, _, rfl⟩
      rw [hz] at d0 d1 d2 hby hsz
      simp only at d0 d1 d2 hby hsz
      obtain ⟨y1, y2, y3, y4⟩ := Byt.src hby
      have e0 : wr.cell? ⟨b1, o1 + i * 3, none⟩ = some (.int .i64 u) := (hT.cell hb1 (fun q => q) _).trans d0
      have e1 : wr.cell? ⟨b1, o1 + i * 3 + 1, none⟩ = some (.int .i64 v) := (hT.cell hb1 (fun q => q) _).trans d1
      have e2 : wr.cell? ⟨b1, o1 + i * 3 + 2, none⟩ = some (.slice ai ni ci) := (hT.cell hb1 (fun q => q) _).trans d2
      have HSV := hide hsz
      have hsi : Hid (Ck.Src w (.slice ai ni ci) li ∧ li.length = ni ∧ ni ≤ maxLen ∧ ∀ ad, ai = some ad → 0 < ni → ad.block < w.heap.size) := ⟨y2, y1, y3, y4⟩
      clear d0 d1 d2 hby hz y1 y2 y3 y4 hsz hlt hT
      go_upto_region 11 with fail
      obtain ⟨X, hX⟩ : ∃ X, wr.alloc (.cells #[.int .i64 u, .int .i64 v, .slice ai ni ci] 33) = X := ⟨_, rfl⟩
      obtain ⟨bx, hbx⟩ : ∃ g, wr.heap.size = g := ⟨_, rfl⟩
      have gX : wr.grownBy X none := by rw [← hX]; exact World.grownBy_alloc _ _ _
      have hrow := heap_alloc_new wr (.cells #[.int .i64 u, .int .i64 v, .slice ai ni ci] 33)
      rw [hX, hbx] at hrow
      have k0 : X.cell? ⟨bx, 0, none⟩ = some (.int .i64 u) := by rw [cell_of_row X bx 0 _ _ _ hrow]; rfl
      have k1 : X.cell? ⟨bx, 1, none⟩ = some (.int .i64 v) := by rw [cell_of_row X bx 1 _ _ _ hrow]; rfl
      have k2 : X.cell? ⟨bx, 2, none⟩ = some (.slice ai ni ci) := by rw [cell_of_row X bx 2 _ _ _ hrow]; rfl
      have hpb : Hid (bx ≠ p ∧ bx ≠ b) := by have h1 := hP.1.box.lt; have h2 := hP.1.ltb; exact ⟨by omega, by omega⟩
      have hpb2 : Hid (bx ≠ q ∧ ∀ k, vv.ownBlock = some k → bx ≠ k) := by
        obtain ⟨Vs, ps, hD, _⟩ := hP.2.1
        have h1 := hD.box.lt
        exact ⟨by omega, fun k e => by have := (hD.rows.own.lt k e).2; omega⟩
      have HP := hide (hP.on gX)
      have HB : Hid (s.left ≤ 9223372036854775807 ∧ s.done ≤ 1099511627776) := ⟨hP.2.2.2.1, by have := hP.2.2.1; omega⟩
      rw [hX, hbx]
      have HXl0 := hide (show bx < X.heap.size by rw [← hX, ← hbx]; simp)
      clear e0 e1 e2 hX hbx gX hrow hP hb1
      go_upto_block 2 with fail
      go_cut [11, 12, 13, 14, 15, 16, 17] from 60 to 155 (fun _ _ _ _ _ _ _ wx => Hid (∃ s, Dk.Pair w wx x1.heap.size x2.heap.size p b q vv n (i + 1) s))
      case first =>
        by_cases h1 : u = 1
        · subst h1
          obtain ⟨r, hr⟩ : ∃ r, Dk.rd n s v = r := ⟨_, rfl⟩
          obtain ⟨ra, rb⟩ := r
          have cA := Dk.mine_read _ p b n s v X (unhide HP).1
          rw [hr] at cA
          have CA := hide cA
          clear cA
          go_wp2_with fail
          refine (unhide CA).mono ?_
          rintro e Y1 ⟨a11, n11, c11, rfl, hs1, hg1⟩
          have k1' : Y1.cell? ⟨bx, 1, none⟩ = some (.int .i64 v) := (grown_cell hg1 bx 1 (unhide HXl0) (by simp)).trans k1
          have cB := Dk.ref_read _ q vv n _ s v Y1 ((unhide HP).2.1.on hg1)
          rw [hr] at cB
          have CB := hide cB
          have HS1 := hide hs1
          have HP1 := hide ((unhide HP).on hg1)
          clear cB CA k0 k1 k2 hs1 hg1 HP hr
          go_wp2_with fail
          refine (unhide CB).mono ?_
          rintro e Y2 ⟨a13, n13, c13, rfl, hs2, hg2⟩
          have t1 := Ck.Src.text ((unhide HS1).grown hg2)
          have t2 := Ck.Src.text hs2
          have hEnd : Hid (∃ s, Dk.Pair w Y2 x1.heap.size x2.heap.size p b q vv n (i + 1) s) := ⟨s, ((unhide HP1).on hg2).more (by omega)⟩
          simp only at t1 t2
          obtain ⟨str, hstr⟩ : ∃ str, strOfNums rb = str := ⟨_, rfl⟩
          rw [hstr] at t1 t2
          clear CB hs2 hg2 hstr HS1 HP1 k1'
          go_wp2_with fail
          go_meet
          exact hEnd
        have h1' : (u == 1) = false := by simp [h1]
        by_cases h2 : u = 2
        · subst h2
          clear h1
          have cS := hide (Dk.sector_any ai ni ci li X (unhide hsi).2.1 (unhide hsi).2.2.1 ((unhide hsi).1.grown (Turn.grownBy (unhide HP).2.2.2.2)))
          go_wp2_with fail
          refine (unhide cS).mono ?_
          rintro e Y ⟨ab, cb, rfl, hsb, hgb, hAb⟩
          obtain ⟨Lb, hLb⟩ : ∃ L, Dk.sec li = L := ⟨_, rfl⟩
          have hoffA : Hid (0 < Lb.length → ∀ ad, ab = some ad → ad.block ≠ p ∧ ad.block ≠ b ∧ ad.block ≠ q) := fun h0 ad e => by
            have hh := unhide hH
            have l1 := (unhide HP).1.box.lt
            have l2 := (unhide HP).1.ltb
            obtain ⟨Vs, ps, hD, _⟩ := (unhide HP).2.1
            have l3 := hD.box.lt
            have h1 := hh.1
            have h2 := hh.2.1
            have h3 := hh.2.2.1
            rcases hAb ad e with z | z
            · rw [e] at z
              have hp := sec_pos (li := li) (by rw [hLb]; exact h0)
              rw [(unhide hsi).2.1] at hp
              have := (unhide hsi).2.2.2 ad z.symm hp
              omega
            · omega
          have hmost : Lb.length ≤ 140737488351232 := by rw [← hLb]; exact Dk.sec_most (by rw [(unhide hsi).2.1]; exact (unhide HSV).1) (by omega)
          rw [hLb] at hsb ⊢
          obtain ⟨nb, hnb⟩ : ∃ m, Lb.length = m := ⟨_, rfl⟩
          have Hnb := hide hnb
          have SBY : Ck.Src Y (.slice ab nb cb) Lb := by rw [← hnb]; exact hsb
          rw [hnb]
          have hnbI : (nb : Int) ≤ 140737488351232 := by omega
          have HPY := hide ((unhide HP).on hgb)
          obtain ⟨Y1, hY1⟩ : ∃ x, Y.alloc (.cells #[] 5) = x := ⟨_, rfl⟩
          obtain ⟨gy, hgy⟩ : ∃ g, Y.heap.size = g := ⟨_, rfl⟩
          have g3 : Y.grownBy Y1 none := by rw [← hY1]; exact World.grownBy_alloc _ _ _
          have hoz : Hid (Y1.ownsRow Y.heap.size 5 1 (.slice (some ⟨gy, 0, none⟩) 0 0) 0 []) := by
            rw [← hY1, ← hgy]
            exact World.ownsRow_lit (base := Y.heap.size) (e := 5) (size := 1) Y #[] 0 (Nat.le_refl _) (by unfold maxLen; omega) rfl
          have hSA : Hid (Ck.Src Y1 (.slice ab nb cb) Lb) := SBY.grown g3
          have hbz : Hid (Y.heap.size ≤ Y1.heap.size) := g3.size
          have hnn : Hid (0 + Lb.length ≤ 140737488355328) := (show _ ≤ _ by omega)
          have kY := hide ((grown_cell hgb bx 1 (unhide HXl0) (by simp)).trans k1)
          have hlY := hide (Nat.lt_of_lt_of_le (unhide HXl0) hgb.size)
          have hnext : Hid (∀ v16 Z, Z.ownsRow Y.heap.size 5 1 v16 Lb.length (Ck.bys Lb) → Y1.grownBy Z (Value.slice (some ⟨gy, 0, none⟩) 0 0).ownBlock → (Value.slice (some ⟨gy, 0, none⟩) 0 0 ≠ .slice none 0 0 → v16 ≠ .slice none 0 0) → ∃ G cG, v16 = .slice (some ⟨G, 0, none⟩) nb cG ∧ Y.heap.size ≤ G ∧ G < Z.heap.size ∧ Y.grownBy Z none ∧ Z.ownsRow Y.heap.size 5 1 (.slice (some ⟨G, 0, none⟩) nb cG) nb (Ck.bys Lb)) := fun v16 Z q1 q2 q3 => by
            have hg : Y.grownBy Z none := grown_own g3 q2 (fun k e => by cases e; rw [hgy]; exact Nat.le_refl _)
            rw [hnb] at q1
            have hlt := q1.lt
            rcases q1.2 with ⟨e, _⟩ | ⟨G, cG, cur, rfl, z1, z2, _⟩
            · exact absurd e (q3 (by simp))
            · exact ⟨G, cG, rfl, z1, (hlt G rfl).2, hg, q1⟩
          have hgys := hide hgy
          have HSY := hide SBY
          clear cS hsb hgb hAb hLb hmost hnb SBY g3 HP k0 k1 k2
          go_wp2_with (at_builtin; refine wpList_append_wide rfl _ _ rfl Y.heap.size _ 0 [] rfl (unhide hoz) _ Lb rfl (unhide hSA) (unhide hnn) (unhide hbz) ?_)
          intro v16 Z hown hgrow hnil
          try rw [← unhide hgys] at hown
          obtain ⟨G, cG, rfl, hG1, hG2, hG3, hG4⟩ := unhide hnext v16 Z hown hgrow (fun _ => hnil)
          have gd : Y.grownBy Z.drew none := grown_drew hG3 1
          have HG := hide (And.intro hG1 hG2)
          have HPd := (unhide HPY).on gd
          have HMd := hide HPd.1
          have HRd : Hid (Dk.Refd Z.drew x2.heap.size q vv n (fun k => k < Y.heap.size) s) := (unhide HPY).2.1.on gd
          have HTd := hide HPd.2.2.2.2
          have HSB : Hid (Ck.Src Z.drew (.slice ab Lb.length cb) Lb) := by
            rw [unhide Hnb]
            exact (unhide HSY).grown gd
          have HOd : Hid (Z.drew.ownsRow Y.heap.size 5 1 (.slice (some ⟨G, 0, none⟩) nb cG) nb (Ck.bys Lb)) := hG4.kept (grown_drew (World.grownBy.refl _ none) 1) (.inr (by simp [Value.ownBlock]))
          have hGp : G ≠ p ∧ G ≠ b := by
            have l1 := (unhide HPY).1.box.lt
            have l2 := (unhide HPY).1.ltb
            omega
          have cW := Dk.mine_write _ p b n s v (some ⟨G, 0, none⟩) cG Lb Z.drew (unhide HMd) (by rw [unhide Hnb]; have h := unhide HOd; exact .inr ⟨⟨G, 0, none⟩, cG, by rw [unhide Hnb], fun j u hj => h.cells (g := G) rfl j u hj⟩) (fun ad _ e => by cases e; exact hGp.1) (unhide HB).1 (unhide HB).2
          rw [unhide Hnb] at cW
          have CW := hide cW
          clear cW
          have cW := CW
          clear CW
          have hoffG : Hid (∀ k, (Value.slice (some ⟨G, 0, none⟩) nb cG).ownBlock = some k → ¬ (k = p ∨ k = b)) := fun k e => by
            simp only [Value.ownBlock, Option.some.injEq] at e
            rw [← e]
            omega
          have hoffH : Hid (∀ (x : World), Dk.Refd x x2.heap.size q vv n (fun k => k < Y.heap.size) s → x.ownsRow Y.heap.size 5 1 (.slice (some ⟨G, 0, none⟩) nb cG) nb (Ck.bys Lb) → ∀ k, (Value.slice (some ⟨G, 0, none⟩) nb cG).ownBlock = some k → ¬ (k = q ∨ vv.ownBlock = some k)) := fun x z1 z2 k e => by
            obtain ⟨Vs, ps, hD, _⟩ := z1
            rintro (z | z)
            · exact Dk.own_off hD.box z2 (by decide) k e z
            · exact Ck.apart hD.rows.own z2 (by decide) k z e
          have hoffB : Hid (∀ ad, ab = some ad → 0 < Lb.length → ¬ (ad.block = p ∨ ad.block = b)) := fun ad e h0 => by
            have := unhide hoffA h0 ad e
            omega
          have hoffR : Hid (∀ ad, Lb.length = 64 → ab = some ad → ad.block ≠ q) := fun ad e h0 => (unhide hoffA (by omega) ad h0).2.2
          have hS0 : Hid (Z.drew.cell? ⟨bx, 1, none⟩ = some (.int .i64 v)) := (grown_cell gd bx 1 (unhide hlY) (by simp)).trans (unhide kY)
          have HXl := hide (Nat.lt_of_lt_of_le (unhide hlY) gd.size)
          clear hown hgrow hnil hG1 hG2 hG3 hG4 gd HPd hGp hnext hoz hSA hbz hnn hY1 hgy hgys HSY kY hlY hoffA
          go_upto_region 20 with fail
          refine wp_region_till (h := 10) (S := fun x => Hid (x.cell? ⟨bx, 1, none⟩ = some (.int .i64 v))) (by kernel_rfl) ?_
          refine wpTill_take (i := 0) (v := ?_) [4, 10] rfl (by kernel_rfl) (by kernel_rfl) (by kernel_rfl) (by kernel_rfl) (fun _ _ _ h => h) hS0 (Or.inl ⟨by rfl, ?_⟩) ?_
          rotate_left
          · intro x hSx
            clear hSx
            go_simp
            try with_reducible rfl
          simp only [Act.put, List.getElem_toArray, List.getElem_cons_zero, List.setIfInBounds_toArray, List.set_cons_succ, List.set_cons_zero]
          refine wpTill_take (i := 1) (v := ?_) [2, 4, 10] rfl (by kernel_rfl) (by kernel_rfl) (by kernel_rfl) (by kernel_rfl) (fun _ _ _ h => h) hS0 (Or.inl ⟨by rfl, ?_⟩) ?_
          rotate_left
          · intro x hSx
            clear hSx
            go_simp
            try with_reducible rfl
          simp only [Act.put, List.getElem_toArray, List.getElem_cons_zero, List.getElem_cons_succ, List.setIfInBounds_toArray, List.set_cons_succ, List.set_cons_zero]
          refine wpTill_take (i := 2) (v := ?_) [4, 10] rfl (by kernel_rfl) (by kernel_rfl) (by kernel_rfl) (by kernel_rfl) (fun _ _ _ h => h) hS0 (Or.inl ⟨by rfl, ?_⟩) ?_
          rotate_left
          · intro x hSx
            have b0 := unhide hSx
            clear hSx
            go_simp
            try with_reducible rfl
          simp only [Act.put, List.getElem_toArray, List.getElem_cons_zero, List.getElem_cons_succ, List.setIfInBounds_toArray, List.set_cons_succ, List.set_cons_zero]
          refine wpTill_take (i := 3) (v := ?_) [4, 10] rfl (by kernel_rfl) (by kernel_rfl) (by kernel_rfl) (by kernel_rfl) (fun _ _ _ h => h) hS0 (Or.inl ⟨by rfl, ?_⟩) ?_
          rotate_left
          · intro x hSx
            clear hSx
            go_simp
            try with_reducible rfl
          simp only [Act.put, List.getElem_toArray, List.getElem_cons_zero, List.getElem_cons_succ, List.setIfInBounds_toArray, List.set_cons_succ, List.set_cons_zero]
          refine wpTill_take (i := 5) (v := ?_) [9, 10] rfl (by kernel_rfl) (by kernel_rfl) (by kernel_rfl) (by kernel_rfl) (fun _ _ _ h => h) hS0 (Or.inl ⟨by rfl, ?_⟩) ?_
          rotate_left
          · intro x hSx
            clear hSx
            go_simp
            try with_reducible rfl
          simp only [Act.put, List.getElem_toArray, List.getElem_cons_zero, List.getElem_cons_succ, List.setIfInBounds_toArray, List.set_cons_succ, List.set_cons_zero]
          refine wpTill_take (i := 6) (v := ?_) [7, 9, 10] rfl (by kernel_rfl) (by kernel_rfl) (by kernel_rfl) (by kernel_rfl) (fun _ _ _ h => h) hS0 (Or.inl ⟨by rfl, ?_⟩) ?_
          rotate_left
          · intro x hSx
            clear hSx
            go_simp
            try with_reducible rfl
          simp only [Act.put, List.getElem_toArray, List.getElem_cons_zero, List.getElem_cons_succ, List.setIfInBounds_toArray, List.set_cons_succ, List.set_cons_zero]
          refine wpTill_take (i := 7) (v := ?_) [9, 10] rfl (by kernel_rfl) (by kernel_rfl) (by kernel_rfl) (by kernel_rfl) (fun _ _ _ h => h) hS0 (Or.inl ⟨by rfl, ?_⟩) ?_
          rotate_left
          · intro x hSx
            have b0 := unhide hSx
            clear hSx
            go_simp
            try with_reducible rfl
          simp only [Act.put, List.getElem_toArray, List.getElem_cons_zero, List.getElem_cons_succ, List.setIfInBounds_toArray, List.set_cons_succ, List.set_cons_zero]
          refine wpTill_take (i := 8) (v := ?_) [9, 10] rfl (by kernel_rfl) (by kernel_rfl) (by kernel_rfl) (by kernel_rfl) (fun _ _ _ h => h) hS0 (Or.inl ⟨by rfl, ?_⟩) ?_
          rotate_left
          · intro x hSx
            clear hSx
            go_simp
            try with_reducible rfl
          simp only [Act.put, List.getElem_toArray, List.getElem_cons_zero, List.getElem_cons_succ, List.setIfInBounds_toArray, List.set_cons_succ, List.set_cons_zero]
          refine wpTill_only (j := 4) (by kernel_rfl) rfl (fun K hK => ?_)
          go_simp
          refine (unhide cW).mono ?_
          rintro e Y1 ⟨rfl, hM1, ht1⟩
          have hS1 : Hid (Y1.cell? ⟨bx, 1, none⟩ = some (.int .i64 v)) := (ht1.cell (unhide HXl) (by have := unhide hpb; omega) 1).trans (unhide hS0)
          have R1 := (unhide HRd).past (unhide HMd) ht1
          have SB1 := (unhide HSB).turned ht1 (unhide hoffB)
          have cV := hide (Dk.ref_write _ q vv n _ s v ab cb Lb Y1 R1 SB1 (unhide hoffR) (unhide HB).1 (unhide HB).2)
          have O1 := hide (owns_turned (unhide HOd) ht1 (fun k e z => (unhide hoffG) k e z))
          have Hs1 := hide (And.intro hM1 (And.intro R1 (And.intro (Dk.still1 (unhide HTd) ht1 (unhide hH)) ht1.size)))
          rw [unhide Hnb] at cV
          clear hM1 ht1 R1 SB1 cW
          try go_simp
          refine hK.out _ _ (fun _ => hS1) ?_
          clear hK K
          refine wpTill_only (j := 9) (by kernel_rfl) rfl (fun K hK => ?_)
          go_simp
          refine (unhide cV).mono ?_
          rintro e Y2 ⟨rfl, hR2, ht2⟩
          have hM2 := (unhide Hs1).1.past (unhide Hs1).2.1 ht2
          have T2 := hide (Dk.still2 (unhide Hs1).2.2.1 ht2 (unhide hH))
          have O2 := hide (owns_turned (unhide O1) ht2 (unhide hoffH Y1 (unhide Hs1).2.1 (unhide O1)))
          have M2 := hide hM2
          have R2 := hide hR2
          have G2s := hide (Nat.le_trans (unhide Hs1).2.2.2 ht2.size)
          have HG1 := hide (unhide Hs1).2.2.2
          have hS2 : Hid (Y2.cell? ⟨bx, 1, none⟩ = some (.int .i64 v)) := (ht2.cell (Nat.lt_of_lt_of_le (unhide HXl) (unhide Hs1).2.2.2) (by have h1 := unhide hpb2; rintro (e | e); exact h1.1 e; exact h1.2 bx e rfl) 1).trans (unhide hS1)
          clear hR2 ht2 hM2 cV
          try go_simp
          refine hK.out _ _ (fun _ => hS2) ?_
          clear hK K
          refine wpTill_only (j := 10) (by kernel_rfl) rfl (fun K hK => ?_)
          go_simp
          refine hK.out _ _ (fun hx => absurd (hx.symm.trans (by kernel_rfl)) Bool.false_ne_true) ?_
          clear hK K
          refine wpTill_done (by kernel_rfl) ?_ _
          obtain ⟨s', hs'⟩ : ∃ s', (Dk.wr n s v Lb).2 = s' := ⟨_, rfl⟩
          have hdn := (Dk.wr_done n s v Lb).2
          have hlf := Dk.wr_left n s v Lb (unhide HB).1
          rw [hs'] at hdn hlf M2 R2
          have Hd : Hid (s'.done ≤ i + 1 ∧ s'.left ≤ 9223372036854775807) := ⟨by have := (unhide HPY).2.2.1; omega, hlf⟩
          have hR3 : Hid (Dk.Refd Y2 x2.heap.size q vv n (fun k => k ≠ G) s') := (unhide R2).mono fun k e => by
            have h1 := unhide HG
            have h2 := unhide HG1
            have h3 : Z.drew.heap.size = Z.heap.size := rfl
            rcases e with e | e
            · omega
            · omega
          have hGw : Hid (w.heap.size ≤ G) := (show w.heap.size ≤ G by have h1 := (unhide HPY).2.2.2.2.size; have h2 := (unhide HG).1; omega)
          have HI : Hid (∃ ys, Y2.ownsRow Y.heap.size 5 1 (.slice (some ⟨G, 0, none⟩) nb cG) nb ys ∧ ys.length = nb ∧ Dk.Mine Y2 x1.heap.size p b n s' ∧ Dk.Refd Y2 x2.heap.size q vv n (fun k => k ≠ G) s' ∧ Turn (fun _ => False) w Y2) := ⟨_, unhide O2, by rw [Dk.bys_len, unhide Hnb], unhide M2, unhide hR3, unhide T2⟩
          clear hdn hlf hs' M2 R2 hR3 O1 O2 T2 G2s HG1 Hs1 hS0 hS1 hS2 HMd HRd HTd HSB HOd hoffG hoffH hoffB hoffR HG HXl
          go_wp2_with fail
          go_loopw [17] (fun v17 wx => ∃ k : Nat, k ≤ nb ∧ v17 = .int .i64 (k : Int) ∧ Hid (∃ ys, wx.ownsRow Y.heap.size 5 1 (.slice (some ⟨G, 0, none⟩) nb cG) nb ys ∧ ys.length = nb ∧ Dk.Mine wx x1.heap.size p b n s' ∧ Dk.Refd wx x2.heap.size q vv n (fun k => k ≠ G) s' ∧ Turn (fun _ => False) w wx)) (fun v17 _ => nb - (intOf v17).toNat)
          case atStart => exact ⟨0, Nat.zero_le _, rfl, HI⟩
          case round =>
            clear HI
            obtain ⟨k, hk, rfl, hZ⟩ := hrel
            obtain ⟨ys, q1, q2, q3, q4, q5⟩ := unhide hZ
            clear hZ
            by_cases hkn : k < nb
            · have hkI : (k : Int) < (nb : Int) := by omega
              have HK := hide hkn
              have c1 := q1.cellAt k (by omega)
              rw [List.getElem?_eq_getElem (by omega)] at c1
              have f1 := fun i => q1.frozenAt i
              obtain ⟨yk, hyk⟩ : ∃ yk, ys[k] = yk := ⟨_, rfl⟩
              rw [hyk] at c1
              have hnew : Hid (∃ ys, (wr.setCell ⟨G, k, none⟩ (.int .u8 238)).ownsRow Y.heap.size 5 1 (.slice (some ⟨G, 0, none⟩) nb cG) nb ys ∧ ys.length = nb ∧ Dk.Mine (wr.setCell ⟨G, k, none⟩ (.int .u8 238)) x1.heap.size p b n s' ∧ Dk.Refd (wr.setCell ⟨G, k, none⟩ (.int .u8 238)) x2.heap.size q vv n (fun k => k ≠ G) s' ∧ Turn (fun _ => False) w (wr.setCell ⟨G, k, none⟩ (.int .u8 238))) := by
                have hf := Dk.Pair.fill q3 q4 q1 k (.int .u8 238)
                exact ⟨_, (q1.stored k (.int .u8 238)).1, by rw [List.length_set]; exact q2, hf.1, hf.2, q5.fresh G k _ (unhide hGw)⟩
              clear q1 q2 q3 q4 q5 hyk hk hkn
              go_wp2_with fail
              go_roundw
              case rel => exact ⟨k + 1, by have := unhide HK; omega, by go_num, hnew⟩
              case measure => simp [intOf]; have := unhide HK; omega
            · have hge : ¬ (k : Int) < (nb : Int) := by omega
              have hEnd : Hid (∃ s, Dk.Pair w wr x1.heap.size x2.heap.size p b q vv n (i + 1) s) := ⟨s', q3, q4.low, (unhide Hd).1, (unhide Hd).2, q5⟩
              clear q1 q2 q3 q4 q5 hk hkn
              go_wp2_with fail
              go_meet
              exact hEnd
        have h2' : (u == 2) = false := by simp [h2]
        by_cases h3 : u = 3
        · subst h3
          clear h1 h2
          have CA := hide (Dk.mine_cut _ p b n s v X (unhide HP).1)
          go_wp2_with fail
          refine (unhide CA).mono ?_
          rintro e Y1 ⟨rfl, hM1, ht1⟩
          have k1' : Y1.cell? ⟨bx, 1, none⟩ = some (.int .i64 v) := (ht1.cell (unhide HXl0) (by have := unhide hpb; omega) 1).trans k1
          have R1 := (unhide HP).2.1.past (unhide HP).1 ht1
          have CB := hide (Dk.ref_cut _ q vv n _ s v Y1 R1)
          have Hs1 := hide (And.intro hM1 (And.intro R1 (Dk.still1 (unhide HP).2.2.2.2 ht1 (unhide hH))))
          clear CA hM1 ht1 R1 k0 k1 k2
          go_wp2_with fail
          refine (unhide CB).mono ?_
          rintro e Y2 ⟨rfl, hR2, ht2⟩
          have hEnd : Hid (∃ s, Dk.Pair w Y2 x1.heap.size x2.heap.size p b q vv n (i + 1) s) := ⟨_, (unhide Hs1).1.past (unhide Hs1).2.1 ht2, hR2.low, by have := (unhide HP).2.2.1; simp only; omega, (unhide HSV).2.2, Dk.still2 (unhide Hs1).2.2 ht2 (unhide hH)⟩
          clear CB hR2 ht2 Hs1 HP k1'
          go_wp2_with fail
          go_meet
          exact hEnd
        have h3' : (u == 3) = false := by simp [h3]
        by_cases h4 : u = 4
        · subst h4
          clear h1 h2 h3
          have CA := hide (Dk.mine_start _ p b n s X (unhide HP).1)
          go_wp2_with fail
          refine (unhide CA).mono ?_
          rintro e Y1 ⟨rfl, hM1, ht1⟩
          have R1 := (unhide HP).2.1.past (unhide HP).1 ht1
          have CB := hide (Dk.ref_start _ q vv n _ s Y1 R1)
          have Hs1 := hide (And.intro hM1 (And.intro R1 (Dk.still1 (unhide HP).2.2.2.2 ht1 (unhide hH))))
          clear CA hM1 ht1 R1 k0 k1 k2
          go_wp2_with fail
          refine (unhide CB).mono ?_
          rintro e Y2 ⟨rfl, hR2, ht2⟩
          have hEnd : Hid (∃ s, Dk.Pair w Y2 x1.heap.size x2.heap.size p b q vv n (i + 1) s) := ⟨_, (unhide Hs1).1.past (unhide Hs1).2.1 ht2, hR2.low, by have := (unhide HP).2.2.1; simp only; omega, by simp, Dk.still2 (unhide Hs1).2.2 ht2 (unhide hH)⟩
          clear CB hR2 ht2 Hs1 HP
          go_wp2_with fail
          go_meet
          exact hEnd
        have h4' : (u == 4) = false := by simp [h4]
        have hEnd : Hid (∃ s, Dk.Pair w X x1.heap.size x2.heap.size p b q vv n (i + 1) s) := ⟨s, (unhide HP).more (by omega)⟩
        clear h1 h2 h3 h4 HP k0 k1 k2
        go_wp2_with fail
        go_meet
        exact hEnd
      case rest =>
        obtain ⟨Z, hZ⟩ : ∃ Z, wc = Z := ⟨_, rfl⟩
        rw [hZ] at hcut ⊢
        clear hZ wc
        obtain ⟨t, hQ⟩ := unhide hcut
        obtain ⟨ft, dn, lt, dd⟩ := t
        obtain ⟨Vs, ps, hD, hpl, _⟩ := hQ.2.1
        obtain ⟨gv, cv, hvv, _, _⟩ := hD.form
        have hc4 := hD.cells
        rw [hpl] at hvv
        rw [hvv] at hc4
        obtain ⟨c0, c1, c2, c3, _⟩ := hc4
        simp only at c1 c2 c3
        have cA : Hid (∀ k, Calls Try.prog 18 #[.pointer (some ⟨p, 0, none⟩)] (Z.drewN k) fun e w' => e = .returned (.bool dd) ∧ w' = Z.drewN k) := fun k => dkDead_any _ p b n _ _ _ _ _ (hQ.1.on (grown_drew (World.grownBy.refl _ none) k))
        have cB : Hid (∀ k, Calls Try.prog 19 #[.pointer (some ⟨p, 0, none⟩)] (Z.drewN k) fun e w' => e = .returned (.int .i64 (dn : Int)) ∧ w' = Z.drewN k) := fun k => dkWrites_any _ p b n _ _ _ _ _ (hQ.1.on (grown_drew (World.grownBy.refl _ none) k))
        have cC : Hid (∀ k, Calls Try.prog 20 #[.pointer (some ⟨p, 0, none⟩)] (Z.drewN k) fun e w' => e = .returned (.int .i64 (n : Int)) ∧ w' = Z.drewN k) := fun k => dkSectors_any _ p b n _ _ _ _ _ (hQ.1.on (grown_drew (World.grownBy.refl _ none) k))
        have hEnd : Hid (∀ k, Hid (∃ s, Dk.Pair w (Z.drewN k) x1.heap.size x2.heap.size p b q vv n (i + 1) s)) := fun k => ⟨_, hQ.on (grown_drew (World.grownBy.refl _ none) k)⟩
        clear hcut hQ hD hpl hvv HP k0 k1 k2
        go_upto_region 32 with fail
        go_quiet (first | (go_at_call 18; exact Calls.quiet_of_same (unhide cA _)) | (go_at_call 19; exact Calls.quiet_of_same (unhide cB _)) | (go_at_call 20; exact Calls.quiet_of_same (unhide cC _)))
        go_wp2_with fail
        go_roundw
        case rel => exact ⟨i + 1, by have := unhide HL; omega, by have := unhide HL; omega, by go_num, unhide hEnd _⟩
        case measure => simp [intOf]; have := unhide HL; omega
    · have hge : (¬ (i : Int) < (len1 : Int)) ∨ ((i : Int) < (len1 : Int) ∧ ¬ (i : Int) < 100) := by omega
      have hbel : Hid (Below w.heap.size w wr) := Turn.below hP.2.2.2.2 (Nat.le_refl _) (fun _ q => q.elim)
      clear hlt hi hil hP
      rcases hge with hge | ⟨hge, hge2⟩
      all_goals
        go_wp2
        go_ret
        exact ⟨rfl, unhide hbel⟩

set_option maxRecDepth 100000 in
theorem lifted (os : Os) (started : os.Started) (H : Type) (enc : TypeId × Value → H) :
    ReturnsInHanded {} Try.checked os 3 .any (Rows.diskPlaysSpec.pre6 enc Try.prog Try.f3 Rows.diskPlaysRow.domain false) (Rows.diskPlaysSpec.post enc Try.prog Try.f3 false true false false) := by
  refine returnsInHanded_of_change_sized (C := Try.checked) own started (by kernel_rfl) Try.func3
    (ChangeSpec.witness6 (enc := enc) (C := Try.checked) false ⟨#[], #[.int .i64 0, .slice none 0 0], []⟩ 8 (by kernel_rfl) (by kernel_rfl) (by kernel_rfl) (by kernel_rfl)) ?_
  intro W base args ds gs before hval0 hW hcnd hreach _
  have hval : ∀ (j : Nat) t v, Try.f3.params[j]? = some t → args[j]? = some v → Value.okWide Try.prog W .any base t v := hval0
  have hW' := hW
  obtain ⟨p, q, hA0, hV, rfl, hfz, hnd⟩ := hW
  have hA : DataW.TrodAll enc Try.prog W 0 (fun _ => true) true Try.f3.params.toList args.toList ds p := hA0
  rw [Try.params3] at hA hval
  obtain ⟨v0, vs0, d0, ds0, p0, q0, hargs, rfl, rfl, h0, r0⟩ := trodAll_cons hA
  obtain ⟨v1, vs1, d1, ds1, p1, q1, rfl, rfl, rfl, h1, r1⟩ := trodAll_cons r0
  obtain ⟨rfl, rfl, rfl⟩ := trodAll_nil r1
  obtain rfl : args = #[v0, v1] := by cases args; simp_all
  obtain ⟨rfl, rfl⟩ := trodVars_none hV
  obtain ⟨a0, rfl, rfl, rfl, w0⟩ := open_int Try.underlying3 (hval 0 3 v0 rfl rfl) h0
  obtain ⟨a1, len1, cap1, rfl⟩ := okWide_slice Try.underlying22 (hval 1 22 v1 rfl rfl)
  have k1 := h1
  have lt1 : ∀ x ∈ p1, x.block < W.heap.size := by obtain ⟨m, hm⟩ := k1; exact DataW.trod_lt m _ _ _ hm
  obtain ⟨z1, w1⟩ : ∃ z, Trip.Came W a1 len1 z := by
    obtain ⟨fuel, hf⟩ := h1
    exact open_calls (by simpa [Value.cells] using hf)
  have hS1 : ∀ i, i < len1 → (z1 i).n ≤ 140737488351232 ∧ -9223372036854775808 ≤ (z1 i).v ∧ (z1 i).v ≤ 9223372036854775807 := by
    obtain ⟨fuel, hf⟩ := k1
    exact open_calls_small (by simpa [Value.cells] using hf) (fun n hn => by simpa using List.all_eq_true.1 hreach _ (DataW.weights_mem_each (j := 1) rfl rfl n hn)) w1
  clear hA0 hval0
  refine (walk a0 a1 len1 cap1 z1 W hS1 w0 w1).mono fun e W' ⟨he, bel⟩ => ?_
  subst he
  exact ⟨_, rfl, _, _, _, [], _, [], hW', trodAll_mk1 (shut_bool Try.underlying4 _), (trodAll_cons_mk (shut_int Try.underlying3 w0) (trodAll_cons_mk (Below.trod laidOut (by kernel_rfl) (of_decide_eq_true (by kernel_rfl)) k1 bel lt1) trodAll_mk0)), rfl, bel.frame _, fun h => by cases h⟩

theorem over : Rows.diskPlaysRow.holds Try.pinned (OpenSpec.ofChange Rows.diskPlaysSpec) :=
  OpenClaim.holds_of_wide 3 Try.f3 rfl rfl rfl rfl rfl rfl rfl ⟨rfl, rfl, rfl, rfl, rfl⟩ rfl rfl rfl rfl rfl (by kernel_rfl) Try.func3 (by kernel_rfl)
    (of_decide_eq_true (by kernel_rfl)) (by unfold Func.isWrapper; first | (rw [if_pos (by decide +kernel)]; kernel_rfl) | (rw [if_neg (by decide +kernel)]; exact ⟨rfl, rfl⟩))
    (fun os started H enc _ => lifted os started H enc)

theorem proved : Rows.DiskPlaysSaid := over
#print axioms proved
end Go.Proofs.Ytnpdmfhknbfmhaa.diskPlays
