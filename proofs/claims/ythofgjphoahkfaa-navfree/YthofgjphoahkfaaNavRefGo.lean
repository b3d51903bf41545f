/-
  The document's own Toward, said again.
-/
import Derived.Test.YthofgjphoahkfaaNavRef
namespace Go.Proofs.Ythofgjphoahkfaa
open Go.RowKit

set_option maxRecDepth 8000 in
set_option maxHeartbeats 3200000 in
theorem refToward_any (ca ta : Option Addr) (cc b n c tlen tc : Nat) (f t : Nat → Int) (E : Nat → Nat → Int) (x y : Int) (w : World)
    (hc : Vec w.heap.size w ca 384 (Byts f)) (hf : ∀ i, 0 ≤ f i ∧ f i ≤ 255) (hE : Ents w b n E) (hnc : n ≤ c) (ht : Vec w.heap.size w ta tlen (Ints t)) (htb : ∀ i, -9223372036854775808 ≤ t i ∧ t i ≤ 9223372036854775807) :
    Calls Try.prog 12 #[.slice ca 384 cc, .slice (some ⟨b, 0, none⟩) n c, .int .i64 x, .int .i64 y, .slice ta tlen tc] w (Nv.SaysToward w f t tlen E n x y) := by
  have hc' := hide hc
  have hf' := hide hf
  have hE' := hide hE
  have ht' := hide ht
  have htb' := hide htb
  have hL' : Hid (Nv.Lst w (some ⟨b, 0, none⟩) n c E) := ⟨hE.1, hnc, .inr ⟨b, rfl, hE⟩⟩
  clear hc hf hE ht htb hnc
  by_cases hin : Gr.inB x y = true
  case neg =>
    rw [Bool.not_eq_true] at hin
    have he : Hid (Nv.IsToward f t tlen E n x y 0) := .inl ⟨if_neg (by rw [hin]; simp), rfl⟩
    have cI := hide (fun wq => refIn_any x y wq)
    rw [hin] at cI
    clear hin
    go_enter Try.func12, Try.ntmps12
    go_wp2_with fail
    refine (unhide cI _).mono ?_
    rintro e w1 ⟨rfl, rfl⟩
    go_wp2
    go_ret
    exact ⟨0, unhide he, rfl, World.grownBy.refl _ _⟩
  obtain ⟨b1, b2, b3, b4⟩ := (Gr.inB_iff _ _).1 hin
  obtain ⟨X, rfl⟩ : ∃ X : Nat, x = (X : Int) := ⟨x.toNat, by omega⟩
  obtain ⟨Y, rfl⟩ : ∃ Y : Nat, y = (Y : Int) := ⟨y.toNat, by omega⟩
  have hX : X < 24 := by omega
  have hY : Y < 16 := by omega
  have hme : Nv.num (X : Int) (Y : Int) = ((Y * 24 + X : Nat) : Int) := by unfold Nv.num; rw [if_pos hin]; omega
  have cI := hide (fun wq => refIn_any (X : Int) (Y : Int) wq)
  rw [hin] at cI
  have hme' := hide hme
  clear hin b1 b2 b3 b4 hme
  go_enter Try.func12, Try.ntmps12
  go_wp2_with fail
  refine (unhide cI _).mono ?_
  rintro e w1 ⟨rfl, rfl⟩
  go_wp2_with fail
  refine (refBlocked_any _ n c E _ _ (Y * 24 + X) _ (unhide hL') (unhide hme')).mono ?_
  rintro e w2 ⟨g, rfl, hg, hA, hB⟩
  have cF := hide (refField_any ca (some ⟨g, 0, none⟩) ta 384 tlen cc 384 tc f t (Nv.blk E n (Y * 24 + X)) w2 (((unhide hc').kept hB).mono hB.size) (unhide hf') (hA.vec _ hA.lt (by unfold maxLen; omega)) (((unhide ht').kept hB).mono hB.size) (unhide htb'))
  have hB' := hide hB
  clear hA hB hg
  go_wp2_with fail
  refine (unhide cF).mono ?_
  rintro e w4 ⟨F, ⟨g2, rfl, hg2, hA4, hB4⟩, hF⟩
  have hstep : Nv.IsToward f t tlen E n X Y (Nv.step F (Nv.st E n) (Y * 24 + X)) := .inr ⟨_, F, unhide hme', hF, rfl⟩
  have hgw : w1.grownBy w4 none := below_grown ((unhide hB').trans (hB4.mono (unhide hB').size))
  have hhi : F (Y * 24 + X) ≤ 400 := by
    by_cases h0 : 0 ≤ F (Y * 24 + X)
    · have := fieldHigh hF (F (Y * 24 + X)).toNat (Y * 24 + X) (by omega) (by omega)
      omega
    · omega
  have hA4' := hide hA4
  have hgw' := hide hgw
  have hst' := hide hstep
  have hEw := hide ((unhide hE').on hgw)
  have hc4 : w4.cell? ⟨g2, Y * 24 + X, none⟩ = some (.int .i64 (F (Y * 24 + X))) := hA4.cell (by omega)
  obtain ⟨V, hV⟩ : ∃ V, V = F (Y * 24 + X) := ⟨_, rfl⟩
  rw [← hV] at hc4 hhi
  have hV' := hide hV
  clear hA4 hgw hstep hg2 hB4 cF hF cI hE' hL' hc' ht' hB' hV
  by_cases hlo : V < 1
  · have hr : Hid (Nv.IsToward f t tlen E n X Y 0) := by
      have h := unhide hst'
      rwa [show Nv.step F (Nv.st E n) (Y * 24 + X) = 0 from if_pos (by rw [← unhide hV']; exact hlo)] at h
    go_wp2
    go_ret
    exact ⟨0, unhide hr, rfl, unhide hgw'⟩
  have hr : Hid (Nv.IsToward f t tlen E n X Y (Nv.wayFrom (Nv.may F (Nv.st E n) (Y * 24 + X)) 4 1)) := by
    have h := unhide hst'
    rwa [show Nv.step F (Nv.st E n) (Y * 24 + X) = Nv.wayFrom (Nv.may F (Nv.st E n) (Y * 24 + X)) 4 1 from if_neg (by rw [← unhide hV']; exact hlo)] at h
  clear hst'
  go_wp2_with fail
  go_loopw [13] (fun i wr => ∃ k : Nat, 1 ≤ k ∧ k ≤ 5 ∧ i = .int .i64 (k : Int) ∧ (∀ j : Nat, 1 ≤ j → j < k → Nv.may F (Nv.st E n) (Y * 24 + X) j = false) ∧ w4.grownBy wr none) (fun i _ => 5 - (intOf i).toNat)
  case atStart => exact ⟨1, by omega, by omega, rfl, fun j h1 h2 => by omega, World.grownBy.refl _ _⟩
  case round =>
    obtain ⟨k, h1, h5, rfl, hno, hgr⟩ := hrel
    have hno' := hide hno
    have hgr' := hide hgr
    clear hno hgr hc4
    by_cases hlt : k ≤ 4
    · have hlt' : (k : Int) ≤ 4 := by omega
      have HL := hide hlt
      have H1 := hide h1
      have wb := Fx.way_bd (k : Int)
      have hnx : Nv.next (Y * 24 + X) k = Nv.num ((X : Int) + (Fx.way (k : Int)).1) ((Y : Int) + (Fx.way (k : Int)).2) := by
        unfold Nv.next
        rw [show (Y * 24 + X) % 24 = X by omega, show (Y * 24 + X) / 24 = Y by omega]
      have cw := hide (fun wq => refWay_any (k : Int) wq)
      have hup : Hid (Nv.may F (Nv.st E n) (Y * 24 + X) k = false → ∀ j : Nat, 1 ≤ j → j < k + 1 → Nv.may F (Nv.st E n) (Y * 24 + X) j = false) := fun h j h1 h2 => by
        by_cases e : j = k
        · rw [e]; exact h
        · exact unhide hno' j h1 (by omega)
      generalize (Fx.way (k : Int)).1 = dx at *
      generalize (Fx.way (k : Int)).2 = dy at *
      obtain ⟨d1, d2, d3, d4⟩ := wb
      clear hlt h1 h5
      by_cases hin : Gr.inB ((X : Int) + dx) ((Y : Int) + dy) = true
      · obtain ⟨b1, b2, b3, b4⟩ := (Gr.inB_iff _ _).1 hin
        obtain ⟨PX, hPX⟩ : ∃ PX : Nat, (X : Int) + dx = (PX : Int) := ⟨((X : Int) + dx).toNat, by omega⟩
        obtain ⟨PY, hPY⟩ : ∃ PY : Nat, (Y : Int) + dy = (PY : Int) := ⟨((Y : Int) + dy).toNat, by omega⟩
        have hn : Nv.next (Y * 24 + X) k = ((PY * 24 + PX : Nat) : Int) := by rw [hnx]; unfold Nv.num; rw [if_pos hin, hPX, hPY]; omega
        have hmay := Nv.may_in (F := F) (st := Nv.st E n) hn
        have hp : PY * 24 + PX < 384 := by omega
        have hc6 : wr.cell? ⟨g2, PY * 24 + PX, none⟩ = some (.int .i64 (F (PY * 24 + PX))) := ((unhide hA4').grown (unhide hgr') (by simp)).cell hp
        have hst : Nv.st E n (PY * 24 + PX) = decide (0 ≤ En.first (En.atQ E (PX : Int) (PY : Int)) n) := by
          unfold Nv.st
          rw [show (PY * 24 + PX) % 24 = PX by omega, show (PY * 24 + PX) / 24 = PY by omega]
        have hPX' : PX < 24 := by omega
        have hPY' : PY < 16 := by omega
        have cI := hide (fun wq => refIn_any ((X : Int) + dx) ((Y : Int) + dy) wq)
        rw [hin, hPX, hPY] at cI
        clear hin b1 b2 b3 b4 hnx hn
        go_wp2_with fail
        refine (unhide cw _).mono ?_
        rintro e wx ⟨rfl, rfl⟩
        go_wp2_with fail
        refine (unhide cI _).mono ?_
        rintro e wy ⟨rfl, rfl⟩
        have hz : (PY : Int) * 24 + X + dx = ((PY * 24 + PX : Nat) : Int) := by omega
        have cA := hide (entRefAt_any b n c E (PX : Int) (PY : Int) wy ((unhide hEw).on (unhide hgr')))
        clear cI cw
        rw [hst, ← unhide hV'] at hmay
        by_cases hq : F (PY * 24 + PX) = V - 1
        · have hq' : (F (PY * 24 + PX) == V - 1) = true := by rw [beq_iff_eq]; exact hq
          rw [decide_eq_true hq, Bool.true_and] at hmay
          generalize En.first (En.atQ E (PX : Int) (PY : Int)) n = r at hmay cA
          clear hq hst
          by_cases hs : 0 ≤ r
          · rw [decide_eq_true hs] at hmay
            have hno2 := hide (unhide hup hmay)
            have hs' : ¬ r < 0 := by omega
            clear hmay hs
            go_wp2_with fail
            refine (unhide cA).mono ?_
            rintro e wz ⟨rfl, hgz⟩
            have hgz' := hide (grown_trans (unhide hgr') hgz)
            clear hgz hc6
            go_wp2
            go_roundw
            case rel => exact ⟨k + 1, by have := unhide H1; omega, by have := unhide HL; omega, by go_num, unhide hno2, unhide hgz'⟩
            case measure => have := unhide HL; simp [intOf]; omega
          · rw [decide_eq_false hs] at hmay
            have hr2 : Hid (Nv.IsToward f t tlen E n X Y (k : Int)) := by
              have h := unhide hr
              rwa [Nv.way_hit 4 k 1 (unhide hno') hmay (unhide H1) (by have := unhide HL; omega)] at h
            have hs' : r < 0 := by omega
            clear hmay hs
            go_wp2_with fail
            refine (unhide cA).mono ?_
            rintro e wz ⟨rfl, hgz⟩
            have hgz' := hide (grown_trans (unhide hgr') hgz)
            clear hgz hc6
            go_wp2
            go_ret
            exact ⟨_, unhide hr2, rfl, grown_trans (unhide hgw') (unhide hgz')⟩
        · have hq' : (F (PY * 24 + PX) == V - 1) = false := by rw [beq_eq_false_iff_ne]; exact hq
          rw [decide_eq_false hq, Bool.false_and] at hmay
          have hno2 := hide (unhide hup hmay)
          clear hq hmay cA hst
          go_wp2
          go_roundw
          case rel => exact ⟨k + 1, by have := unhide H1; omega, by have := unhide HL; omega, by go_num, unhide hno2, unhide hgr'⟩
          case measure => have := unhide HL; simp [intOf]; omega
      · rw [Bool.not_eq_true] at hin
        have hno2 := hide (unhide hup (Nv.may_out (hnx.trans (if_neg (by rw [hin]; simp)))))
        have cI := hide (fun wq => refIn_any ((X : Int) + dx) ((Y : Int) + dy) wq)
        rw [hin] at cI
        clear hin hnx
        go_wp2_with fail
        refine (unhide cw _).mono ?_
        rintro e wx ⟨rfl, rfl⟩
        go_wp2_with fail
        refine (unhide cI _).mono ?_
        rintro e wx ⟨rfl, rfl⟩
        go_wp2
        go_roundw
        case rel => exact ⟨k + 1, by have := unhide H1; omega, by have := unhide HL; omega, by go_num, unhide hno2, unhide hgr'⟩
        case measure => have := unhide HL; simp [intOf]; omega
    · have hge : ¬ (k : Int) ≤ 4 := by omega
      have hr2 : Hid (Nv.IsToward f t tlen E n X Y 0) := by
        have h := unhide hr
        rwa [Nv.way_none 4 1 fun j h1 h2 => unhide hno' j h1 (by omega)] at h
      go_wp2
      go_ret
      exact ⟨0, unhide hr2, rfl, grown_trans (unhide hgw') (unhide hgr')⟩

end Go.Proofs.Ythofgjphoahkfaa
