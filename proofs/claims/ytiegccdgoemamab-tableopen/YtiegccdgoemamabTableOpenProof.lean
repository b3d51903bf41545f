/-
  For any numbers the law TableOpen answers true: seats are open in order, from 1 on, till all are taken, and one that was given up is open again from that frame on; no condition.
-/
import Derived.Test.YtiegccdgoemamabRows
import Derived.WalkKit
import Derived.ProofKit
import Derived.OpenShut
import Derived.Test.YtiegccdgoemamabTableKnown
import Derived.Below
import Derived.ChangeOld
import Derived.ShutString
namespace Go.Proofs.Ytiegccdgoemamab.tableOpen
open Go.ChangeShapes Go.WideShapes Go.ChangeAt Go.RowKit
open Go.ChangeMaps (open_string shut_string)
set_option linter.unusedVariables false

theorem own : ownKnob Try.prog.godebug = none := by kernel_rfl

/-- Seats that are taken in order. -/
def Tb.line : Nat → Nat → Int := fun i j => if j = 0 then (i : Int) else if j = 1 then (if i = 0 then 1 else 10 * (i : Int)) else 0

theorem Tb.line_open (k : Nat) (h1 : 1 ≤ k) (h3 : k ≤ 3) : Tb.opens Tb.line k 100 = (k : Int) := by
  rcases (show k = 1 ∨ k = 2 ∨ k = 3 by omega) with rfl | rfl | rfl <;> decide

theorem Tb.line_err (k : Nat) (h1 : 1 ≤ k) (h3 : k ≤ 3) : Tb.err Tb.line k 2 (k : Int) (10 * (k : Int)) 0 = 0 := by
  rcases (show k = 1 ∨ k = 2 ∨ k = 3 by omega) with rfl | rfl | rfl <;> decide

theorem Tb.line_next {w : World} {a : Option Addr} {k c : Nat} (hk : 1 ≤ k) (h : Tb.Tab w a (k + 1) c (Tb.put Tb.line k (Tb.span (k : Int) (10 * (k : Int))))) : Tb.Tab w a (k + 1) c Tb.line := by
  refine h.congr fun i j hi hj => ?_
  unfold Tb.put
  by_cases e : i = k
  · rw [if_pos e, e]
    unfold Tb.span Tb.line
    rcases (show j = 0 ∨ j = 1 ∨ j = 2 ∨ j = 3 by omega) with rfl | rfl | rfl | rfl
    · rfl
    · rw [if_neg (by decide), if_pos rfl, if_neg (by decide), if_pos rfl, if_neg (by omega)]
    · rfl
    · rfl
  · rw [if_neg e]

set_option maxRecDepth 16000 in
theorem Tb.line_11 : Tb.err Tb.line 2 3 1 60 50 = 0 ∧ Tb.next Tb.line 2 3 1 60 50 = (2, Tb.set (Tb.set Tb.line 1 2 60) 1 3 50) ∧ (∀ t : Nat, t < 60 → Tb.opens (Tb.set (Tb.set Tb.line 1 2 60) 1 3 50) 2 (t : Int) = 2) ∧ ∀ t : Nat, t < 40 → Tb.opens (Tb.set (Tb.set Tb.line 1 2 60) 1 3 50) 2 (((t + 60 : Nat) : Int)) = 1 := by
  refine ⟨by decide, rfl, by decide, by decide⟩

set_option maxRecDepth 16000 in
theorem Tb.line_21 : Tb.err Tb.line 3 3 1 60 50 = 0 ∧ Tb.next Tb.line 3 3 1 60 50 = (3, Tb.set (Tb.set Tb.line 1 2 60) 1 3 50) ∧ (∀ t : Nat, t < 60 → Tb.opens (Tb.set (Tb.set Tb.line 1 2 60) 1 3 50) 3 (t : Int) = 3) ∧ ∀ t : Nat, t < 40 → Tb.opens (Tb.set (Tb.set Tb.line 1 2 60) 1 3 50) 3 (((t + 60 : Nat) : Int)) = 1 := by
  refine ⟨by decide, rfl, by decide, by decide⟩

set_option maxRecDepth 16000 in
theorem Tb.line_22 : Tb.err Tb.line 3 3 2 60 50 = 0 ∧ Tb.next Tb.line 3 3 2 60 50 = (3, Tb.set (Tb.set Tb.line 2 2 60) 2 3 50) ∧ (∀ t : Nat, t < 60 → Tb.opens (Tb.set (Tb.set Tb.line 2 2 60) 2 3 50) 3 (t : Int) = 3) ∧ ∀ t : Nat, t < 40 → Tb.opens (Tb.set (Tb.set Tb.line 2 2 60) 2 3 50) 3 (((t + 60 : Nat) : Int)) = 2 := by
  refine ⟨by decide, rfl, by decide, by decide⟩

set_option maxRecDepth 16000 in
theorem Tb.line_31 : Tb.err Tb.line 4 3 1 60 50 = 0 ∧ Tb.next Tb.line 4 3 1 60 50 = (4, Tb.set (Tb.set Tb.line 1 2 60) 1 3 50) ∧ (∀ t : Nat, t < 60 → Tb.opens (Tb.set (Tb.set Tb.line 1 2 60) 1 3 50) 4 (t : Int) = -1) ∧ ∀ t : Nat, t < 40 → Tb.opens (Tb.set (Tb.set Tb.line 1 2 60) 1 3 50) 4 (((t + 60 : Nat) : Int)) = 1 := by
  refine ⟨by decide, rfl, by decide, by decide⟩

set_option maxRecDepth 16000 in
theorem Tb.line_32 : Tb.err Tb.line 4 3 2 60 50 = 0 ∧ Tb.next Tb.line 4 3 2 60 50 = (4, Tb.set (Tb.set Tb.line 2 2 60) 2 3 50) ∧ (∀ t : Nat, t < 60 → Tb.opens (Tb.set (Tb.set Tb.line 2 2 60) 2 3 50) 4 (t : Int) = -1) ∧ ∀ t : Nat, t < 40 → Tb.opens (Tb.set (Tb.set Tb.line 2 2 60) 2 3 50) 4 (((t + 60 : Nat) : Int)) = 2 := by
  refine ⟨by decide, rfl, by decide, by decide⟩

set_option maxRecDepth 16000 in
theorem Tb.line_33 : Tb.err Tb.line 4 3 3 60 50 = 0 ∧ Tb.next Tb.line 4 3 3 60 50 = (4, Tb.set (Tb.set Tb.line 3 2 60) 3 3 50) ∧ (∀ t : Nat, t < 60 → Tb.opens (Tb.set (Tb.set Tb.line 3 2 60) 3 3 50) 4 (t : Int) = -1) ∧ ∀ t : Nat, t < 40 → Tb.opens (Tb.set (Tb.set Tb.line 3 2 60) 3 3 50) 4 (((t + 60 : Nat) : Int)) = 3 := by
  refine ⟨by decide, rfl, by decide, by decide⟩

set_option maxRecDepth 8000 in
set_option maxHeartbeats 12800000 in

theorem walk (a0 : Int) (a1 : Int) (a2 : Int) (w0 : (Lit.int .i64 a0).wf = true) (w1 : (Lit.int .i64 a1).wf = true) (w2 : (Lit.int .i64 a2).wf = true) (w : World) :
    Calls Try.prog 5 #[.int .i64 a0, .int .i64 a1, .int .i64 a2] w fun e w' => e = .returned (.bool true) ∧ Below w.heap.size w w' := by
  clear w0 w1 w2
  have hm0 := Int.emod_nonneg a0 (b := 4) (by decide)
  have hm1 := Int.emod_lt_of_pos a0 (b := 4) (by decide)
  have hf0 := hide (Int.emod_nonneg a2 (b := 100) (by decide))
  have hf1 := hide (Int.emod_lt_of_pos a2 (b := 100) (by decide))
  have cw := hide fun x => within16_any a0 4 x (by decide) (by decide)
  have cf := hide fun x => within16_any a2 100 x (by decide) (by decide)
  have cg := hide fun (n : Int) (h : 0 < n) (h4 : n < 4) x => within16_any a1 n x h (by omega)
  obtain ⟨N, hN⟩ : ∃ N : Nat, a0 % 4 = (N : Int) := ⟨(a0 % 4).toNat, by omega⟩
  rw [hN] at cw hm0 hm1
  have hN3 := hide (show N ≤ 3 by omega)
  clear hN hm0 hm1
  have c1 := hide fun x => tbAdd_ok none 0 0 Tb.zero 2 0 0 1 0 x (Tb.noTab x _) (by omega) (by decide) (Tb.first 0 1 (by decide) (by decide) (by decide)) 1 (Tb.put Tb.zero 0 (Tb.span 0 1)) rfl
  have hz := hide (show ∀ (x : World) a c, Tb.Tab x a 1 c (Tb.put Tb.zero 0 (Tb.span 0 1)) → Tb.Tab x a 1 c Tb.line from fun x a c h => h.congr fun i j hi hj => by
    obtain rfl : i = 0 := by omega
    rcases (show j = 0 ∨ j = 1 ∨ j = 2 ∨ j = 3 by omega) with rfl | rfl | rfl | rfl <;> rfl)
  have co := hide fun a k c (x : World) (h : Tb.Tab x a k c Tb.line) => tbOpens_any a k c Tb.line 100 x h.2.2.1 (Nat.le_trans h.1 h.2.1)
  have ca := hide fun a k c (x : World) (h1 : 1 ≤ k) (h3 : k ≤ 3) (h : Tb.Tab x a k c Tb.line) => tbAdd_ok a k c Tb.line 2 0 (k : Int) (10 * (k : Int)) 0 x h (by omega) (by omega) (Tb.line_err k h1 h3) (k + 1) (Tb.put Tb.line k (Tb.span (k : Int) (10 * (k : Int)))) (if_pos rfl)
  obtain ⟨L, hL⟩ : ∃ L, Tb.line = L := ⟨_, rfl⟩
  have lo := hide Tb.line_open
  have ln := hide (show ∀ (w : World) (a : Option Addr) (k c : Nat), 1 ≤ k → Tb.Tab w a (k + 1) c (Tb.put Tb.line k (Tb.span (k : Int) (10 * (k : Int)))) → Tb.Tab w a (k + 1) c Tb.line from fun w a k c h => Tb.line_next h)
  have lo4 : Hid (Tb.opens Tb.line 4 100 = -1) := hide (by decide)
  have l11 := hide Tb.line_11
  have l21 := hide Tb.line_21
  have l22 := hide Tb.line_22
  have l31 := hide Tb.line_31
  have l32 := hide Tb.line_32
  have l33 := hide Tb.line_33
  rw [hL] at co ca hz lo lo4 ln l11 l21 l22 l31 l32 l33
  clear hL
  go_enter Try.func5, Try.ntmps5
  go_wp2_with fail
  refine (known16_any _).mono ?_
  rintro e wk ⟨rfl, hgk⟩
  have HK := hide hgk
  clear hgk
  go_wp2_with fail
  refine (unhide cw _).mono ?_
  rintro e wk' ⟨rfl, rfl⟩
  clear cw
  go_wp2_with fail
  refine (unhide c1 _).mono ?_
  rintro e x ⟨a, c, rfl, ht, hx⟩
  have HT := hide (unhide hz _ _ _ ht)
  have HX := hide (grown_trans (unhide HK) hx)
  clear c1 ht hx HK hz
  go_wp2_with fail
  go_loopw [7, 8, 9] (fun v7 v8 v9 wr => ∃ (k c : Nat) (a : Option Addr), 1 ≤ k ∧ k ≤ N + 1 ∧ v9 = .int .i64 (k : Int) ∧ v8 = .int .i64 0 ∧ v7 = .slice a k c ∧ Hid (w.grownBy wr none ∧ Tb.Tab wr a k c L)) (fun _ _ v9 _ => 5 - (intOf v9).toNat)
  case atStart => exact ⟨1, c, a, by omega, by omega, rfl, rfl, rfl, unhide HX, unhide HT⟩
  case round =>
    clear HT HX
    obtain ⟨k, c, a, hk1, hk, rfl, rfl, rfl, hrel⟩ := hrel
    by_cases hlt : k ≤ N
    · have hlt' : (k : Int) ≤ (N : Int) := by omega
      have hk3 : (k : Int) ≤ 3 := by have := unhide hN3; omega
      have H1 := hide hk1
      have H3 := hide (show k ≤ 3 by have := unhide hN3; omega)
      have HN := hide hlt
      have c2 := hide (unhide co a k c wr (unhide hrel).2)
      rw [unhide lo k (unhide H1) (unhide H3)] at c2
      have hw10 : IntKind.i64.wrap (10 * (k : Int)) = 10 * (k : Int) := by
        rw [IntKind.wrap_i64]
        have := unhide H3
        omega
      clear hk1 hk hlt
      go_wp2_with fail
      refine (unhide c2).mono ?_
      rintro e y ⟨rfl, hy⟩
      have HY := hide hy
      clear hy c2
      go_wp2_with fail
      refine (unhide ca a k c y (unhide H1) (unhide H3) ((unhide hrel).2.on (unhide HY))).mono ?_
      rintro e z ⟨a', c', rfl, ht, hz⟩
      have HT := hide (unhide ln _ _ _ _ (unhide H1) ht)
      have HZ := hide (grown_trans (unhide hrel).1 (grown_trans (unhide HY) hz))
      clear ht hz hrel HY
      go_wp2
      go_roundw
      case rel => exact ⟨k + 1, c', a', by omega, by have := unhide HN; omega, by go_num, rfl, rfl, unhide HZ, unhide HT⟩
      case measure => simp [intOf]; have := unhide H3; omega
    · obtain rfl : k = N + 1 := by omega
      have hge : ¬ ((N + 1 : Nat) : Int) ≤ (N : Int) := by omega
      have c2 := hide (unhide co a (N + 1) c wr (unhide hrel).2)
      have hw : IntKind.i64.wrap ((N : Int) + 1) = (N : Int) + 1 := by
        rw [IntKind.wrap_i64]
        have := unhide hN3
        omega
      clear hlt hk hk1 ca co ln
      rcases (show N = 0 ∨ N = 1 ∨ N = 2 ∨ N = 3 by have := unhide hN3; omega) with rfl | rfl | rfl | rfl
      · have ho : Tb.opens L 1 100 = 1 := unhide lo 1 (by decide) (by decide)
        rw [ho] at c2
        clear ho lo lo4 hN3 hw
        go_wp2_with fail
        refine (unhide c2).mono ?_
        rintro e y ⟨rfl, hy⟩
        have HY := hide (grown_trans (unhide hrel).1 hy)
        clear hy c2
        go_wp2
        go_ret
        exact ⟨rfl, none_below (unhide HY)⟩
      · have ho : Tb.opens L 2 100 = 2 := unhide lo 2 (by decide) (by decide)
        rw [ho] at c2
        clear ho lo lo4 hN3 hw
        have g0 := Int.emod_nonneg a1 (b := 1) (by decide)
        have g1 := Int.emod_lt_of_pos a1 (b := 1) (by decide)
        have cg2 := hide (unhide cg 1 (by decide) (by decide))
        clear cg
        obtain ⟨G, hG⟩ : ∃ G, a1 % 1 = G := ⟨_, rfl⟩
        rw [hG] at cg2 g0 g1
        clear hG
        go_wp2_with fail
        refine (unhide c2).mono ?_
        rintro e y ⟨rfl, hy⟩
        have HY := hide (grown_trans (unhide hrel).1 hy)
        have HTY := hide ((unhide hrel).2.on hy)
        clear hy c2 hrel
        go_wp2_with fail
        refine (unhide cg2 _).mono ?_
        rintro e y' ⟨rfl, rfl⟩
        clear cg2
        obtain ⟨F, hF⟩ : ∃ F : Nat, a2 % 100 = (F : Int) := ⟨(a2 % 100).toNat, by have := unhide hf0; omega⟩
        have HF := hide (show F < 100 by have := unhide hf1; omega)
        rw [hF] at cf
        clear hf0 hf1 hF
        rcases (show G = 0 by omega) with rfl
        · clear g0 g1
          have L1 := hide (unhide l11).2.2.1
          have L2 := hide (unhide l11).2.2.2
          have ca := hide (tbAdd_ok a 2 c L 3 0 1 60 50 y' (unhide HTY) (by decide) (by decide) (unhide l11).1 2 _ (unhide l11).2.1)
          clear l11 l21 l22 l31 l32 l33 HTY
          obtain ⟨E, hE⟩ : ∃ E, Tb.set (Tb.set L 1 2 60) 1 3 50 = E := ⟨_, rfl⟩
          rw [hE] at L1 L2 ca
          clear hE
          go_wp2_with fail
          refine (unhide ca).mono ?_
          rintro e z ⟨a', c', rfl, ht, hz⟩
          have HT := hide ht
          have HZ := hide (grown_trans (unhide HY) hz)
          clear ht hz ca
          go_wp2_with fail
          refine (unhide cf _).mono ?_
          rintro e z' ⟨rfl, rfl⟩
          clear cf
          have co := hide (tbOpens_any a' 2 c' E (F : Int) z' (unhide HT).2.2.1 (Nat.le_trans (unhide HT).1 (unhide HT).2.1))
          by_cases h60 : F < 60
          · rw [unhide L1 F h60] at co
            have h60' : ¬ (60 : Int) ≤ (F : Int) := by omega
            clear L1 L2 h60
            go_wp2_with fail
            refine (unhide co).mono ?_
            rintro e x ⟨rfl, hx⟩
            have HX := hide (grown_trans (unhide HZ) hx)
            clear hx co
            go_wp2
            go_ret
            exact ⟨rfl, none_below (unhide HX)⟩
          · have h2 := unhide L2 (F - 60) (by have := unhide HF; omega)
            rw [show F - 60 + 60 = F by omega] at h2
            rw [h2] at co
            have h60' : (60 : Int) ≤ (F : Int) := by omega
            clear L1 L2 h60 h2
            go_wp2_with fail
            refine (unhide co).mono ?_
            rintro e x ⟨rfl, hx⟩
            have HX := hide (grown_trans (unhide HZ) hx)
            clear hx co
            go_wp2
            go_ret
            exact ⟨rfl, none_below (unhide HX)⟩
      · have ho : Tb.opens L 3 100 = 3 := unhide lo 3 (by decide) (by decide)
        rw [ho] at c2
        clear ho lo lo4 hN3 hw
        have g0 := Int.emod_nonneg a1 (b := 2) (by decide)
        have g1 := Int.emod_lt_of_pos a1 (b := 2) (by decide)
        have cg2 := hide (unhide cg 2 (by decide) (by decide))
        clear cg
        obtain ⟨G, hG⟩ : ∃ G, a1 % 2 = G := ⟨_, rfl⟩
        rw [hG] at cg2 g0 g1
        clear hG
        go_wp2_with fail
        refine (unhide c2).mono ?_
        rintro e y ⟨rfl, hy⟩
        have HY := hide (grown_trans (unhide hrel).1 hy)
        have HTY := hide ((unhide hrel).2.on hy)
        clear hy c2 hrel
        go_wp2_with fail
        refine (unhide cg2 _).mono ?_
        rintro e y' ⟨rfl, rfl⟩
        clear cg2
        obtain ⟨F, hF⟩ : ∃ F : Nat, a2 % 100 = (F : Int) := ⟨(a2 % 100).toNat, by have := unhide hf0; omega⟩
        have HF := hide (show F < 100 by have := unhide hf1; omega)
        rw [hF] at cf
        clear hf0 hf1 hF
        rcases (show G = 0 ∨ G = 1 by omega) with rfl | rfl
        · clear g0 g1
          have L1 := hide (unhide l21).2.2.1
          have L2 := hide (unhide l21).2.2.2
          have ca := hide (tbAdd_ok a 3 c L 3 0 1 60 50 y' (unhide HTY) (by decide) (by decide) (unhide l21).1 3 _ (unhide l21).2.1)
          clear l11 l21 l22 l31 l32 l33 HTY
          obtain ⟨E, hE⟩ : ∃ E, Tb.set (Tb.set L 1 2 60) 1 3 50 = E := ⟨_, rfl⟩
          rw [hE] at L1 L2 ca
          clear hE
          go_wp2_with fail
          refine (unhide ca).mono ?_
          rintro e z ⟨a', c', rfl, ht, hz⟩
          have HT := hide ht
          have HZ := hide (grown_trans (unhide HY) hz)
          clear ht hz ca
          go_wp2_with fail
          refine (unhide cf _).mono ?_
          rintro e z' ⟨rfl, rfl⟩
          clear cf
          have co := hide (tbOpens_any a' 3 c' E (F : Int) z' (unhide HT).2.2.1 (Nat.le_trans (unhide HT).1 (unhide HT).2.1))
          by_cases h60 : F < 60
          · rw [unhide L1 F h60] at co
            have h60' : ¬ (60 : Int) ≤ (F : Int) := by omega
            clear L1 L2 h60
            go_wp2_with fail
            refine (unhide co).mono ?_
            rintro e x ⟨rfl, hx⟩
            have HX := hide (grown_trans (unhide HZ) hx)
            clear hx co
            go_wp2
            go_ret
            exact ⟨rfl, none_below (unhide HX)⟩
          · have h2 := unhide L2 (F - 60) (by have := unhide HF; omega)
            rw [show F - 60 + 60 = F by omega] at h2
            rw [h2] at co
            have h60' : (60 : Int) ≤ (F : Int) := by omega
            clear L1 L2 h60 h2
            go_wp2_with fail
            refine (unhide co).mono ?_
            rintro e x ⟨rfl, hx⟩
            have HX := hide (grown_trans (unhide HZ) hx)
            clear hx co
            go_wp2
            go_ret
            exact ⟨rfl, none_below (unhide HX)⟩
        · clear g0 g1
          have L1 := hide (unhide l22).2.2.1
          have L2 := hide (unhide l22).2.2.2
          have ca := hide (tbAdd_ok a 3 c L 3 0 2 60 50 y' (unhide HTY) (by decide) (by decide) (unhide l22).1 3 _ (unhide l22).2.1)
          clear l11 l21 l22 l31 l32 l33 HTY
          obtain ⟨E, hE⟩ : ∃ E, Tb.set (Tb.set L 2 2 60) 2 3 50 = E := ⟨_, rfl⟩
          rw [hE] at L1 L2 ca
          clear hE
          go_wp2_with fail
          refine (unhide ca).mono ?_
          rintro e z ⟨a', c', rfl, ht, hz⟩
          have HT := hide ht
          have HZ := hide (grown_trans (unhide HY) hz)
          clear ht hz ca
          go_wp2_with fail
          refine (unhide cf _).mono ?_
          rintro e z' ⟨rfl, rfl⟩
          clear cf
          have co := hide (tbOpens_any a' 3 c' E (F : Int) z' (unhide HT).2.2.1 (Nat.le_trans (unhide HT).1 (unhide HT).2.1))
          by_cases h60 : F < 60
          · rw [unhide L1 F h60] at co
            have h60' : ¬ (60 : Int) ≤ (F : Int) := by omega
            clear L1 L2 h60
            go_wp2_with fail
            refine (unhide co).mono ?_
            rintro e x ⟨rfl, hx⟩
            have HX := hide (grown_trans (unhide HZ) hx)
            clear hx co
            go_wp2
            go_ret
            exact ⟨rfl, none_below (unhide HX)⟩
          · have h2 := unhide L2 (F - 60) (by have := unhide HF; omega)
            rw [show F - 60 + 60 = F by omega] at h2
            rw [h2] at co
            have h60' : (60 : Int) ≤ (F : Int) := by omega
            clear L1 L2 h60 h2
            go_wp2_with fail
            refine (unhide co).mono ?_
            rintro e x ⟨rfl, hx⟩
            have HX := hide (grown_trans (unhide HZ) hx)
            clear hx co
            go_wp2
            go_ret
            exact ⟨rfl, none_below (unhide HX)⟩
      · have ho : Tb.opens L 4 100 = -1 := unhide lo4
        rw [ho] at c2
        clear ho lo lo4 hN3 hw
        have g0 := Int.emod_nonneg a1 (b := 3) (by decide)
        have g1 := Int.emod_lt_of_pos a1 (b := 3) (by decide)
        have cg2 := hide (unhide cg 3 (by decide) (by decide))
        clear cg
        obtain ⟨G, hG⟩ : ∃ G, a1 % 3 = G := ⟨_, rfl⟩
        rw [hG] at cg2 g0 g1
        clear hG
        go_wp2_with fail
        refine (unhide c2).mono ?_
        rintro e y ⟨rfl, hy⟩
        have HY := hide (grown_trans (unhide hrel).1 hy)
        have HTY := hide ((unhide hrel).2.on hy)
        clear hy c2 hrel
        go_wp2_with fail
        refine (unhide cg2 _).mono ?_
        rintro e y' ⟨rfl, rfl⟩
        clear cg2
        obtain ⟨F, hF⟩ : ∃ F : Nat, a2 % 100 = (F : Int) := ⟨(a2 % 100).toNat, by have := unhide hf0; omega⟩
        have HF := hide (show F < 100 by have := unhide hf1; omega)
        rw [hF] at cf
        clear hf0 hf1 hF
        rcases (show G = 0 ∨ G = 1 ∨ G = 2 by omega) with rfl | rfl | rfl
        · clear g0 g1
          have L1 := hide (unhide l31).2.2.1
          have L2 := hide (unhide l31).2.2.2
          have ca := hide (tbAdd_ok a 4 c L 3 0 1 60 50 y' (unhide HTY) (by decide) (by decide) (unhide l31).1 4 _ (unhide l31).2.1)
          clear l11 l21 l22 l31 l32 l33 HTY
          obtain ⟨E, hE⟩ : ∃ E, Tb.set (Tb.set L 1 2 60) 1 3 50 = E := ⟨_, rfl⟩
          rw [hE] at L1 L2 ca
          clear hE
          go_wp2_with fail
          refine (unhide ca).mono ?_
          rintro e z ⟨a', c', rfl, ht, hz⟩
          have HT := hide ht
          have HZ := hide (grown_trans (unhide HY) hz)
          clear ht hz ca
          go_wp2_with fail
          refine (unhide cf _).mono ?_
          rintro e z' ⟨rfl, rfl⟩
          clear cf
          have co := hide (tbOpens_any a' 4 c' E (F : Int) z' (unhide HT).2.2.1 (Nat.le_trans (unhide HT).1 (unhide HT).2.1))
          by_cases h60 : F < 60
          · rw [unhide L1 F h60] at co
            have h60' : ¬ (60 : Int) ≤ (F : Int) := by omega
            clear L1 L2 h60
            go_wp2_with fail
            refine (unhide co).mono ?_
            rintro e x ⟨rfl, hx⟩
            have HX := hide (grown_trans (unhide HZ) hx)
            clear hx co
            go_wp2
            go_ret
            exact ⟨rfl, none_below (unhide HX)⟩
          · have h2 := unhide L2 (F - 60) (by have := unhide HF; omega)
            rw [show F - 60 + 60 = F by omega] at h2
            rw [h2] at co
            have h60' : (60 : Int) ≤ (F : Int) := by omega
            clear L1 L2 h60 h2
            go_wp2_with fail
            refine (unhide co).mono ?_
            rintro e x ⟨rfl, hx⟩
            have HX := hide (grown_trans (unhide HZ) hx)
            clear hx co
            go_wp2
            go_ret
            exact ⟨rfl, none_below (unhide HX)⟩
        · clear g0 g1
          have L1 := hide (unhide l32).2.2.1
          have L2 := hide (unhide l32).2.2.2
          have ca := hide (tbAdd_ok a 4 c L 3 0 2 60 50 y' (unhide HTY) (by decide) (by decide) (unhide l32).1 4 _ (unhide l32).2.1)
          clear l11 l21 l22 l31 l32 l33 HTY
          obtain ⟨E, hE⟩ : ∃ E, Tb.set (Tb.set L 2 2 60) 2 3 50 = E := ⟨_, rfl⟩
          rw [hE] at L1 L2 ca
          clear hE
          go_wp2_with fail
          refine (unhide ca).mono ?_
          rintro e z ⟨a', c', rfl, ht, hz⟩
          have HT := hide ht
          have HZ := hide (grown_trans (unhide HY) hz)
          clear ht hz ca
          go_wp2_with fail
          refine (unhide cf _).mono ?_
          rintro e z' ⟨rfl, rfl⟩
          clear cf
          have co := hide (tbOpens_any a' 4 c' E (F : Int) z' (unhide HT).2.2.1 (Nat.le_trans (unhide HT).1 (unhide HT).2.1))
          by_cases h60 : F < 60
          · rw [unhide L1 F h60] at co
            have h60' : ¬ (60 : Int) ≤ (F : Int) := by omega
            clear L1 L2 h60
            go_wp2_with fail
            refine (unhide co).mono ?_
            rintro e x ⟨rfl, hx⟩
            have HX := hide (grown_trans (unhide HZ) hx)
            clear hx co
            go_wp2
            go_ret
            exact ⟨rfl, none_below (unhide HX)⟩
          · have h2 := unhide L2 (F - 60) (by have := unhide HF; omega)
            rw [show F - 60 + 60 = F by omega] at h2
            rw [h2] at co
            have h60' : (60 : Int) ≤ (F : Int) := by omega
            clear L1 L2 h60 h2
            go_wp2_with fail
            refine (unhide co).mono ?_
            rintro e x ⟨rfl, hx⟩
            have HX := hide (grown_trans (unhide HZ) hx)
            clear hx co
            go_wp2
            go_ret
            exact ⟨rfl, none_below (unhide HX)⟩
        · clear g0 g1
          have L1 := hide (unhide l33).2.2.1
          have L2 := hide (unhide l33).2.2.2
          have ca := hide (tbAdd_ok a 4 c L 3 0 3 60 50 y' (unhide HTY) (by decide) (by decide) (unhide l33).1 4 _ (unhide l33).2.1)
          clear l11 l21 l22 l31 l32 l33 HTY
          obtain ⟨E, hE⟩ : ∃ E, Tb.set (Tb.set L 3 2 60) 3 3 50 = E := ⟨_, rfl⟩
          rw [hE] at L1 L2 ca
          clear hE
          go_wp2_with fail
          refine (unhide ca).mono ?_
          rintro e z ⟨a', c', rfl, ht, hz⟩
          have HT := hide ht
          have HZ := hide (grown_trans (unhide HY) hz)
          clear ht hz ca
          go_wp2_with fail
          refine (unhide cf _).mono ?_
          rintro e z' ⟨rfl, rfl⟩
          clear cf
          have co := hide (tbOpens_any a' 4 c' E (F : Int) z' (unhide HT).2.2.1 (Nat.le_trans (unhide HT).1 (unhide HT).2.1))
          by_cases h60 : F < 60
          · rw [unhide L1 F h60] at co
            have h60' : ¬ (60 : Int) ≤ (F : Int) := by omega
            clear L1 L2 h60
            go_wp2_with fail
            refine (unhide co).mono ?_
            rintro e x ⟨rfl, hx⟩
            have HX := hide (grown_trans (unhide HZ) hx)
            clear hx co
            go_wp2
            go_ret
            exact ⟨rfl, none_below (unhide HX)⟩
          · have h2 := unhide L2 (F - 60) (by have := unhide HF; omega)
            rw [show F - 60 + 60 = F by omega] at h2
            rw [h2] at co
            have h60' : (60 : Int) ≤ (F : Int) := by omega
            clear L1 L2 h60 h2
            go_wp2_with fail
            refine (unhide co).mono ?_
            rintro e x ⟨rfl, hx⟩
            have HX := hide (grown_trans (unhide HZ) hx)
            clear hx co
            go_wp2
            go_ret
            exact ⟨rfl, none_below (unhide HX)⟩

set_option maxRecDepth 100000 in
theorem lifted (os : Os) (started : os.Started) (H : Type) (enc : TypeId × Value → H) :
    ReturnsInHanded {} Try.checked os 5 .any (Rows.tableOpenSpec.pre6 enc Try.prog Try.f5 Rows.tableOpenRow.domain false) (Rows.tableOpenSpec.post enc Try.prog Try.f5 false true false false) := by
  refine returnsInHanded_of_change (C := Try.checked) own started (by kernel_rfl) Try.func5
    (ChangeSpec.witness6 (enc := enc) (C := Try.checked) false ⟨#[], #[.int .i64 0, .int .i64 0, .int .i64 0], []⟩ 8 (by kernel_rfl) (by kernel_rfl) (by kernel_rfl) (by kernel_rfl)) ?_
  intro W base args ds gs before hval0 hW hcnd _
  have hval : ∀ (j : Nat) t v, Try.f5.params[j]? = some t → args[j]? = some v → Value.okWide Try.prog W .any base t v := hval0
  have hW' := hW
  obtain ⟨p, q, hA0, hV, rfl, hfz, hnd⟩ := hW
  have hA : DataW.TrodAll enc Try.prog W 0 (fun _ => true) true Try.f5.params.toList args.toList ds p := hA0
  rw [Try.params5] at hA hval
  obtain ⟨v0, vs0, d0, ds0, p0, q0, hargs, rfl, rfl, h0, r0⟩ := trodAll_cons hA
  obtain ⟨v1, vs1, d1, ds1, p1, q1, rfl, rfl, rfl, h1, r1⟩ := trodAll_cons r0
  obtain ⟨v2, vs2, d2, ds2, p2, q2, rfl, rfl, rfl, h2, r2⟩ := trodAll_cons r1
  obtain ⟨rfl, rfl, rfl⟩ := trodAll_nil r2
  obtain rfl : args = #[v0, v1, v2] := by cases args; simp_all
  obtain ⟨rfl, rfl⟩ := trodVars_none hV
  obtain ⟨a0, rfl, rfl, rfl, w0⟩ := open_int Try.underlying3 (hval 0 3 v0 rfl rfl) h0
  obtain ⟨a1, rfl, rfl, rfl, w1⟩ := open_int Try.underlying3 (hval 1 3 v1 rfl rfl) h1
  obtain ⟨a2, rfl, rfl, rfl, w2⟩ := open_int Try.underlying3 (hval 2 3 v2 rfl rfl) h2
  clear hA0 hval0
  refine (walk a0 a1 a2 w0 w1 w2 W).mono fun e W' ⟨he, hg⟩ => ?_
  subst he
  exact ⟨_, rfl, _, _, _, [], _, [], hW', trodAll_mk1 (shut_bool Try.underlying4 _), (trodAll_cons_mk (shut_int Try.underlying3 w0) (trodAll_cons_mk (shut_int Try.underlying3 w1) (trodAll_cons_mk (shut_int Try.underlying3 w2) trodAll_mk0))), rfl, hg.frame _, fun h => by cases h⟩

theorem over : Rows.tableOpenRow.holds Try.pinned (OpenSpec.ofChange Rows.tableOpenSpec) :=
  OpenClaim.holds_of_wide 5 Try.f5 rfl rfl rfl rfl rfl rfl rfl ⟨rfl, rfl, rfl, rfl, rfl⟩ rfl rfl rfl rfl rfl (by kernel_rfl) Try.func5 (by kernel_rfl)
    (of_decide_eq_true (by kernel_rfl)) (by unfold Func.isWrapper; first | (rw [if_pos (by decide +kernel)]; kernel_rfl) | (rw [if_neg (by decide +kernel)]; exact ⟨rfl, rfl⟩))
    (fun os started H enc _ => lifted os started H enc)

theorem proved : Rows.TableOpenSaid :=
  over
#print axioms proved
end Go.Proofs.Ytiegccdgoemamab.tableOpen
