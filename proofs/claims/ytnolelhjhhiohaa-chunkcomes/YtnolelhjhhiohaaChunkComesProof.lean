/-
  What was split comes whole, as it was, whatever is lost, doubled or mixed up; each round in which nothing is lost brings a piece that lacks: for all bytes (more than 1024 are let by), windows and marks, at this commit; no condition.
-/
import Derived.Test.YtnolelhjhhiohaaRows
import Derived.WalkKit
import Derived.ProofKit
import Derived.OpenShut
import Derived.Test.YtnolelhjhhiohaaChunkCome
import Derived.Test.YtnolelhjhhiohaaChunkKnown
import Derived.Test.YtnolelhjhhiohaaTill
import Derived.BigQuiet
import Derived.Deep.QuietTactic
import Derived.Deep.Grids
import Derived.ShutString
import Derived.ChangeOld
import Derived.SizedLaws
import Derived.Below
namespace Go.Proofs.Ytnolelhjhhiohaa.chunkComes
open Go.ChangeShapes Go.WideShapes Go.ChangeAt Go.RowKit
open Go.ChangeMaps (open_string shut_string)
set_option linter.unusedVariables false

theorem own : ownKnob Try.prog.godebug = none := by kernel_rfl
theorem laidOut : laidOutB Try.prog = true := by kernel_rfl

/-- WHAT THE WALK IS TOLD OF A SLICE OF INTEGERS THAT CAME IN: it is nil; or it leads to a row of 'cap' cells, the numbers 'zs' (the first 'len' are its elements, the rest its spare room), each fitting its kind. -/
def IsRow (k : IntKind) (w : World) (a : Option Addr) (len cap : Nat) (zs : List Int) : Prop :=
  (a = none ∧ len = 0 ∧ cap = 0 ∧ zs = []) ∨
  ∃ x, a = some x ∧ len ≤ cap ∧ cap ≤ maxLen ∧ zs.length = cap ∧ (∀ i, i < zs.length → w.cell? (x.add i) = some (.int k (zs.getD i 0))) ∧ ∀ n ∈ zs, (Lit.int k n).wf = true

/-- A slice of bools that came in: nil; or a row of 'cap' cells. -/
def IsBols (w : World) (a : Option Addr) (len cap : Nat) (f : Nat → Bool) : Prop :=
  (a = none ∧ len = 0 ∧ cap = 0) ∨ ∃ x, a = some x ∧ len ≤ cap ∧ cap ≤ maxLen ∧ ∀ i, i < cap → w.cell? (x.add i) = some (.bool (f i))

theorem IsRow.src {w : World} {a : Option Addr} {len cap : Nat} {zs : List Int} (h : IsRow .u8 w a len cap zs) : ∃ l : List Int, l.length = len ∧ len ≤ cap ∧ cap ≤ maxLen ∧ Ck.Src w (.slice a l.length cap) l := by
  rcases h with ⟨rfl, rfl, rfl, rfl⟩ | ⟨x, rfl, hl, hm, hz, hcell, _⟩
  · exact ⟨[], rfl, Nat.le_refl _, Nat.zero_le _, .inl ⟨rfl, rfl⟩⟩
  · refine ⟨zs.take len, by rw [List.length_take]; omega, hl, hm, .inr ⟨x, cap, rfl, fun j u hj => ?_⟩⟩
    unfold Ck.bys at hj
    rw [List.getElem?_map, List.getElem?_take] at hj
    split at hj
    · rename_i hjl
      have hjz : j < zs.length := by omega
      rw [List.getElem?_eq_getElem hjz] at hj
      simp at hj
      rw [hcell j hjz, ← hj, List.getD, List.getElem?_eq_getElem hjz]
      rfl
    · simp at hj

theorem IsBols.at {w : World} {a : Option Addr} {len cap : Nat} {f : Nat → Bool} (h : IsBols w a len cap f) {i : Nat} (hi : i < len) : ∃ b off, a = some ⟨b, off, none⟩ ∧ b < w.heap.size ∧ ∀ j, j < len → w.cell? ⟨b, off + j, none⟩ = some (.bool (f j)) := by
  rcases h with ⟨rfl, rfl, rfl⟩ | ⟨x, rfl, hl, hm, hcell⟩
  · omega
  · obtain ⟨b, off, spot⟩ := x
    have hc0 := hcell 0 (by omega)
    have hspot : spot = none := by simpa [Addr.add] using World.cell?_spot hc0
    subst hspot
    rw [Go.WideShapes.add_plain] at hc0
    exact ⟨b, off, rfl, Go.block_lt_of_cell hc0, fun j hj => by have := hcell j (by omega); rwa [Go.WideShapes.add_plain] at this⟩

theorem IsBols.len {w : World} {a : Option Addr} {len cap : Nat} {f : Nat → Bool} (h : IsBols w a len cap f) : len ≤ maxLen := by
  rcases h with ⟨rfl, rfl, rfl⟩ | ⟨x, rfl, hl, hm, hcell⟩
  · exact Nat.zero_le _
  · omega

def fl (len : Nat) (z : Nat → Bool) (j : Nat) : Bool := decide (j < len) && decide (j < 100) && z j
def fd (len : Nat) (z : Nat → Bool) (j : Nat) : Bool := decide (j < len) && z j

theorem fl_out {len : Nat} {z : Nat → Bool} (j : Nat) (h : len ≤ j) : fl len z j = false := by unfold fl; rw [decide_eq_false (by omega)]; rfl
theorem fd_out {len : Nat} {z : Nat → Bool} (j : Nat) (h : len ≤ j) : fd len z j = false := by unfold fd; rw [decide_eq_false (by omega)]; rfl

/-- A round on its way: what has come. -/
structure In (w x : World) (s t gl cl n : Nat) (l : List Int) (had : Nat → Bool) (at2 : Nat) (has has2 : Nat → Bool) (F : Nat → Bool) (k k2 c m g : Nat) : Prop where
  com : Ck.Com w x s t gl cl n l had at2 has2
  more : ∀ i, i < n → has i = true → has2 i = true
  new : m = c ∨ (∃ x, x < n ∧ had x = false ∧ has2 x = true) ∨ Ck.cnt F k < Ck.cnt F k2
  cnt : Ck.cnt F k ≤ Ck.cnt F k2
  kk : k2 ≤ k + (c - m)
  told : ∀ j, j < c → ∃ v, v < n ∧ had v = false ∧ x.cell? ⟨g, j, none⟩ = some (.int .i64 ((v : Nat) : Int))
  gt : g ≠ t
  gl : g < x.heap.size

set_option maxRecDepth 8000 in
set_option maxHeartbeats 6400000 in

theorem walk (a0 : Option Addr) (len0 cap0 : Nat) (z0 : List Int) (a1 : Int) (a2 : Option Addr) (len2 cap2 : Nat) (z2 : Nat → Bool) (a3 : Option Addr) (len3 cap3 : Nat) (z3 : Nat → Bool) (w : World) (hB2 : len2 ≤ 140737488355328) (hB3 : len3 ≤ 140737488355328) (w0 : IsRow .u8 w a0 len0 cap0 z0) (w1 : (Lit.int .i64 a1).wf = true) (w2 : IsBols w a2 len2 cap2 z2) (w3 : IsBols w a3 len3 cap3 z3) :
    Calls Try.prog 6 #[.slice a0 len0 cap0, .int .i64 a1, .slice a2 len2 cap2, .slice a3 len3 cap3] w fun e w' => e = .returned (.bool true) ∧ Below w.heap.size w w' := by
  obtain ⟨l, hln, hc, hcm, hs⟩ := IsRow.src w0
  have HS := hide hs
  have HC := hide (And.intro hln (And.intro hc hcm))
  have HB2 := hide w2
  have HB3 := hide w3
  have hl1 : (len0 : Int) ≤ 9223372036854775807 := by unfold maxLen at hcm; omega
  have hl2 : (len2 : Int) ≤ 140737488355328 := by omega
  have hl3 : (len3 : Int) ≤ 140737488355328 := by omega
  have ck := hide (known12_any w)
  clear w0 w1 w2 w3 hs hc hcm hln hB2 hB3
  go_enter Try.func6, Try.ntmps6
  go_wp2_with fail
  refine (unhide ck).mono ?_
  rintro e x1 ⟨rfl, hg1⟩
  have G1 := hide hg1
  clear ck hg1
  by_cases hb : 1024 < len0
  · have hb' : (1024 : Int) < (len0 : Int) := by omega
    clear hb
    go_wp2
    go_ret
    exact ⟨rfl, none_below (unhide G1)⟩
  have hb' : ¬ (1024 : Int) < (len0 : Int) := by omega
  have hl1024 : l.length ≤ 1024 := by have := unhide HC; omega
  have hls := hide (Ck.ps_len l hl1024)
  have c1 := hide (Ck.split_mine a0 cap0 l x1 hl1024 (by rw [(unhide HC).1]; exact (unhide HC).2.1) (unhide HC).2.2 ((unhide HS).grown (unhide G1)))
  rw [(unhide HC).1] at c1
  obtain ⟨n, hnp⟩ : ∃ n, (Ck.ps l).length = n := ⟨_, rfl⟩
  have Hnp := hide hnp
  rw [hnp] at hls
  clear hb hl1024 hnp
  go_wp2_with fail
  refine (unhide c1).mono ?_
  rintro e x2 ⟨v1, Vs1, rfl, hV1, hL1, hg2⟩
  obtain ⟨gl, cl, rfl, hgb1, hgl1, -⟩ := hL1.at hV1 (by have := unhide hls; have := unhide Hnp; omega)
  rw [unhide Hnp] at hL1 ⊢
  have R1 : Hid (∃ Vs, Vs.length = (Ck.ps l).length ∧ Ck.Lies x2 x1.heap.size (.slice (some ⟨gl, 0, none⟩) n cl) Vs (Ck.ps l)) := ⟨Vs1, hV1, hL1⟩
  have hG2 := hide (grown_trans (unhide G1) hg2)
  have n0 : (1 : Int) ≤ (n : Int) := by have := unhide hls; omega
  have n1 : (n : Int) ≤ 16 := by have := unhide hls; omega
  have nz : ((n : Int) == 0) = false := by simp; omega
  have cN := hide (ckNewSender_any n x2 (unhide hls).1 (unhide hls).2)
  have hgx := hide hg2
  clear c1 hL1 hV1 hg2 hgb1 hgl1
  go_wp2_with fail
  refine (unhide cN).mono ?_
  rintro e x3 ⟨s, rfl, hs1, hM, hg3⟩
  have cT := hide (ckNewTaker_any w.heap.size x3 (Nat.le_trans (unhide hG2).size hg3.size))
  have K3 := hide (And.intro hs1 (And.intro hM hg3))
  clear cN hs1 hM hg3
  go_wp2_with fail
  refine (unhide cT).mono ?_
  rintro e x4 ⟨t, rfl, ht1, hMt, hg4⟩
  have hC0 : Hid (Ck.Com w x4 s t gl cl n l (fun _ => false) 0 (fun _ => false)) := by
    obtain ⟨q1, q2, q3⟩ := unhide K3
    obtain ⟨Vs, q4, q5⟩ := unhide R1
    have hsl := q2.box.lt
    have hb5 : Ck.Lies x2 w.heap.size (.slice (some ⟨gl, 0, none⟩) n cl) Vs (Ck.ps l) := ⟨owns_base q5.own (unhide G1).size, fun k u m h1 h2 => ⟨owns_base (q5.each k u m h1 h2).1 (unhide G1).size, (q5.each k u m h1 h2).2⟩⟩
    exact ⟨q2.on hg4, ⟨0, _, _, hMt, .inl rfl, fun _ _ q => absurd q (by simp)⟩, ⟨Vs, q4, hb5.on (grown_trans q3 hg4)⟩, unhide Hnp, by omega, by have := (unhide hG2).size; omega, fun _ _ q => absurd q (by simp), none_below (grown_trans (unhide hG2) (grown_trans q3 hg4))⟩
  have cw := hide (within12_any a1 6 x4 (by omega) (by omega))
  have m0 : 0 ≤ a1 % 6 := Int.emod_nonneg _ (by omega)
  have m1 : a1 % 6 < 6 := Int.emod_lt_of_pos _ (by omega)
  obtain ⟨W, hW⟩ : ∃ W : Nat, 1 + a1 % 6 = (W : Int) := ⟨(1 + a1 % 6).toNat, by omega⟩
  have HW : Hid (1 ≤ W) := (show 1 ≤ W by omega)
  obtain ⟨q1, hq1⟩ : ∃ q, a1 % 6 = q := ⟨_, rfl⟩
  rw [hq1] at cw hW m0 m1
  clear cT K3 R1 hq1 ht1 hMt hg4 hG2 hgx G1
  go_wp2_with fail
  refine (unhide cw).mono ?_
  rintro e wq ⟨rfl, hq'⟩
  obtain rfl : x4 = wq := hq'.symm
  obtain ⟨F, hF⟩ : ∃ F, fl len2 z2 = F := ⟨_, rfl⟩
  obtain ⟨G, hG⟩ : ∃ G, fd len3 z3 = G := ⟨_, rfl⟩
  have HF := hide hF
  have HG := hide hG
  have hFl : Hid (∀ k, Ck.cnt F k ≤ len2 ∧ Ck.cnt F k ≤ k) := Ck.cnt_le F len2 (by rw [← hF]; exact fl_out)
  have hGl : Hid (∀ k, Ck.cnt G k ≤ len3 ∧ Ck.cnt G k ≤ k) := Ck.cnt_le G len3 (by rw [← hG]; exact fd_out)
  clear cw hF hG
  go_wp2_with fail
  go_loopw [14, 15, 16, 17, 18, 19, 20, 21, 22] (fun v14 v15 _ _ _ _ _ _ _ wr => ∃ k r had at_ has, v14 = .int .i64 ((k : Nat) : Int) ∧ v15 = .int .i64 ((r : Nat) : Int) ∧ Hid (Ck.Com w wr s t gl cl n l had at_ has ∧ (len3 = 0 → ∀ i, i < n → had i = has i) ∧ r + Ck.pos had n ≤ Ck.cnt G r + Ck.cnt F k + n ∧ k ≤ r * 16)) (fun _ v15 _ _ _ _ _ _ _ _ => 300000000000000 - (intOf v15).toNat)
  case atStart => exact ⟨0, 0, _, _, _, rfl, rfl, unhide hC0, fun _ _ _ => rfl, by
    have h1 : Ck.pos (fun _ => false) n ≤ n := by
      unfold Ck.pos
      exact Nat.le_trans (List.length_filter_le _ _) (by simp)
    omega, by omega⟩
  case round =>
    clear hC0
    obtain ⟨k, r, had, at_, has, rfl, rfl, hX⟩ := hrel
    have cD := hide (ckDone_any s n had at_ wr (unhide hX).1.snd)
    obtain ⟨D, hD⟩ : ∃ D, Ck.all n had = D := ⟨_, rfl⟩
    rw [hD] at cD
    have hr0 : r ≤ len2 + len3 + 16 := by
      obtain ⟨_, _, h3, _⟩ := unhide hX
      have h4 := (unhide hFl k).1
      have h5 := (unhide hGl r).1
      have h6 := (unhide hls).2
      omega
    have Hr := hide hr0
    have hr1 : ¬ (200 + (len2 : Int) + (len3 : Int)) < (r : Int) := by omega
    have hr2 : (r : Int) ≤ 281474976710700 := by omega
    have hk2 : (k : Int) ≤ 4503599627371200 := by have := (unhide hX).2.2.2; omega
    clear hr0
    cases D with
    | true =>
      have cW := hide (unhide hX).1.whole
      have hall : Hid (∀ i, i < n → has i = true) := fun i hi => (unhide hX).1.sub i hi (Ck.all_iff.1 hD i hi)
      have hbel := hide (unhide hX).1.bel
      clear hX hD
      go_wp2_with fail
      refine (unhide cD).mono ?_
      rintro e wq ⟨rfl, hq'⟩
      obtain rfl : wr = wq := hq'.symm
      go_wp2_with fail
      refine (unhide cW).mono ?_
      rintro e y ⟨aw, mw, cw, bw, rfl, hC, hfull⟩
      obtain ⟨rfl, hsw⟩ := hfull (unhide hall)
      have hta := hsw.text
      have htb := ((unhide HS).below hC.bel).text
      rw [(unhide HC).1] at htb
      have hbel2 := hide hC.bel
      obtain ⟨st, hst⟩ : ∃ st, strOfNums l = st := ⟨_, rfl⟩
      rw [hst] at hta htb
      clear hC hfull hsw hst cW cD
      go_wp2
      go_ret
      exact ⟨rfl, unhide hbel2⟩
    | false =>
      have cB := hide (unhide hX).1.bits
      have cX := hide ((unhide hX).1.next W (unhide HW) hD)
      obtain ⟨zb, hzb⟩ : ∃ zb, Ck.num has 16 = zb := ⟨_, rfl⟩
      have Hzb := hide hzb
      rw [hzb] at cB
      clear hzb hD
      go_wp2_with fail
      refine (unhide cD).mono ?_
      rintro e wq ⟨rfl, hq'⟩
      obtain rfl : wr = wq := hq'.symm
      go_wp2_with fail
      refine (unhide cB).mono ?_
      rintro e wq ⟨rfl, hq'⟩
      obtain rfl : wr = wq := hq'.symm
      go_wp2_with fail
      refine (unhide cX).mono ?_
      rintro e y ⟨g, c, cp, at2, rfl, hc1, hc16, hC, hgt, hgl, hcell⟩
      have hI0 : Hid (In w y s t gl cl n l had at2 has has F k k c c g) := ⟨hC, fun _ _ h => h, .inl rfl, Nat.le_refl _, by omega, hcell, hgt, hgl⟩
      have c1' : (1 : Int) ≤ (c : Int) := by omega
      have c16' : (c : Int) ≤ 16 := by omega
      have HCC := hide (And.intro hc1 hc16)
      clear cX cB cD hC hcell hgt hgl hc1 hc16
      go_wp2_with fail
      go_loopw [14, 17, 19, 20] (fun v14 v17 v19 _ wi => ∃ (m k2 : Nat) (z : Int) (f : Bool) (has2 : Nat → Bool), m ≤ c ∧ v14 = .int .i64 ((k2 : Nat) : Int) ∧ v17 = .bool f ∧ v19 = .int .i64 z ∧ z + 1 = (m : Int) ∧ Hid (In w wi s t gl cl n l had at2 has has2 F k k2 c m g)) (fun _ _ v19 _ _ => (intOf v19 + 1).toNat)
      case atStart => exact ⟨c, k, _, _, has, Nat.le_refl _, rfl, rfl, rfl, by omega, hI0⟩
      case round =>
        clear hI0
        obtain ⟨m, k2, z, f, has2, hmc, rfl, rfl, rfl, hzm, hY⟩ := hrel
        have hk3 : (k2 : Int) ≤ 4503599627371300 := by have := (unhide hY).kk; omega
        cases m with
        | zero =>
          obtain rfl : z = -1 := by omega
          have cW := hide (unhide hY).com.whole
          have hsub2 : Hid (∀ i, i < n → had i = true → has2 i = true) := fun i hi q => (unhide hY).more i hi ((unhide hX).1.sub i hi q)
          have hnw : Hid ((∃ x, x < n ∧ had x = false ∧ has2 x = true) ∨ Ck.cnt F k < Ck.cnt F k2) := by
            rcases (unhide hY).new with q | q
            · have := (unhide HCC).1
              omega
            · exact q
          have hkc : Hid (Ck.cnt F k ≤ Ck.cnt F k2 ∧ k2 ≤ (r + 1) * 16) := by
            have h1 := (unhide hY).cnt
            have h2 := (unhide hY).kk
            have h3 := (unhide HCC).2
            have h4 := (unhide hX).2.2.2
            exact ⟨h1, by omega⟩
          have hdiff : Hid ((r : Int) < 3 → len3 = 0 → len2 = 0 → ¬ Ck.num has2 16 = zb) := fun _ e3 e2 q => by
            rw [← unhide Hzb] at q
            have h1 := Ck.num_inj (by omega) q
            rcases unhide hnw with ⟨x, x1, x2, x3⟩ | q2
            · have h2 := h1 x (by have := (unhide hls).2; omega)
              rw [x3, ← (unhide hX).2.1 e3 x x1, x2] at h2
              cases h2
            · have := (unhide hFl k2).1
              omega
          have hGr : Hid (Ck.cnt G (r + 1) = Ck.cnt G r + if G r = true then 1 else 0) := rfl
          have hle : Hid (r + Ck.pos had n ≤ Ck.cnt G r + Ck.cnt F k + n) := (unhide hX).2.2.1
          clear hX hY hzm hmc
          go_wp2_with fail
          refine (unhide cW).mono ?_
          rintro e y3 ⟨aw, mw, cw3, bw, rfl, hC3, -⟩
          have cB3 := hide hC3.bits
          have HC3 := hide hC3
          obtain ⟨zc, hzc⟩ : ∃ zc, Ck.num has2 16 = zc := ⟨_, rfl⟩
          have Hzc := hide hzc
          rw [hzc] at cB3 hdiff
          have hbel3 := hC3.bel
          clear hzc hC3 cW
          have hways : Hid (f = false ∨ (f = true ∧ ¬ (r : Int) < 3) ∨ (f = true ∧ (r : Int) < 3 ∧ ((len3 : Int) == 0) = false) ∨ (f = true ∧ (r : Int) < 3 ∧ ((len3 : Int) == 0) = true ∧ ((len2 : Int) == 0) = false) ∨ (f = true ∧ (r : Int) < 3 ∧ ((len3 : Int) == 0) = true ∧ ((len2 : Int) == 0) = true ∧ (zc == zb) = false)) := by
            cases f with
            | false => exact .inl rfl
            | true =>
              by_cases q1 : (r : Int) < 3
              · by_cases q2 : len3 = 0
                · by_cases q3 : len2 = 0
                  · exact .inr (.inr (.inr (.inr ⟨rfl, q1, by simp [q2], by simp [q3], by simpa using unhide hdiff q1 q2 q3⟩)))
                  · exact .inr (.inr (.inr (.inl ⟨rfl, q1, by simp [q2], by simp [q3]⟩)))
                · exact .inr (.inr (.inl ⟨rfl, q1, by simp [q2]⟩))
              · exact .inr (.inl ⟨rfl, q1⟩)
          clear hdiff
          go_upto_region 29 with fail
          go_cut [165] from 141 to 164 (fun v165 wx => v165 = .bool false ∧ wx = y3)
          case first =>
            rcases unhide hways with rfl | ⟨rfl, q1⟩ | ⟨rfl, q1, q2⟩ | ⟨rfl, q1, q2, q3⟩ | ⟨rfl, q1, q2, q3, q4⟩
            · go_wp2_with fail
              go_meet
              exact ⟨rfl, rfl⟩
            · go_wp2_with fail
              go_meet
              exact ⟨rfl, rfl⟩
            · go_wp2_with fail
              go_meet
              exact ⟨rfl, rfl⟩
            · go_wp2_with fail
              go_meet
              exact ⟨rfl, rfl⟩
            · go_wp2_with fail
              refine (unhide cB3).mono ?_
              rintro e wq ⟨rfl, hq9⟩
              obtain rfl : y3 = wq := hq9.symm
              go_wp2_with fail
              go_meet
              exact ⟨rfl, rfl⟩
          case rest =>
          obtain ⟨rfl, hcw⟩ := hcut
          obtain rfl : y3 = wc := hcw.symm
          have hnext : Hid (∀ had' : Nat → Bool, (∀ i, i < n → had i = true → had' i = true) → (G r = true ∨ ∀ i, i < n → had' i = has2 i) → r + 1 + Ck.pos had' n ≤ Ck.cnt G (r + 1) + Ck.cnt F k2 + n) := fun had' h1 h2 => by
            have e1 := Ck.pos_mono (f := had) (g := had') (k := n) h1
            have e2 := unhide hGr
            have e3 := unhide hle
            have e4 := (unhide hkc).1
            rcases h2 with h2 | h2
            · rw [if_pos h2] at e2
              omega
            · rcases unhide hnw with ⟨x, x1, x2, x3⟩ | q
              · have e5 := Ck.pos_less (f := had) (g := had') (k := n) h1 ⟨x, x1, x2, by rw [h2 x x1, x3]⟩
                omega
              · omega
          clear hways hGr hle hnw
          by_cases hd : G r = true
          · have hd3 : (r : Int) < (len3 : Int) ∧ z3 r = true := by
              rw [← unhide HG] at hd
              unfold fd at hd
              simp at hd
              exact ⟨by omega, hd.2⟩
            obtain ⟨hd4, hd5⟩ := hd3
            have hd6 : ¬ (r : Int) ≥ (len3 : Int) := by omega
            obtain ⟨b3, o3, rfl, hb3, hc3⟩ := (unhide HB3).at (i := r) (by omega)
            have d3 := (hbel3.cell (p := ⟨b3, o3 + r, none⟩) hb3).trans (hc3 r (by omega))
            rw [hd5] at d3
            have hgo : Hid (r + 1 + Ck.pos had n ≤ Ck.cnt G (r + 1) + Ck.cnt F k2 + n ∧ ¬ len3 = 0) := ⟨unhide hnext had (fun _ _ q => q) (.inl hd), by omega⟩
            clear hd hc3 hnext
            go_wp2_with fail
            go_roundw
            case rel => exact ⟨k2, r + 1, had, at2, has2, rfl, by go_num, unhide HC3, fun e => absurd e (unhide hgo).2, (unhide hgo).1, (unhide hkc).2⟩
            case measure => simp [intOf]; omega
          · have hdd : ((len3 : Int) ≤ (r : Int)) ∨ ((r : Int) < (len3 : Int) ∧ z3 r = false) := by
              rw [← unhide HG] at hd
              unfold fd at hd
              by_cases q : r < len3
              · rw [decide_eq_true q] at hd
                exact .inr ⟨by omega, by simpa using hd⟩
              · exact .inl (by omega)
            have cA := hide (unhide HC3).ack
            rw [unhide Hzc] at cA
            have hgo : Hid (∀ i, i < n → Ck.heard had zc i = has2 i) := fun i hi => by
              rw [← unhide Hzc, Ck.heard_at (by have := (unhide hls).2; omega)]
              cases hh : had i with
              | true => rw [unhide hsub2 i hi hh]; rfl
              | false => rfl
            have hgo2 : Hid (r + 1 + Ck.pos (Ck.heard had zc) n ≤ Ck.cnt G (r + 1) + Ck.cnt F k2 + n) := unhide hnext _ (fun i hi q => by rw [unhide hgo i hi]; exact unhide hsub2 i hi q) (.inr (unhide hgo))
            have hfin : Hid (∀ y, Ck.Com w y s t gl cl n l (Ck.heard had zc) at2 has2 → ∃ k r_1 had at_ has, Value.int .i64 (k2 : Int) = .int .i64 ((k : Nat) : Int) ∧ Value.int .i64 ((r : Int) + 1) = .int .i64 ((r_1 : Nat) : Int) ∧ Hid (Ck.Com w y s t gl cl n l had at_ has ∧ (len3 = 0 → ∀ i, i < n → had i = has i) ∧ r_1 + Ck.pos had n ≤ Ck.cnt G r_1 + Ck.cnt F k + n ∧ k ≤ r_1 * 16)) := fun y hC => ⟨k2, r + 1, _, at2, has2, rfl, by go_num, hC, fun _ => unhide hgo, unhide hgo2, (unhide hkc).2⟩
            clear hd hnext hgo hgo2
            rcases hdd with q1 | ⟨q1, q2⟩
            · go_wp2_with fail
              refine (unhide cB3).mono ?_
              rintro e wq ⟨rfl, hq9⟩
              obtain rfl : y3 = wq := hq9.symm
              go_wp2_with fail
              refine (unhide cA).mono ?_
              rintro e y4 ⟨rfl, hC4⟩
              go_wp2_with fail
              go_roundw
              case rel => exact unhide hfin _ hC4
              case measure => simp [intOf]; omega
            · have q3 : ¬ (r : Int) ≥ (len3 : Int) := by omega
              obtain ⟨b3, o3, rfl, hb3, hc3⟩ := (unhide HB3).at (i := r) (by omega)
              have d3 := (hbel3.cell (p := ⟨b3, o3 + r, none⟩) hb3).trans (hc3 r (by omega))
              rw [q2] at d3
              clear hc3
              go_wp2_with fail
              refine (unhide cB3).mono ?_
              rintro e wq ⟨rfl, hq9⟩
              obtain rfl : y3 = wq := hq9.symm
              go_wp2_with fail
              refine (unhide cA).mono ?_
              rintro e y4 ⟨rfl, hC4⟩
              go_wp2_with fail
              go_roundw
              case rel => exact unhide hfin _ hC4
              case measure => simp [intOf]; omega
        | succ j =>
          obtain rfl : z = (j : Int) := by omega
          have hjc : (j : Int) < (c : Int) := by omega
          have Hjc : Hid (j < c) := (show j < c by omega)
          have j0 : ¬ (j : Int) < 0 := by omega
          have hrun : Hid (∀ b, F k2 = b → (b = true → (k2 : Int) < (len2 : Int) ∧ (k2 : Int) < 100 ∧ z2 k2 = true) ∧ (b = false → ¬ (k2 : Int) < (len2 : Int) ∨ ((k2 : Int) < (len2 : Int) ∧ ¬ (k2 : Int) < 100) ∨ ((k2 : Int) < (len2 : Int) ∧ (k2 : Int) < 100 ∧ z2 k2 = false))) := fun b hb => by
            rw [← unhide HF] at hb
            unfold fl at hb
            refine ⟨fun q => ?_, fun q => ?_⟩
            · subst q
              simp at hb
              exact ⟨by omega, by omega, hb.2⟩
            · subst q
              by_cases q1 : k2 < len2
              · by_cases q2 : k2 < 100
                · rw [decide_eq_true q1, decide_eq_true q2] at hb
                  exact .inr (.inr ⟨by omega, by omega, by simpa using hb⟩)
                · exact .inr (.inl ⟨by omega, by omega⟩)
              · exact .inl (by omega)
          obtain ⟨b, hb⟩ : ∃ b, F k2 = b := ⟨_, rfl⟩
          have HF2 := hide hb
          obtain ⟨hr3, hr4⟩ := unhide hrun b hb
          have hbelY := (unhide hY).com.bel
          go_upto_region 23 with fail
          go_cut [20] from 73 to 135 (fun v20 wx => v20 = .bool b ∧ wx = wr)
          case first =>
            clear hY
            cases b with
            | true =>
              obtain ⟨r1, r2, r3⟩ := hr3 rfl
              obtain ⟨b2, o2, rfl, hb2, hc2⟩ := (unhide HB2).at (i := k2) (by omega)
              have d1 := (hbelY.cell (p := ⟨b2, o2 + k2, none⟩) hb2).trans (hc2 k2 (by omega))
              rw [r3] at d1
              go_wp2_with fail
              go_meet
              exact ⟨rfl, rfl⟩
            | false =>
              rcases hr4 rfl with r1 | ⟨r1, r2⟩ | ⟨r1, r2, r3⟩
              · go_wp2_with fail
                go_meet
                exact ⟨rfl, rfl⟩
              · go_wp2_with fail
                go_meet
                exact ⟨rfl, rfl⟩
              · obtain ⟨b2, o2, rfl, hb2, hc2⟩ := (unhide HB2).at (i := k2) (by omega)
                have d1 := (hbelY.cell (p := ⟨b2, o2 + k2, none⟩) hb2).trans (hc2 k2 (by omega))
                rw [r3] at d1
                go_wp2_with fail
                go_meet
                exact ⟨rfl, rfl⟩
          case rest =>
          obtain ⟨rfl, hcw⟩ := hcut
          obtain rfl : wr = wc := hcw.symm
          clear hr3 hr4 hrun hbelY
          cases b with
          | true =>
            have hIn : Hid (∀ y, wr.grownBy y none → In w y s t gl cl n l had at2 has has2 F k (k2 + 1) c j g) := fun y hy => by
              obtain ⟨i1, i2, i3, i4, i5, i6, i7, i8⟩ := unhide hY
              have hcn : Ck.cnt F (k2 + 1) = Ck.cnt F k2 + 1 := by
                show Ck.cnt F k2 + (if F k2 = true then 1 else 0) = _
                rw [unhide HF2, if_pos rfl]
              exact ⟨i1.on hy, i2, .inr (.inr (by omega)), by omega, by have := unhide Hjc; omega, fun q hq => by
                obtain ⟨v, v1, v2, v3⟩ := i6 q hq
                exact ⟨v, v1, v2, (World.cell?_of_block (a := ⟨g, q, none⟩) (hy.block g i8 (by simp))).trans v3⟩, i7, Nat.lt_of_lt_of_le i8 hy.size⟩
            have hdr : Hid (∀ m, wr.grownBy (wr.drewN m) none) := fun m => grown_drew (World.grownBy.refl _ none) m
            clear hY
            cases f with
            | true =>
              go_wp2_with fail
              go_quiet (fail)
              go_wp2_with fail
              go_roundw
              case rel => exact ⟨j, k2 + 1, _, _, has2, by have := unhide Hjc; omega, by go_num, rfl, rfl, by omega, unhide hIn _ (unhide hdr _)⟩
              case measure => simp [intOf] <;> omega
            | false =>
              go_wp2_with fail
              go_quiet (fail)
              go_wp2_with fail
              go_roundw
              case rel => exact ⟨j, k2 + 1, _, _, has2, by have := unhide Hjc; omega, by go_num, rfl, rfl, by omega, unhide hIn _ (unhide hdr _)⟩
              case measure => simp [intOf] <;> omega
          | false =>
            obtain ⟨v, hvn, hvh, hgj⟩ := (unhide hY).told j (unhide Hjc)
            obtain ⟨gi, ci, hgv, hpc⟩ := (unhide hY).com.piece hvn
            obtain ⟨lp, hlp⟩ : ∃ lp, (Ck.pc l v).length = lp := ⟨_, rfl⟩
            have HPC := hide hpc
            have Hlp := hide hlp
            rw [hlp] at hgv
            have v0 : (0 : Int) ≤ (v : Int) := by omega
            have v1 : (v : Int) < (n : Int) := by omega
            have hgl2 : Hid (gl ≠ t ∧ gl < wr.heap.size) := (unhide hY).com.apart
            have hdr : Hid (wr.grownBy wr.drew none) := grown_drew (World.grownBy.refl wr none) 1
            have hS0 : Hid (wr.drew.cell? ⟨g, j, none⟩ = some (.int .i64 (v : Int)) ∧ wr.drew.cell? ⟨gl, v, none⟩ = some (.slice (some ⟨gi, 0, none⟩) lp ci)) := ⟨hgj, hgv⟩
            have hkeep : Hid (∀ y, Turn (fun k => k = t) wr.drew y → y.cell? ⟨g, j, none⟩ = some (.int .i64 (v : Int)) ∧ y.cell? ⟨gl, v, none⟩ = some (.slice (some ⟨gi, 0, none⟩) lp ci)) := fun y hy =>
              ⟨(hy.cell (k := g) (unhide hY).gl (unhide hY).gt j).trans (unhide hS0).1, (hy.cell (k := gl) (unhide hgl2).2 (unhide hgl2).1 v).trans (unhide hS0).2⟩
            have cP1 : Hid (∀ x, wr.grownBy x none → Calls Try.prog 23 #[.pointer (some ⟨t, 0, none⟩), .int .i64 (v : Int), .int .i64 (n : Int), .slice (some ⟨gi, 0, none⟩) lp ci] x fun e y => e = .returned (.int .i64 0) ∧ Ck.Com w y s t gl cl n l had at2 (Ck.put has2 v) ∧ Turn (fun k => k = t) x y) := fun x hx => by
              have h1 := (unhide HPC).kept hx (.inr (by simp [Value.ownBlock]))
              have h2 := ((unhide hY).com.on hx).put hvn h1
              rw [unhide Hlp] at h2
              exact h2
            have hagain : Hid (∀ y1, Ck.Com w y1 s t gl cl n l had at2 (Ck.put has2 v) → Turn (fun k => k = t) wr.drew y1 → Calls Try.prog 23 #[.pointer (some ⟨t, 0, none⟩), .int .i64 (v : Int), .int .i64 (n : Int), .slice (some ⟨gi, 0, none⟩) lp ci] y1 fun e y2 => e = .returned (.int .i64 0) ∧ (∃ has3, ∀ m, In w (y2.drewN m) s t gl cl n l had at2 has has3 F k (k2 + 1) c j g) ∧ Hid (y2.cell? ⟨g, j, none⟩ = some (.int .i64 (v : Int)) ∧ y2.cell? ⟨gl, v, none⟩ = some (.slice (some ⟨gi, 0, none⟩) lp ci))) := fun y1 hC1 hT1 => by
              obtain ⟨gi2, ci2, q1, q2⟩ := hC1.piece hvn
              have q3 := (unhide hkeep y1 hT1).2
              rw [q1, unhide Hlp] at q3
              simp at q3
              obtain ⟨rfl, rfl⟩ := q3
              have h2 := hC1.put hvn q2
              rw [unhide Hlp] at h2
              refine h2.mono ?_
              rintro e y2 ⟨rfl, hC2, hT2⟩
              have hTT : Turn (fun k => k = t) wr.drew y2 := hT1.trans hT2 (fun _ _ q => q)
              refine ⟨rfl, ⟨Ck.put (Ck.put has2 v) v, fun m => ?_⟩, unhide hkeep y2 hTT⟩
              obtain ⟨i1, i2, i3, i4, i5, i6, i7, i8⟩ := unhide hY
              have hcn : Ck.cnt F (k2 + 1) = Ck.cnt F k2 := by
                show Ck.cnt F k2 + (if F k2 = true then 1 else 0) = _
                rw [unhide HF2, if_neg (by simp)]
                rfl
              have hTm := hTT.drew m
              exact ⟨hC2.on (grown_drew (World.grownBy.refl _ none) m), fun i hi q => by
                unfold Ck.put
                split
                · rfl
                · exact i2 i hi q, .inr (.inl ⟨v, hvn, hvh, by unfold Ck.put; rw [if_pos rfl]⟩), by omega, by have := unhide Hjc; omega, fun q hq => by
                obtain ⟨u, u1, u2, u3⟩ := i6 q hq
                exact ⟨u, u1, u2, (hTm.cell (k := g) i8 i7 q).trans u3⟩, i7, Nat.lt_of_lt_of_le i8 hTm.size⟩
            clear hY HPC Hlp hlp hpc hgj hgv hvh hvn hgl2
            go_upto_region 25 with fail
            go_cut [17] from 73 to 135 (fun v17 wx => v17 = .bool f ∧ wx = wr)
            case first =>
              cases f
              all_goals
                go_wp2_with fail
                go_meet
                exact ⟨rfl, rfl⟩
            case rest =>
            obtain ⟨rfl, hcw2⟩ := hcut
            obtain rfl : wr = wc := hcw2.symm
            go_upto_region 26 with fail
            refine wp_region_till (h := 37) (S := fun x => Hid (x.cell? ⟨g, j, none⟩ = some (.int .i64 (v : Int)) ∧ x.cell? ⟨gl, v, none⟩ = some (.slice (some ⟨gi, 0, none⟩) lp ci))) (by kernel_rfl) ?_
            refine wpTill_take (i := 0) (v := ?_) [1, 2, 37] rfl (by kernel_rfl) (by kernel_rfl) (by kernel_rfl) (by kernel_rfl) (fun _ _ _ h => h) hS0 (Or.inl ⟨by rfl, ?_⟩) ?_
            rotate_left
            · intro x hSx
              clear hSx
              go_simp
              try with_reducible rfl
            simp only [Act.put, List.getElem_toArray, List.getElem_cons_zero, List.setIfInBounds_toArray, List.set_cons_succ, List.set_cons_zero]
            refine wpTill_take (i := 1) (v := ?_) [2, 37] rfl (by kernel_rfl) (by kernel_rfl) (by kernel_rfl) (by kernel_rfl) (fun _ _ _ h => h) hS0 (Or.inl ⟨by rfl, ?_⟩) ?_
            rotate_left
            · intro x hSx
              clear hSx
              go_simp
              try with_reducible rfl
            simp only [Act.put, List.getElem_toArray, List.getElem_cons_zero, List.getElem_cons_succ, List.setIfInBounds_toArray, List.set_cons_succ, List.set_cons_zero]
            refine wpTill_take (i := 2) (v := ?_) [37] rfl (by kernel_rfl) (by kernel_rfl) (by kernel_rfl) (by kernel_rfl) (fun _ _ _ h => h) hS0 (Or.inl ⟨by rfl, ?_⟩) ?_
            rotate_left
            · intro x hSx
              clear hSx
              go_simp
              try with_reducible rfl
            simp only [Act.put, List.getElem_toArray, List.getElem_cons_zero, List.getElem_cons_succ, List.setIfInBounds_toArray, List.set_cons_succ, List.set_cons_zero]
            refine wpTill_take (i := 3) (v := ?_) [17, 19, 36, 37] rfl (by kernel_rfl) (by kernel_rfl) (by kernel_rfl) (by kernel_rfl) (fun _ _ _ h => h) hS0 (Or.inl ⟨by rfl, ?_⟩) ?_
            rotate_left
            · intro x hSx
              clear hSx
              go_simp
              try with_reducible rfl
            simp only [Act.put, List.getElem_toArray, List.getElem_cons_zero, List.getElem_cons_succ, List.setIfInBounds_toArray, List.set_cons_succ, List.set_cons_zero]
            refine wpTill_take (i := 4) (v := ?_) [6, 7, 17, 19, 36, 37] rfl (by kernel_rfl) (by kernel_rfl) (by kernel_rfl) (by kernel_rfl) (fun _ _ _ h => h) hS0 (Or.inl ⟨by rfl, ?_⟩) ?_
            rotate_left
            · intro x hSx
              clear hSx
              go_simp
              try with_reducible rfl
            simp only [Act.put, List.getElem_toArray, List.getElem_cons_zero, List.getElem_cons_succ, List.setIfInBounds_toArray, List.set_cons_succ, List.set_cons_zero]
            refine wpTill_take (i := 5) (v := ?_) [6, 7, 17, 19, 36, 37] rfl (by kernel_rfl) (by kernel_rfl) (by kernel_rfl) (by kernel_rfl) (fun _ _ _ h => h) hS0 (Or.inl ⟨by rfl, ?_⟩) ?_
            rotate_left
            · intro x hSx
              clear hSx
              go_simp
              try with_reducible rfl
            simp only [Act.put, List.getElem_toArray, List.getElem_cons_zero, List.getElem_cons_succ, List.setIfInBounds_toArray, List.set_cons_succ, List.set_cons_zero]
            refine wpTill_take (i := 6) (v := ?_) [7, 17, 19, 36, 37] rfl (by kernel_rfl) (by kernel_rfl) (by kernel_rfl) (by kernel_rfl) (fun _ _ _ h => h) hS0 (Or.inl ⟨by rfl, ?_⟩) ?_
            rotate_left
            · intro x hSx
              clear hSx
              go_simp
              try with_reducible rfl
            simp only [Act.put, List.getElem_toArray, List.getElem_cons_zero, List.getElem_cons_succ, List.setIfInBounds_toArray, List.set_cons_succ, List.set_cons_zero]
            refine wpTill_take (i := 7) (v := ?_) [17, 19, 36, 37] rfl (by kernel_rfl) (by kernel_rfl) (by kernel_rfl) (by kernel_rfl) (fun _ _ _ h => h) hS0 (Or.inl ⟨by rfl, ?_⟩) ?_
            rotate_left
            · intro x hSx
              have e1 := (unhide hSx).1
              clear hSx
              go_simp
              try with_reducible rfl
            simp only [Act.put, List.getElem_toArray, List.getElem_cons_zero, List.getElem_cons_succ, List.setIfInBounds_toArray, List.set_cons_succ, List.set_cons_zero]
            refine wpTill_take (i := 8) (v := ?_) [9, 17, 19, 36, 37] rfl (by kernel_rfl) (by kernel_rfl) (by kernel_rfl) (by kernel_rfl) (fun _ _ _ h => h) hS0 (Or.inl ⟨by rfl, ?_⟩) ?_
            rotate_left
            · intro x hSx
              clear hSx
              go_simp
              try with_reducible rfl
            simp only [Act.put, List.getElem_toArray, List.getElem_cons_zero, List.getElem_cons_succ, List.setIfInBounds_toArray, List.set_cons_succ, List.set_cons_zero]
            refine wpTill_take (i := 9) (v := ?_) [17, 19, 36, 37] rfl (by kernel_rfl) (by kernel_rfl) (by kernel_rfl) (by kernel_rfl) (fun _ _ _ h => h) hS0 (Or.inl ⟨by rfl, ?_⟩) ?_
            rotate_left
            · intro x hSx
              clear hSx
              go_simp
              try with_reducible rfl
            simp only [Act.put, List.getElem_toArray, List.getElem_cons_zero, List.getElem_cons_succ, List.setIfInBounds_toArray, List.set_cons_succ, List.set_cons_zero]
            refine wpTill_take (i := 10) (v := ?_) [15, 16, 17, 19, 36, 37] rfl (by kernel_rfl) (by kernel_rfl) (by kernel_rfl) (by kernel_rfl) (fun _ _ _ h => h) hS0 (Or.inl ⟨by rfl, ?_⟩) ?_
            rotate_left
            · intro x hSx
              clear hSx
              go_simp
              try with_reducible rfl
            simp only [Act.put, List.getElem_toArray, List.getElem_cons_zero, List.getElem_cons_succ, List.setIfInBounds_toArray, List.set_cons_succ, List.set_cons_zero]
            refine wpTill_take (i := 11) (v := ?_) [13, 14, 15, 16, 17, 19, 36, 37] rfl (by kernel_rfl) (by kernel_rfl) (by kernel_rfl) (by kernel_rfl) (fun _ _ _ h => h) hS0 (Or.inl ⟨by rfl, ?_⟩) ?_
            rotate_left
            · intro x hSx
              clear hSx
              go_simp
              try with_reducible rfl
            simp only [Act.put, List.getElem_toArray, List.getElem_cons_zero, List.getElem_cons_succ, List.setIfInBounds_toArray, List.set_cons_succ, List.set_cons_zero]
            refine wpTill_take (i := 12) (v := ?_) [13, 14, 15, 16, 17, 19, 36, 37] rfl (by kernel_rfl) (by kernel_rfl) (by kernel_rfl) (by kernel_rfl) (fun _ _ _ h => h) hS0 (Or.inl ⟨by rfl, ?_⟩) ?_
            rotate_left
            · intro x hSx
              clear hSx
              go_simp
              try with_reducible rfl
            simp only [Act.put, List.getElem_toArray, List.getElem_cons_zero, List.getElem_cons_succ, List.setIfInBounds_toArray, List.set_cons_succ, List.set_cons_zero]
            refine wpTill_take (i := 13) (v := ?_) [14, 15, 16, 17, 19, 36, 37] rfl (by kernel_rfl) (by kernel_rfl) (by kernel_rfl) (by kernel_rfl) (fun _ _ _ h => h) hS0 (Or.inl ⟨by rfl, ?_⟩) ?_
            rotate_left
            · intro x hSx
              clear hSx
              go_simp
              try with_reducible rfl
            simp only [Act.put, List.getElem_toArray, List.getElem_cons_zero, List.getElem_cons_succ, List.setIfInBounds_toArray, List.set_cons_succ, List.set_cons_zero]
            refine wpTill_take (i := 14) (v := ?_) [15, 16, 17, 19, 36, 37] rfl (by kernel_rfl) (by kernel_rfl) (by kernel_rfl) (by kernel_rfl) (fun _ _ _ h => h) hS0 (Or.inl ⟨by rfl, ?_⟩) ?_
            rotate_left
            · intro x hSx
              have e1 := (unhide hSx).1
              clear hSx
              go_simp
              try with_reducible rfl
            simp only [Act.put, List.getElem_toArray, List.getElem_cons_zero, List.getElem_cons_succ, List.setIfInBounds_toArray, List.set_cons_succ, List.set_cons_zero]
            refine wpTill_take (i := 15) (v := ?_) [16, 17, 19, 36, 37] rfl (by kernel_rfl) (by kernel_rfl) (by kernel_rfl) (by kernel_rfl) (fun _ _ _ h => h) hS0 (Or.inl ⟨by rfl, ?_⟩) ?_
            rotate_left
            · intro x hSx
              clear hSx
              go_simp
              try with_reducible rfl
            simp only [Act.put, List.getElem_toArray, List.getElem_cons_zero, List.getElem_cons_succ, List.setIfInBounds_toArray, List.set_cons_succ, List.set_cons_zero]
            refine wpTill_take (i := 16) (v := ?_) [17, 19, 36, 37] rfl (by kernel_rfl) (by kernel_rfl) (by kernel_rfl) (by kernel_rfl) (fun _ _ _ h => h) hS0 (Or.inl ⟨by rfl, ?_⟩) ?_
            rotate_left
            · intro x hSx
              have e2 := (unhide hSx).2
              clear hSx
              go_simp
              try with_reducible rfl
            simp only [Act.put, List.getElem_toArray, List.getElem_cons_zero, List.getElem_cons_succ, List.setIfInBounds_toArray, List.set_cons_succ, List.set_cons_zero]
            refine wpTill_only (j := 17) (by kernel_rfl) rfl (fun K hK => ?_)
            go_simp
            refine (unhide cP1 _ (unhide hdr)).mono ?_
            rintro e y1 ⟨rfl, hC1, hT1⟩
            have hS1 := hide (unhide hkeep y1 hT1)
            have cP2 := hide (unhide hagain y1 hC1 hT1)
            clear hS0 cP1 hC1 hT1
            try go_simp
            refine hK.out _ _ (fun _ => hS1) ?_
            clear hK K
            refine wpTill_take (i := 18) (v := ?_) [19, 36, 37] rfl (by kernel_rfl) (by kernel_rfl) (by kernel_rfl) (by kernel_rfl) (fun _ _ _ h => h) hS1 (Or.inl ⟨by rfl, ?_⟩) ?_
            rotate_left
            · intro x hSx
              clear hSx
              go_simp
              try with_reducible rfl
            simp only [Act.put, List.getElem_toArray, List.getElem_cons_zero, List.getElem_cons_succ, List.setIfInBounds_toArray, List.set_cons_succ, List.set_cons_zero]
            refine wpTill_take (i := 19) (v := ?_) [36, 37] rfl (by kernel_rfl) (by kernel_rfl) (by kernel_rfl) (by kernel_rfl) (fun _ _ _ h => h) hS1 (Or.inl ⟨by rfl, ?_⟩) ?_
            rotate_left
            · intro x hSx
              clear hSx
              go_simp
              try with_reducible rfl
            simp only [Act.put, List.getElem_toArray, List.getElem_cons_zero, List.getElem_cons_succ, List.setIfInBounds_toArray, List.set_cons_succ, List.set_cons_zero]
            refine wpTill_take (i := 20) (v := ?_) [34, 35, 36, 37] rfl (by kernel_rfl) (by kernel_rfl) (by kernel_rfl) (by kernel_rfl) (fun _ _ _ h => h) hS1 (Or.inl ⟨by rfl, ?_⟩) ?_
            rotate_left
            · intro x hSx
              clear hSx
              go_simp
              try with_reducible rfl
            simp only [Act.put, List.getElem_toArray, List.getElem_cons_zero, List.getElem_cons_succ, List.setIfInBounds_toArray, List.set_cons_succ, List.set_cons_zero]
            refine wpTill_take (i := 21) (v := ?_) [23, 24, 34, 35, 36, 37] rfl (by kernel_rfl) (by kernel_rfl) (by kernel_rfl) (by kernel_rfl) (fun _ _ _ h => h) hS1 (Or.inl ⟨by rfl, ?_⟩) ?_
            rotate_left
            · intro x hSx
              clear hSx
              go_simp
              try with_reducible rfl
            simp only [Act.put, List.getElem_toArray, List.getElem_cons_zero, List.getElem_cons_succ, List.setIfInBounds_toArray, List.set_cons_succ, List.set_cons_zero]
            refine wpTill_take (i := 22) (v := ?_) [23, 24, 34, 35, 36, 37] rfl (by kernel_rfl) (by kernel_rfl) (by kernel_rfl) (by kernel_rfl) (fun _ _ _ h => h) hS1 (Or.inl ⟨by rfl, ?_⟩) ?_
            rotate_left
            · intro x hSx
              clear hSx
              go_simp
              try with_reducible rfl
            simp only [Act.put, List.getElem_toArray, List.getElem_cons_zero, List.getElem_cons_succ, List.setIfInBounds_toArray, List.set_cons_succ, List.set_cons_zero]
            refine wpTill_take (i := 23) (v := ?_) [24, 34, 35, 36, 37] rfl (by kernel_rfl) (by kernel_rfl) (by kernel_rfl) (by kernel_rfl) (fun _ _ _ h => h) hS1 (Or.inl ⟨by rfl, ?_⟩) ?_
            rotate_left
            · intro x hSx
              clear hSx
              go_simp
              try with_reducible rfl
            simp only [Act.put, List.getElem_toArray, List.getElem_cons_zero, List.getElem_cons_succ, List.setIfInBounds_toArray, List.set_cons_succ, List.set_cons_zero]
            refine wpTill_take (i := 24) (v := ?_) [34, 35, 36, 37] rfl (by kernel_rfl) (by kernel_rfl) (by kernel_rfl) (by kernel_rfl) (fun _ _ _ h => h) hS1 (Or.inl ⟨by rfl, ?_⟩) ?_
            rotate_left
            · intro x hSx
              have e1 := (unhide hSx).1
              clear hSx
              go_simp
              try with_reducible rfl
            simp only [Act.put, List.getElem_toArray, List.getElem_cons_zero, List.getElem_cons_succ, List.setIfInBounds_toArray, List.set_cons_succ, List.set_cons_zero]
            refine wpTill_take (i := 25) (v := ?_) [26, 34, 35, 36, 37] rfl (by kernel_rfl) (by kernel_rfl) (by kernel_rfl) (by kernel_rfl) (fun _ _ _ h => h) hS1 (Or.inl ⟨by rfl, ?_⟩) ?_
            rotate_left
            · intro x hSx
              clear hSx
              go_simp
              try with_reducible rfl
            simp only [Act.put, List.getElem_toArray, List.getElem_cons_zero, List.getElem_cons_succ, List.setIfInBounds_toArray, List.set_cons_succ, List.set_cons_zero]
            refine wpTill_take (i := 26) (v := ?_) [34, 35, 36, 37] rfl (by kernel_rfl) (by kernel_rfl) (by kernel_rfl) (by kernel_rfl) (fun _ _ _ h => h) hS1 (Or.inl ⟨by rfl, ?_⟩) ?_
            rotate_left
            · intro x hSx
              clear hSx
              go_simp
              try with_reducible rfl
            simp only [Act.put, List.getElem_toArray, List.getElem_cons_zero, List.getElem_cons_succ, List.setIfInBounds_toArray, List.set_cons_succ, List.set_cons_zero]
            refine wpTill_take (i := 27) (v := ?_) [32, 33, 34, 35, 36, 37] rfl (by kernel_rfl) (by kernel_rfl) (by kernel_rfl) (by kernel_rfl) (fun _ _ _ h => h) hS1 (Or.inl ⟨by rfl, ?_⟩) ?_
            rotate_left
            · intro x hSx
              clear hSx
              go_simp
              try with_reducible rfl
            simp only [Act.put, List.getElem_toArray, List.getElem_cons_zero, List.getElem_cons_succ, List.setIfInBounds_toArray, List.set_cons_succ, List.set_cons_zero]
            refine wpTill_take (i := 28) (v := ?_) [30, 31, 32, 33, 34, 35, 36, 37] rfl (by kernel_rfl) (by kernel_rfl) (by kernel_rfl) (by kernel_rfl) (fun _ _ _ h => h) hS1 (Or.inl ⟨by rfl, ?_⟩) ?_
            rotate_left
            · intro x hSx
              clear hSx
              go_simp
              try with_reducible rfl
            simp only [Act.put, List.getElem_toArray, List.getElem_cons_zero, List.getElem_cons_succ, List.setIfInBounds_toArray, List.set_cons_succ, List.set_cons_zero]
            refine wpTill_take (i := 29) (v := ?_) [30, 31, 32, 33, 34, 35, 36, 37] rfl (by kernel_rfl) (by kernel_rfl) (by kernel_rfl) (by kernel_rfl) (fun _ _ _ h => h) hS1 (Or.inl ⟨by rfl, ?_⟩) ?_
            rotate_left
            · intro x hSx
              clear hSx
              go_simp
              try with_reducible rfl
            simp only [Act.put, List.getElem_toArray, List.getElem_cons_zero, List.getElem_cons_succ, List.setIfInBounds_toArray, List.set_cons_succ, List.set_cons_zero]
            refine wpTill_take (i := 30) (v := ?_) [31, 32, 33, 34, 35, 36, 37] rfl (by kernel_rfl) (by kernel_rfl) (by kernel_rfl) (by kernel_rfl) (fun _ _ _ h => h) hS1 (Or.inl ⟨by rfl, ?_⟩) ?_
            rotate_left
            · intro x hSx
              clear hSx
              go_simp
              try with_reducible rfl
            simp only [Act.put, List.getElem_toArray, List.getElem_cons_zero, List.getElem_cons_succ, List.setIfInBounds_toArray, List.set_cons_succ, List.set_cons_zero]
            refine wpTill_take (i := 31) (v := ?_) [32, 33, 34, 35, 36, 37] rfl (by kernel_rfl) (by kernel_rfl) (by kernel_rfl) (by kernel_rfl) (fun _ _ _ h => h) hS1 (Or.inl ⟨by rfl, ?_⟩) ?_
            rotate_left
            · intro x hSx
              have e1 := (unhide hSx).1
              clear hSx
              go_simp
              try with_reducible rfl
            simp only [Act.put, List.getElem_toArray, List.getElem_cons_zero, List.getElem_cons_succ, List.setIfInBounds_toArray, List.set_cons_succ, List.set_cons_zero]
            refine wpTill_take (i := 32) (v := ?_) [33, 34, 35, 36, 37] rfl (by kernel_rfl) (by kernel_rfl) (by kernel_rfl) (by kernel_rfl) (fun _ _ _ h => h) hS1 (Or.inl ⟨by rfl, ?_⟩) ?_
            rotate_left
            · intro x hSx
              clear hSx
              go_simp
              try with_reducible rfl
            simp only [Act.put, List.getElem_toArray, List.getElem_cons_zero, List.getElem_cons_succ, List.setIfInBounds_toArray, List.set_cons_succ, List.set_cons_zero]
            refine wpTill_take (i := 33) (v := ?_) [34, 35, 36, 37] rfl (by kernel_rfl) (by kernel_rfl) (by kernel_rfl) (by kernel_rfl) (fun _ _ _ h => h) hS1 (Or.inl ⟨by rfl, ?_⟩) ?_
            rotate_left
            · intro x hSx
              have e2 := (unhide hSx).2
              clear hSx
              go_simp
              try with_reducible rfl
            simp only [Act.put, List.getElem_toArray, List.getElem_cons_zero, List.getElem_cons_succ, List.setIfInBounds_toArray, List.set_cons_succ, List.set_cons_zero]
            refine wpTill_only (j := 34) (by kernel_rfl) rfl (fun K hK => ?_)
            go_simp
            refine (unhide cP2).mono ?_
            rintro e y2 ⟨rfl, hfin2, hS2'⟩
            have hfin3 := hide hfin2
            have hS2 := hide hS2'
            clear cP2 hfin2 hS2' hS1
            try go_simp
            refine hK.out _ _ (fun _ => hS2) ?_
            clear hK K
            refine wpTill_take (i := 35) (v := ?_) [36, 37] rfl (by kernel_rfl) (by kernel_rfl) (by kernel_rfl) (by kernel_rfl) (fun _ _ _ h => h) hS2 (Or.inl ⟨by rfl, ?_⟩) ?_
            rotate_left
            · intro x hSx
              clear hSx
              go_simp
              try with_reducible rfl
            simp only [Act.put, List.getElem_toArray, List.getElem_cons_zero, List.getElem_cons_succ, List.setIfInBounds_toArray, List.set_cons_succ, List.set_cons_zero]
            refine wpTill_take (i := 36) (v := ?_) [37] rfl (by kernel_rfl) (by kernel_rfl) (by kernel_rfl) (by kernel_rfl) (fun _ _ _ h => h) hS2 (Or.inl ⟨by rfl, ?_⟩) ?_
            rotate_left
            · intro x hSx
              clear hSx
              go_simp
              try with_reducible rfl
            simp only [Act.put, List.getElem_toArray, List.getElem_cons_zero, List.getElem_cons_succ, List.setIfInBounds_toArray, List.set_cons_succ, List.set_cons_zero]
            refine wpTill_only (j := 37) (by kernel_rfl) rfl (fun K hK => ?_)
            go_simp
            refine hK.out _ _ (fun hx => absurd (hx.symm.trans (by kernel_rfl)) Bool.false_ne_true) ?_
            clear hK K
            refine wpTill_done (by kernel_rfl) ?_ _
            have hfin4 : Hid (∃ has3, In w y2 s t gl cl n l had at2 has has3 F k (k2 + 1) c j g) := by
              obtain ⟨has3, h3⟩ := unhide hfin3
              exact ⟨has3, h3 0⟩
            clear hfin3 hS2 hkeep hagain hdr
            go_wp2_with fail
            go_roundw
            case rel =>
              obtain ⟨has3, h3⟩ := unhide hfin4
              exact ⟨j, k2 + 1, _, f, has3, by have := unhide Hjc; omega, by go_num, rfl, rfl, by omega, h3⟩
            case measure => simp [intOf] <;> omega

set_option maxRecDepth 100000 in
theorem lifted (os : Os) (started : os.Started) (H : Type) (enc : TypeId × Value → H) :
    ReturnsInHanded {} Try.checked os 6 .any (Rows.chunkComesSpec.pre6 enc Try.prog Try.f6 Rows.chunkComesRow.domain false) (Rows.chunkComesSpec.post enc Try.prog Try.f6 false true false false) := by
  refine returnsInHanded_of_change_sized (C := Try.checked) own started (by kernel_rfl) Try.func6
    (ChangeSpec.witness6 (enc := enc) (C := Try.checked) false ⟨#[], #[.slice none 0 0, .int .i64 0, .slice none 0 0, .slice none 0 0], []⟩ 8 (by kernel_rfl) (by kernel_rfl) (by kernel_rfl) (by kernel_rfl)) ?_
  intro W base args ds gs before hval0 hW hcnd hreach _
  have hval : ∀ (j : Nat) t v, Try.f6.params[j]? = some t → args[j]? = some v → Value.okWide Try.prog W .any base t v := hval0
  have hW' := hW
  obtain ⟨p, q, hA0, hV, rfl, hfz, hnd⟩ := hW
  have hA : DataW.TrodAll enc Try.prog W 0 (fun _ => true) true Try.f6.params.toList args.toList ds p := hA0
  rw [Try.params6] at hA hval
  obtain ⟨v0, vs0, d0, ds0, p0, q0, hargs, rfl, rfl, h0, r0⟩ := trodAll_cons hA
  obtain ⟨v1, vs1, d1, ds1, p1, q1, rfl, rfl, rfl, h1, r1⟩ := trodAll_cons r0
  obtain ⟨v2, vs2, d2, ds2, p2, q2, rfl, rfl, rfl, h2, r2⟩ := trodAll_cons r1
  obtain ⟨v3, vs3, d3, ds3, p3, q3, rfl, rfl, rfl, h3, r3⟩ := trodAll_cons r2
  obtain ⟨rfl, rfl, rfl⟩ := trodAll_nil r3
  obtain rfl : args = #[v0, v1, v2, v3] := by cases args; simp_all
  obtain ⟨rfl, rfl⟩ := trodVars_none hV
  obtain ⟨a0, len0, cap0, rfl⟩ := okWide_slice Try.underlying22 (hval 0 22 v0 rfl rfl)
  have k0 := h0
  have lt0 : ∀ x ∈ p0, x.block < W.heap.size := by obtain ⟨m, hm⟩ := k0; exact DataW.trod_lt m _ _ _ hm
  obtain ⟨z0, w0⟩ : ∃ zs, IsRow .u8 W a0 len0 cap0 zs := by
    obtain ⟨fuel, hf⟩ := h0
    rcases open_ints Try.underlying22 Try.underlying5 (by kernel_rfl) hf with ⟨hcs, _⟩ | ⟨x, l, c, zs, hcs, _, hl, hm, hz, _, hcell, hwz⟩
    · simp [Value.cells] at hcs
      obtain ⟨rfl, rfl, rfl⟩ := hcs
      exact ⟨[], .inl ⟨rfl, rfl, rfl, rfl⟩⟩
    · simp [Value.cells] at hcs
      obtain ⟨rfl, rfl, rfl⟩ := hcs
      exact ⟨zs, .inr ⟨_, rfl, hl, hm, by simpa using hz, hcell, hwz⟩⟩
  obtain ⟨a1, rfl, rfl, rfl, w1⟩ := open_int Try.underlying3 (hval 1 3 v1 rfl rfl) h1
  obtain ⟨a2, len2, cap2, rfl⟩ := okWide_slice Try.underlying61 (hval 2 61 v2 rfl rfl)
  have k2 := h2
  have lt2 : ∀ x ∈ p2, x.block < W.heap.size := by obtain ⟨m, hm⟩ := k2; exact DataW.trod_lt m _ _ _ hm
  obtain ⟨z2, w2⟩ : ∃ f, IsBols W a2 len2 cap2 f := by
    obtain ⟨fuel, hf⟩ := h2
    rcases Go.Deep.open_bools Try.underlying61 Try.underlying4 (by kernel_rfl) hf with ⟨hcs, _⟩ | ⟨x, l, c, f, hcs, _, hl, hm, _, hcell⟩
    · simp [Value.cells] at hcs
      obtain ⟨rfl, rfl, rfl⟩ := hcs
      exact ⟨fun _ => false, .inl ⟨rfl, rfl, rfl⟩⟩
    · simp [Value.cells] at hcs
      obtain ⟨rfl, rfl, rfl⟩ := hcs
      exact ⟨f, .inr ⟨_, rfl, hl, hm, hcell⟩⟩
  obtain ⟨a3, len3, cap3, rfl⟩ := okWide_slice Try.underlying61 (hval 3 61 v3 rfl rfl)
  have k3 := h3
  have lt3 : ∀ x ∈ p3, x.block < W.heap.size := by obtain ⟨m, hm⟩ := k3; exact DataW.trod_lt m _ _ _ hm
  obtain ⟨z3, w3⟩ : ∃ f, IsBols W a3 len3 cap3 f := by
    obtain ⟨fuel, hf⟩ := h3
    rcases Go.Deep.open_bools Try.underlying61 Try.underlying4 (by kernel_rfl) hf with ⟨hcs, _⟩ | ⟨x, l, c, f, hcs, _, hl, hm, _, hcell⟩
    · simp [Value.cells] at hcs
      obtain ⟨rfl, rfl, rfl⟩ := hcs
      exact ⟨fun _ => false, .inl ⟨rfl, rfl, rfl⟩⟩
    · simp [Value.cells] at hcs
      obtain ⟨rfl, rfl, rfl⟩ := hcs
      exact ⟨f, .inr ⟨_, rfl, hl, hm, hcell⟩⟩
  have hB2 : len2 ≤ 140737488355328 := by
    obtain ⟨fuel, hf⟩ := k2
    rcases Go.Deep.open_bools Try.underlying61 Try.underlying4 (by kernel_rfl) hf with ⟨hcs, _⟩ | ⟨x, l, c, f, hcs, _, hl, hm, hx, hcell⟩
    · simp [Value.cells] at hcs
      omega
    · simp [Value.cells] at hcs
      have hd := congrArg Prod.fst hx
      simp only at hd
      subst hd
      have hr := sized_slice hreach (j := 2) (t := 61) (e := 4) rfl rfl Try.underlying61
      have hb1 : Try.checked.prog.bytesOf 4 = 1 := by kernel_rfl
      rw [hb1] at hr
      have := reachBytes_lt
      simp at hr
      omega
  have hB3 : len3 ≤ 140737488355328 := by
    obtain ⟨fuel, hf⟩ := k3
    rcases Go.Deep.open_bools Try.underlying61 Try.underlying4 (by kernel_rfl) hf with ⟨hcs, _⟩ | ⟨x, l, c, f, hcs, _, hl, hm, hx, hcell⟩
    · simp [Value.cells] at hcs
      omega
    · simp [Value.cells] at hcs
      have hd := congrArg Prod.fst hx
      simp only at hd
      subst hd
      have hr := sized_slice hreach (j := 3) (t := 61) (e := 4) rfl rfl Try.underlying61
      have hb1 : Try.checked.prog.bytesOf 4 = 1 := by kernel_rfl
      rw [hb1] at hr
      have := reachBytes_lt
      simp at hr
      omega
  clear hA0 hval0
  refine (walk a0 len0 cap0 z0 a1 a2 len2 cap2 z2 a3 len3 cap3 z3 W hB2 hB3 w0 w1 w2 w3).mono fun e W' ⟨he, bel⟩ => ?_
  subst he
  exact ⟨_, rfl, _, _, _, [], _, [], hW', trodAll_mk1 (shut_bool Try.underlying4 _), (trodAll_cons_mk (Below.trod laidOut (by kernel_rfl) (of_decide_eq_true (by kernel_rfl)) k0 bel lt0) (trodAll_cons_mk (shut_int Try.underlying3 w1) (trodAll_cons_mk (Below.trod laidOut (by kernel_rfl) (of_decide_eq_true (by kernel_rfl)) k2 bel lt2) (trodAll_cons_mk (Below.trod laidOut (by kernel_rfl) (of_decide_eq_true (by kernel_rfl)) k3 bel lt3) trodAll_mk0)))), rfl, bel.frame _, fun h => by cases h⟩

theorem over : Rows.chunkComesRow.holds Try.pinned (OpenSpec.ofChange Rows.chunkComesSpec) :=
  OpenClaim.holds_of_wide 6 Try.f6 rfl rfl rfl rfl rfl rfl rfl ⟨rfl, rfl, rfl, rfl, rfl⟩ rfl rfl rfl rfl rfl (by kernel_rfl) Try.func6 (by kernel_rfl)
    (of_decide_eq_true (by kernel_rfl)) (by unfold Func.isWrapper; first | (rw [if_pos (by decide +kernel)]; kernel_rfl) | (rw [if_neg (by decide +kernel)]; exact ⟨rfl, rfl⟩))
    (fun os started H enc _ => lifted os started H enc)

theorem proved : Rows.ChunkComesSaid := over
#print axioms proved
end Go.Proofs.Ytnolelhjhhiohaa.chunkComes
