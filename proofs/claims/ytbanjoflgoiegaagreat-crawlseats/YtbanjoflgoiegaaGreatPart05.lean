/-
  GridFind Dice
-/
import Derived.Test.YtbanjoflgoiegaaGreatPart03
import Derived.Test.YtbanjoflgoiegaaGreatPart01
namespace Go.Proofs.YtbanjoflgoiegaaGreat
open Go.RowKit

def Gr.kind (len : Nat) (f : Nat → Int) (c : Int) : Int := if 0 ≤ c ∧ c < 384 ∧ c.toNat < len then f c.toNat else 0

theorem Gr.kind_at (len : Nat) (f : Nat → Int) (c : Int) (h : 0 ≤ c) : Gr.at len f (c % 24) (c / 24) = Gr.kind len f c := by
  have e : c / 24 * 24 + c % 24 = c := by omega
  have hi := Gr.inB_iff (c % 24) (c / 24)
  unfold Gr.at Gr.kind
  rw [e]
  by_cases hc : c < 384 ∧ c.toNat < len
  · rw [if_pos ⟨hi.2 (by omega), hc.2⟩, if_pos ⟨h, hc⟩]
  · rw [if_neg (fun hh => hc ⟨by have := hi.1 hh.1; omega, hh.2⟩), if_neg (by omega)]

theorem Gr.tdiv_low (c : Int) (h : c < 0) (hb : -9223372036854775808 ≤ c) : -9223372036854775808 ≤ c.tdiv 24 ∧ c.tdiv 24 ≤ 0 ∧ -24 ≤ c.tmod 24 ∧ c.tmod 24 ≤ 0 ∧ 24 * c.tdiv 24 + c.tmod 24 = c := by
  have h1 := Int.mul_tdiv_add_tmod c 24
  have h2 := Int.lt_tmod_of_pos c (b := 24) (by omega)
  have h3 : c.tmod 24 ≤ 0 := by
    have := Int.tmod_nonneg (a := -c) 24 (by omega)
    rw [Int.neg_tmod] at this
    omega
  omega

theorem Gr.kind_at_low (len : Nat) (f : Nat → Int) (c : Int) (h : c < 0) (hb : -9223372036854775808 ≤ c) : Gr.at len f (c.tmod 24) (c.tdiv 24) = Gr.kind len f c := by
  obtain ⟨_, h1, _, h2, h3⟩ := Gr.tdiv_low c h hb
  have hi := Gr.inB_iff (c.tmod 24) (c.tdiv 24)
  unfold Gr.at Gr.kind
  rw [if_neg (fun hh => by have := hi.1 hh.1; omega), if_neg (by omega)]

set_option maxHeartbeats 400000 in
theorem kindOf_any (B : Nat) (a : Option Addr) (len cap : Nat) (f : Nat → Int) (c : Int) (w : World) (h : Vec B w a len (Byts f)) (hf : ∀ i, 0 ≤ f i ∧ f i ≤ 255) (hb : -9223372036854775808 ≤ c) (hb2 : c ≤ 9223372036854775807) :
    Calls Tryz.prog 176 #[.slice a len cap, .int .i64 c] w fun e w' => e = .returned (.int .i64 (Gr.kind len f c)) ∧ w' = w := by
  have hv := hide h
  have hf' := hide hf
  clear h hf
  by_cases hc : 0 ≤ c
  · have hd := hide (Gr.kind_at len f c hc)
    go_enter Tryz.func176, Tryz.ntmps176
    go_wp2_with fail
    refine (at_any B _ _ _ _ _ _ _ (unhide hv) (unhide hf')).mono ?_
    rintro e w' ⟨rfl, rfl⟩
    go_wp2
    go_ret
    exact ⟨ret_int (unhide hd), rfl⟩
  · have hd := hide (Gr.kind_at_low len f c (by omega) hb)
    obtain ⟨b1, b2, _, _, _⟩ := Gr.tdiv_low c (by omega) hb
    go_enter Tryz.func176, Tryz.ntmps176
    go_wp2_with fail
    refine (at_any B _ _ _ _ _ _ _ (unhide hv) (unhide hf')).mono ?_
    rintro e w' ⟨rfl, rfl⟩
    go_wp2
    go_ret
    exact ⟨ret_int (unhide hd), rfl⟩

theorem slice_bytes (a : Option Addr) (len cap k : Nat) (w : World) (hk : k ≤ cap) :
    (Instr.slice 25 (.slice a len cap) none (some (.int .i64 (k : Int))) none).run Tryz.prog w = .ok (.slice a k cap) w := by
  have hs : (sizeOf (Tryz.prog.elem 25)).run Tryz.prog w = .ok 1 w := by kernel_rfl
  rw [run_slice_h w 25 a len cap (by kernel_rfl) .i64 (k : Int) (by omega) (by omega), hs]
  have e : a.map (fun x => x.add (0 * 1)) = a := by
    cases a with
    | none => rfl
    | some x => simp [Addr.add]
  simp only [Result.andThen, sliced, e, Int.toNat_natCast, Nat.sub_zero, ite_self]

def Gr.find (len : Nat) (f : Nat → Int) (kind : Int) : Int := Gr.findFrom f kind (min len 384) 0

theorem Gr.find_on (f : Nat → Int) (kind : Int) (n k : Nat) (hk : k < n) : Gr.findFrom f kind (n - k) k = if f k = kind then (k : Int) else Gr.findFrom f kind (n - (k + 1)) (k + 1) := by
  obtain ⟨m, hm⟩ : ∃ m, n - k = m + 1 := ⟨n - k - 1, by omega⟩
  rw [hm, show n - (k + 1) = m by omega]
  rfl

theorem Gr.find_off (f : Nat → Int) (kind : Int) (n : Nat) : Gr.findFrom f kind (n - n) n = -1 := by
  rw [Nat.sub_self]; rfl

set_option maxHeartbeats 800000 in
theorem find_any (B : Nat) (a : Option Addr) (len cap : Nat) (f : Nat → Int) (kind : Int) (w : World) (h : Vec B w a len (Byts f)) (hf : ∀ i, 0 ≤ f i ∧ f i ≤ 255) (hcap : len ≤ cap) :
    Calls Tryz.prog 78 #[.slice a len cap, .int .i64 kind] w fun e w' => e = .returned (.int .i64 (Gr.find len f kind)) ∧ w' = w := by
  have hm : len ≤ 9223372036854775807 := h.1
  have hf' := hide hf
  clear hf
  by_cases hl : len ≤ 384
  · have hsl := fun wx => slice_bytes a len cap len wx hcap
    have hv := hide h
    have hR : Hid (Gr.find len f kind = Gr.findFrom f kind (len - 0) 0) := by
      show Gr.find len f kind = _
      unfold Gr.find
      rw [show min len 384 = len - 0 by omega]
    have hl' : (len : Int) ≤ 384 := by omega
    clear h
    go_enter Tryz.func78, Tryz.ntmps78
    go_wp2_with fail
    go_loop [13] (fun i => ∃ k : Nat, k ≤ len ∧ i = .int .i64 k ∧ Gr.findFrom f kind (len - k) k = Gr.find len f kind) (fun i => len - (intOf i).toNat)
    case atStart => exact ⟨0, Nat.zero_le _, rfl, (unhide hR).symm⟩
    case round =>
      obtain ⟨k, hk, rfl, hr⟩ := hrel
      have hrr := hide hr
      clear hr
      by_cases hlt : k < len
      · obtain ⟨b, off, rfl, _, hc⟩ := (unhide hv).at hlt
        have hc' : w.cell? ⟨b, off + k, none⟩ = some (.int .u8 (f k)) := hc
        obtain ⟨f1, f2⟩ := (unhide hf') k
        clear hc
        have hlt' : (k : Int) < (len : Int) := by omega
        have hon := hide (Gr.find_on f kind len k hlt)
        by_cases he : f k = kind
        · have he' : (f k == kind) = true := by simpa using he
          have hH := hide he
          clear he
          go_wp2
          go_ret
          refine ⟨ret_int ?_, rfl⟩
          rw [← unhide hrr, unhide hon, if_pos (unhide hH)]
        · have he' : (f k == kind) = false := by simpa using he
          go_wp2
          go_round
          case rel =>
            refine ⟨k + 1, by omega, by go_num, ?_⟩
            rw [← unhide hrr, unhide hon, if_neg he]
          case measure => simp [intOf]; omega
      · have hge : (len : Int) ≤ (k : Int) := by omega
        go_wp2
        go_ret
        refine ⟨ret_int ?_, rfl⟩
        rw [← unhide hrr]
        obtain rfl : k = len := by omega
        exact (Gr.find_off f kind _).symm
  · have hsl : ∀ wx, (Instr.slice 25 (.slice a len cap) none (some (.int .i64 384)) none).run Tryz.prog wx = .ok (.slice a 384 cap) wx := fun wx => slice_bytes a len cap 384 wx (by omega)
    have hv := hide (h.taken 384 (by omega))
    have hR : Hid (Gr.find len f kind = Gr.findFrom f kind (384 - 0) 0) := by
      show Gr.find len f kind = _
      unfold Gr.find
      rw [show min len 384 = 384 - 0 by omega]
    have hl' : ¬ (len : Int) ≤ 384 := by omega
    clear h
    go_enter Tryz.func78, Tryz.ntmps78
    go_wp2_with fail
    go_loop [13] (fun i => ∃ k : Nat, k ≤ 384 ∧ i = .int .i64 k ∧ Gr.findFrom f kind (384 - k) k = Gr.find len f kind) (fun i => 384 - (intOf i).toNat)
    case atStart => exact ⟨0, Nat.zero_le _, rfl, (unhide hR).symm⟩
    case round =>
      obtain ⟨k, hk, rfl, hr⟩ := hrel
      have hrr := hide hr
      clear hr
      by_cases hlt : k < 384
      · obtain ⟨b, off, rfl, _, hc⟩ := (unhide hv).at hlt
        have hc' : w.cell? ⟨b, off + k, none⟩ = some (.int .u8 (f k)) := hc
        obtain ⟨f1, f2⟩ := (unhide hf') k
        clear hc
        have hlt' : (k : Int) < (384 : Int) := by omega
        have hon := hide (Gr.find_on f kind 384 k hlt)
        by_cases he : f k = kind
        · have he' : (f k == kind) = true := by simpa using he
          have hH := hide he
          clear he
          go_wp2
          go_ret
          refine ⟨ret_int ?_, rfl⟩
          rw [← unhide hrr, unhide hon, if_pos (unhide hH)]
        · have he' : (f k == kind) = false := by simpa using he
          go_wp2
          go_round
          case rel =>
            refine ⟨k + 1, by omega, by go_num, ?_⟩
            rw [← unhide hrr, unhide hon, if_neg he]
          case measure => simp [intOf]; omega
      · have hk3 : k = 384 := by omega
        have hfin : Hid (Gr.find len f kind = -1) := by
          show Gr.find len f kind = -1
          rw [← unhide hrr, hk3]
          exact Gr.find_off f kind 384
        have hge : ¬ (k : Int) < 384 := by omega
        clear hk3 hk hlt hrr hR
        go_wp2
        go_ret
        exact ⟨ret_int (unhide hfin).symm, rfl⟩

set_option maxHeartbeats 800000 in
theorem refFind_any (B : Nat) (a : Option Addr) (len cap : Nat) (f : Nat → Int) (kind : Int) (w : World) (h : Vec B w a len (Byts f)) (hf : ∀ i, 0 ≤ f i ∧ f i ≤ 255) :
    Calls Tryz.prog 23 #[.slice a len cap, .int .i64 kind] w fun e w' => e = .returned (.int .i64 (Gr.find len f kind)) ∧ w' = w := by
  have hm : len ≤ 9223372036854775807 := h.1
  have hf' := hide hf
  have hv := hide h
  obtain ⟨n, hn⟩ : ∃ n : Nat, n = min len 384 := ⟨_, rfl⟩
  have hR : Hid (Gr.find len f kind = Gr.findFrom f kind (n - 0) 0) := by
    show Gr.find len f kind = _
    unfold Gr.find
    rw [hn]
    rfl
  have hn1 : n ≤ len := by omega
  have hn2 : n ≤ 384 := by omega
  have hn3 : ¬ n < len → n = len := by omega
  have hN := hide hn
  clear hf h hn
  go_enter Tryz.func23, Tryz.ntmps23
  go_wp2_with fail
  go_loop [5] (fun i => ∃ k : Nat, k ≤ n ∧ i = .int .i64 k ∧ Gr.findFrom f kind (n - k) k = Gr.find len f kind) (fun i => n - (intOf i).toNat)
  case atStart => exact ⟨0, Nat.zero_le _, rfl, (unhide hR).symm⟩
  case round =>
    obtain ⟨k, hk, rfl, hr⟩ := hrel
    have hrr := hide hr
    clear hr hn3
    by_cases hlt : k < n
    · obtain ⟨b, off, rfl, _, hc⟩ := ((unhide hv).taken n hn1).at hlt
      have hc' : w.cell? ⟨b, off + k, none⟩ = some (.int .u8 (f k)) := hc
      obtain ⟨f1, f2⟩ := (unhide hf') k
      clear hc
      have hlt' : (k : Int) < (len : Int) := by omega
      have hlt2 : (k : Int) < 384 := by omega
      have hon := hide (Gr.find_on f kind n k hlt)
      by_cases he : f k = kind
      · have he' : (f k == kind) = true := by simpa using he
        have hH := hide he
        clear he
        go_wp2
        go_ret
        refine ⟨ret_int ?_, rfl⟩
        rw [← unhide hrr, unhide hon, if_pos (unhide hH)]
      · have he' : (f k == kind) = false := by simpa using he
        go_wp2
        go_round
        case rel =>
          refine ⟨k + 1, by omega, by go_num, ?_⟩
          rw [← unhide hrr, unhide hon, if_neg he]
        case measure => simp [intOf]; omega
    · have hkn : k = n := by omega
      have hfin : Hid (Gr.find len f kind = -1) := by
        show Gr.find len f kind = -1
        rw [← unhide hrr, hkn]
        exact Gr.find_off f kind n
      by_cases hkl : (k : Int) < (len : Int)
      · have hk3 : ¬ (k : Int) < 384 := by have := unhide hN; omega
        clear hkn
        go_wp2
        go_ret
        exact ⟨ret_int (unhide hfin).symm, rfl⟩
      · clear hkn
        go_wp2
        go_ret
        exact ⟨ret_int (unhide hfin).symm, rfl⟩

end Go.Proofs.YtbanjoflgoiegaaGreat

namespace Go.Proofs.YtbanjoflgoiegaaGreat
open Go.RowKit

def Dc.fold (x c : Int) : Int := bits BinOp.xor IntKind.u64 x (x / c)

def Dc.m (x : Int) : Int :=
  Dc.fold (IntKind.u64.wrap (Dc.fold (IntKind.u64.wrap (Dc.fold x 1073741824 * 13787848793156543929)) 134217728 * 10723151780598845931)) 2147483648

theorem Dc.m_bd (x : Int) : 0 ≤ Dc.m x ∧ Dc.m x < 18446744073709551616 := by
  have h := wf_bits BinOp.xor IntKind.u64 (IntKind.u64.wrap (Dc.fold (IntKind.u64.wrap (Dc.fold x 1073741824 * 13787848793156543929)) 134217728 * 10723151780598845931)) (IntKind.u64.wrap (Dc.fold (IntKind.u64.wrap (Dc.fold x 1073741824 * 13787848793156543929)) 134217728 * 10723151780598845931) / 2147483648)
  simp only [Lit.wf, Bool.and_eq_true, decide_eq_true_eq, show IntKind.u64.min = 0 from by decide, show IntKind.u64.max = 18446744073709551615 from by decide] at h
  obtain ⟨h1, h2⟩ := h
  exact ⟨h1, Int.lt_of_le_of_lt h2 (by decide)⟩

theorem stir_any (x : Int) (w : World) :
    Calls Tryz.prog 187 #[.int .u64 x] w fun e w' => e = .returned (.int .u64 (Dc.m x)) ∧ w' = w := by
  go_enter Tryz.func187, Tryz.ntmps187
  go_wp2
  go_ret
  exact ⟨rfl, rfl⟩

theorem m_any (x : Int) (w : World) :
    Calls Tryz.prog 159 #[.int .u64 x] w fun e w' => e = .returned (.int .u64 (Dc.m x)) ∧ w' = w := by
  go_enter Tryz.func159, Tryz.ntmps159
  go_wp2
  go_ret
  exact ⟨rfl, rfl⟩

def Dc.step (x v : Int) : Int := Dc.m (IntKind.u64.wrap (bits BinOp.xor IntKind.u64 x (IntKind.u64.wrap v) + 11400714819323198485))

def Dc.mix (seed : Int) (zs : List Int) : Int := zs.foldl Dc.step (Dc.m (IntKind.u64.wrap (IntKind.u64.wrap seed + 11400714819323198485)))

theorem Dc.mix_bd (seed : Int) (zs : List Int) : 0 ≤ Dc.mix seed zs ∧ Dc.mix seed zs < 18446744073709551616 := by
  unfold Dc.mix
  generalize hx : Dc.m (IntKind.u64.wrap (IntKind.u64.wrap seed + 11400714819323198485)) = x
  have h : 0 ≤ x ∧ x < 18446744073709551616 := by rw [← hx]; exact Dc.m_bd _
  clear hx
  induction zs generalizing x with
  | nil => exact h
  | cons z zs ih => exact ih _ (Dc.m_bd _)

theorem Dc.mix_more (seed : Int) (zs : List Int) (k : Nat) (h : k < zs.length) : Dc.m (IntKind.u64.wrap (bits BinOp.xor IntKind.u64 (Dc.mix seed (zs.take k)) (IntKind.u64.wrap (zs[k]?.getD 0)) + 11400714819323198485)) = Dc.mix seed (zs.take (k + 1)) := by
  show Dc.step (Dc.mix seed (zs.take k)) (zs[k]?.getD 0) = _
  have e : zs.take (k + 1) = zs.take k ++ [zs[k]?.getD 0] := by
    rw [List.take_add_one, List.getElem?_eq_getElem h]; rfl
  rw [e]
  simp only [Dc.mix, List.foldl_append, List.foldl_cons, List.foldl_nil]

def Row (w : World) (a : Option Addr) (len : Nat) (zs : List Int) : Prop :=
  zs.length = len ∧ len ≤ maxLen ∧ (len = 0 ∨ ∃ b off, a = some ⟨b, off, none⟩ ∧ ∀ i, i < len → w.cell? ⟨b, off + i, none⟩ = some (.int .i64 (zs[i]?.getD 0)))

theorem mix_none (seed : Int) (a : Option Addr) (cap : Nat) (w : World) :
    Calls Tryz.prog 174 #[.int .i64 seed, .slice a 0 cap] w fun e w' => e = .returned (.int .u64 (Dc.mix seed [])) ∧ w' = w := by
  go_enter Tryz.func174, Tryz.ntmps174
  go_wp2_with fail
  refine (stir_any _ _).mono ?_
  rintro e w1 ⟨rfl, rfl⟩
  go_wp2_with fail
  refine wp_loop_rounds 1 ?_
  rw [rounds_succ]
  go_wp2
  go_ret
  exact ⟨rfl, rfl⟩

theorem mix_some (seed : Int) (b off : Nat) (len cap : Nat) (zs : List Int) (w : World) (hz : zs.length = len) (hm : len ≤ 9223372036854775807)
    (hc : ∀ i, i < len → w.cell? ⟨b, off + i, none⟩ = some (.int .i64 (zs[i]?.getD 0))) :
    Calls Tryz.prog 174 #[.int .i64 seed, .slice (some ⟨b, off, none⟩) len cap] w fun e w' => e = .returned (.int .u64 (Dc.mix seed zs)) ∧ w' = w := by
  go_enter Tryz.func174, Tryz.ntmps174
  go_wp2_with fail
  refine (stir_any _ _).mono ?_
  rintro e w1 ⟨rfl, rfl⟩
  go_wp2_with fail
  go_loop [5, 14] (fun x i => ∃ k : Nat, k ≤ len ∧ i = .int .i64 k ∧ x = .int .u64 (Dc.mix seed (zs.take k))) (fun _ i => len - (intOf i).toNat)
  case atStart => exact ⟨0, Nat.zero_le _, rfl, rfl⟩
  case round =>
    obtain ⟨k, hk, rfl, rfl⟩ := hrel
    have hcell : k < len → w1.cell? ⟨b, off + k, none⟩ = some (.int .i64 (zs[k]?.getD 0)) := fun h => hc k h
    go_wp2_with fail
    · refine (stir_any _ _).mono ?_
      rintro e w2 ⟨rfl, rfl⟩
      have hlt : k < len := by assumption
      have hstep := hide (Dc.mix_more seed zs k (by omega))
      go_wp2
      go_round
      case rel =>
        refine ⟨k + 1, by omega, by go_num, ?_⟩
        rw [← unhide hstep, List.getElem?_eq_getElem (by omega)]
        rfl
      case measure => simp [intOf]; omega
    · obtain rfl : k = len := by omega
      go_ret
      rw [List.take_of_length_le (by omega)]
      exact ⟨rfl, rfl⟩

theorem refMix_none (seed : Int) (a : Option Addr) (cap : Nat) (w : World) :
    Calls Tryz.prog 126 #[.int .i64 seed, .slice a 0 cap] w fun e w' => e = .returned (.int .u64 (Dc.mix seed [])) ∧ w' = w := by
  go_enter Tryz.func126, Tryz.ntmps126
  go_wp2_with fail
  refine (m_any _ _).mono ?_
  rintro e w1 ⟨rfl, rfl⟩
  go_wp2_with fail
  refine wp_loop_rounds 1 ?_
  rw [rounds_succ]
  go_wp2
  go_ret
  exact ⟨rfl, rfl⟩

theorem refMix_some (seed : Int) (b off : Nat) (len cap : Nat) (zs : List Int) (w : World) (hz : zs.length = len) (hm : len ≤ 9223372036854775807)
    (hc : ∀ i, i < len → w.cell? ⟨b, off + i, none⟩ = some (.int .i64 (zs[i]?.getD 0))) :
    Calls Tryz.prog 126 #[.int .i64 seed, .slice (some ⟨b, off, none⟩) len cap] w fun e w' => e = .returned (.int .u64 (Dc.mix seed zs)) ∧ w' = w := by
  go_enter Tryz.func126, Tryz.ntmps126
  go_wp2_with fail
  refine (m_any _ _).mono ?_
  rintro e w1 ⟨rfl, rfl⟩
  go_wp2_with fail
  go_loop [5, 6] (fun x i => ∃ k : Nat, k ≤ len ∧ i = .int .i64 k ∧ x = .int .u64 (Dc.mix seed (zs.take k))) (fun _ i => len - (intOf i).toNat)
  case atStart => exact ⟨0, Nat.zero_le _, rfl, rfl⟩
  case round =>
    obtain ⟨k, hk, rfl, rfl⟩ := hrel
    have hcell : k < len → w1.cell? ⟨b, off + k, none⟩ = some (.int .i64 (zs[k]?.getD 0)) := fun h => hc k h
    go_wp2_with fail
    · refine (m_any _ _).mono ?_
      rintro e w2 ⟨rfl, rfl⟩
      have hlt : k < len := by assumption
      have hstep := hide (Dc.mix_more seed zs k (by omega))
      go_wp2
      go_round
      case rel =>
        refine ⟨k + 1, by omega, by go_num, ?_⟩
        rw [← unhide hstep, List.getElem?_eq_getElem (by omega)]
        rfl
      case measure => simp [intOf]; omega
    · obtain rfl : k = len := by omega
      go_ret
      rw [List.take_of_length_le (by omega)]
      exact ⟨rfl, rfl⟩

theorem mix_row (seed : Int) (a : Option Addr) (len cap : Nat) (zs : List Int) (w : World) (h : Row w a len zs) :
    Calls Tryz.prog 174 #[.int .i64 seed, .slice a len cap] w fun e w' => e = .returned (.int .u64 (Dc.mix seed zs)) ∧ w' = w := by
  obtain ⟨hz, hm, rfl | ⟨b, off, rfl, hc⟩⟩ := h
  · obtain rfl := List.eq_nil_of_length_eq_zero hz
    exact mix_none _ _ _ _
  · exact mix_some _ _ _ _ _ _ _ hz hm hc

theorem refMix_row (seed : Int) (a : Option Addr) (len cap : Nat) (zs : List Int) (w : World) (h : Row w a len zs) :
    Calls Tryz.prog 126 #[.int .i64 seed, .slice a len cap] w fun e w' => e = .returned (.int .u64 (Dc.mix seed zs)) ∧ w' = w := by
  obtain ⟨hz, hm, rfl | ⟨b, off, rfl, hc⟩⟩ := h
  · obtain rfl := List.eq_nil_of_length_eq_zero hz
    exact refMix_none _ _ _ _
  · exact refMix_some _ _ _ _ _ _ _ hz hm hc

def Dc.die (n seed : Int) (zs : List Int) : Int := if n < 1 then 0 else Dc.mix seed zs % n

theorem Dc.die_bd (n seed : Int) (zs : List Int) (h : 1 ≤ n) : 0 ≤ Dc.die n seed zs ∧ Dc.die n seed zs < n := by
  unfold Dc.die
  rw [if_neg (by omega)]
  exact ⟨Int.emod_nonneg _ (by omega), Int.emod_lt_of_pos _ (by omega)⟩

theorem Dc.die_low (n seed : Int) (zs : List Int) (h : n < 1) : Dc.die n seed zs = 0 := if_pos h

set_option maxHeartbeats 400000 in
theorem die_row (n seed : Int) (a : Option Addr) (len cap : Nat) (zs : List Int) (w : World) (h : Row w a len zs) (hn : n ≤ 9223372036854775807) :
    Calls Tryz.prog 160 #[.int .i64 n, .int .i64 seed, .slice a len cap] w fun e w' => e = .returned (.int .i64 (Dc.die n seed zs)) ∧ w' = w := by
  by_cases hl : n < 1
  · have hd := hide (Dc.die_low n seed zs hl)
    clear h
    go_enter Tryz.func160, Tryz.ntmps160
    go_wp2
    go_ret
    rw [unhide hd]
    exact ⟨rfl, rfl⟩
  · have hd := hide (show Dc.die n seed zs = Dc.mix seed zs % n from if_neg hl)
    have hb := Dc.mix_bd seed zs
    have h1 := Int.emod_nonneg (Dc.mix seed zs) (show n ≠ 0 by omega)
    have h2 := Int.emod_lt_of_pos (Dc.mix seed zs) (show 0 < n by omega)
    have hr := hide h
    clear h
    obtain ⟨hb1, hb2⟩ := hb
    go_enter Tryz.func160, Tryz.ntmps160
    go_wp2_with fail
    refine (mix_row _ _ _ _ _ _ (unhide hr)).mono ?_
    rintro e w1 ⟨rfl, rfl⟩
    go_wp2
    go_ret
    rw [unhide hd]
    exact ⟨rfl, rfl⟩

set_option maxHeartbeats 400000 in
theorem refDie_row (n seed : Int) (a : Option Addr) (len cap : Nat) (zs : List Int) (w : World) (h : Row w a len zs) (hn : n ≤ 9223372036854775807) :
    Calls Tryz.prog 92 #[.int .i64 n, .int .i64 seed, .slice a len cap] w fun e w' => e = .returned (.int .i64 (Dc.die n seed zs)) ∧ w' = w := by
  by_cases hl : n < 1
  · have hd := hide (Dc.die_low n seed zs hl)
    clear h
    go_enter Tryz.func92, Tryz.ntmps92
    go_wp2
    go_ret
    rw [unhide hd]
    exact ⟨rfl, rfl⟩
  · have hd := hide (show Dc.die n seed zs = Dc.mix seed zs % n from if_neg hl)
    have hb := Dc.mix_bd seed zs
    have h1 := Int.emod_nonneg (Dc.mix seed zs) (show n ≠ 0 by omega)
    have h2 := Int.emod_lt_of_pos (Dc.mix seed zs) (show 0 < n by omega)
    have hr := hide h
    clear h
    obtain ⟨hb1, hb2⟩ := hb
    go_enter Tryz.func92, Tryz.ntmps92
    go_wp2_with fail
    refine (refMix_row _ _ _ _ _ _ (unhide hr)).mono ?_
    rintro e w1 ⟨rfl, rfl⟩
    go_wp2
    go_ret
    rw [unhide hd]
    exact ⟨rfl, rfl⟩

theorem Row.kept {w w' : World} {a : Option Addr} {len : Nat} {zs : List Int} (h : Row w a len zs) (hb : Below w.heap.size w w') : Row w' a len zs := by
  obtain ⟨hz, hm, h0 | ⟨b, off, ha, hc⟩⟩ := h
  · exact ⟨hz, hm, .inl h0⟩
  · exact ⟨hz, hm, .inr ⟨b, off, ha, fun i hi => cell_later hb (hc i hi)⟩⟩

theorem Row.taken {w : World} {a : Option Addr} {len : Nat} {zs : List Int} (h : Row w a len zs) (k : Nat) (hk : k ≤ len) : Row w a k (zs.take k) := by
  obtain ⟨hz, hm, h0 | ⟨b, off, ha, hc⟩⟩ := h
  · exact ⟨by simp; omega, Nat.le_trans hk hm, .inl (by omega)⟩
  · exact ⟨by simp; omega, Nat.le_trans hk hm, .inr ⟨b, off, ha, fun i hi => by rw [hc i (by omega), List.getElem?_take, if_pos hi]⟩⟩

theorem Row.one (w : World) (v : Int) (T : TypeId) : Row (w.alloc (.cells #[.int .i64 v] T)) (some ⟨w.heap.size, 0, none⟩) 1 [v] := by
  refine ⟨rfl, by decide, .inr ⟨_, _, rfl, fun i hi => ?_⟩⟩
  obtain rfl : i = 0 := by omega
  simp

end Go.Proofs.YtbanjoflgoiegaaGreat
