/-
  Lines: what both packages hand back, in memory of their own.
-/
import Derived.Test.YtfmiaenpmbbknaaGridArr
import Derived.Test.YtfmiaenpmbbknaaGridLineMath
import Derived.Laws.AppendOwnNone
namespace Go.Proofs.Ytfmiaenpmbbknaa
open Go.RowKit

theorem line_none (x0 y0 x1 y1 : Int) (w : World) (h : Gr.inB x0 y0 = true → Gr.inB x1 y1 = false) :
    Calls Try.prog 19 #[.int .i64 x0, .int .i64 y0, .int .i64 x1, .int .i64 y1] w fun e w' => e = .returned (.slice none 0 0) ∧ w' = w := by
  by_cases h0 : Gr.inB x0 y0 = true
  · have h1 := h h0
    clear h
    go_enter Try.func19, Try.ntmps19
    go_wp2_with (go_at_call 29; refine (isCell_any _ _ _).mono ?_; rintro e w' ⟨rfl, rfl⟩)
    go_ret
    exact ⟨rfl, rfl⟩
  · have h0' : Gr.inB x0 y0 = false := by simpa using h0
    clear h h0
    go_enter Try.func19, Try.ntmps19
    go_wp2_with (go_at_call 29; refine (isCell_any _ _ _).mono ?_; rintro e w' ⟨rfl, rfl⟩)
    go_ret
    exact ⟨rfl, rfl⟩

theorem max4 (ts : Array TypeId) (t : TypeId) (a b c d n : Int) (w : World) (h : max (max a b) (max c d) = n) :
    (Builtin.max_ ts t #[.int .i64 a, .int .i64 b, .int .i64 c, .int .i64 d]).run Try.prog w = .ok (.int .i64 n) w := by
  have e : (Builtin.max_ ts t #[.int .i64 a, .int .i64 b, .int .i64 c, .int .i64 d]).run Try.prog w = .ok (.int .i64 (if d > (if c > (if b > a then b else a) then c else (if b > a then b else a)) then d else (if c > (if b > a then b else a) then c else (if b > a then b else a)))) w := by
    simp [Builtin.max_, Builtin.max2]
  rw [e]
  congr 2
  omega

set_option maxHeartbeats 800000 in
theorem line_some (x0 y0 x1 y1 : Int) (w : World) (h0 : Gr.inB x0 y0 = true) (h1 : Gr.inB x1 y1 = true) :
    Calls Try.prog 19 #[.int .i64 x0, .int .i64 y0, .int .i64 x1, .int .i64 y1] w
      (Gives w (Gr.span x0 y0 x1 y1 + 1) (Ints (Gr.ln x0 y0 x1 y1))) := by
  have hn23 := Gr.span_bd x0 y0 x1 y1 h0 h1
  obtain ⟨b1, b2, b3, b4⟩ := (Gr.inB_iff x0 y0).1 h0
  obtain ⟨b5, b6, b7, b8⟩ := (Gr.inB_iff x1 y1).1 h1
  obtain ⟨n, hn⟩ : ∃ n : Nat, n = Gr.span x0 y0 x1 y1 := ⟨_, rfl⟩
  obtain ⟨dx, hdx⟩ : ∃ d : Int, x1 - x0 = d := ⟨_, rfl⟩
  obtain ⟨dy, hdy⟩ : ∃ d : Int, y1 - y0 = d := ⟨_, rfl⟩
  have hmx : ∀ ts t w, (Builtin.max_ ts t #[.int .i64 dx, .int .i64 (-dx), .int .i64 dy, .int .i64 (-dy)]).run Try.prog w = .ok (.int .i64 (n : Int)) w := by
    intro ts t w
    refine max4 ts t _ _ _ _ _ w ?_
    rw [hn]; unfold Gr.span; omega
  have hn' := hide hn
  have d1 : -23 ≤ dx := by omega
  have d2 : dx ≤ 23 := by omega
  have d3 : -23 ≤ dy := by omega
  have d4 : dy ≤ 23 := by omega
  obtain ⟨i0, hi, hz0, hz1, hz2⟩ := info_parts info_int
  rw [← hn] at hn23 ⊢
  clear hn
  by_cases hz : n = 0
  · subst hz
    go_enter Try.func19, Try.ntmps19
    go_wp2_with (first | (go_at_call 29; refine (isCell_any _ _ _).mono ?_; rintro e w' ⟨rfl, hw⟩; subst w') | (go_at_call 30; refine (number_any _ _ _ (by omega) (by omega) (by omega) (by omega)).mono ?_; rintro e w' ⟨rfl, hw⟩; subst w'))
    go_ret
    have hf := hide (Gr.ln_first x0 y0 x1 y1)
    refine ⟨_, _, rfl, ⟨by decide, .inr ⟨_, _, rfl, by simp, ?_⟩⟩, by omega, (Below.refl _ _).alloc (Nat.le_refl _) _⟩
    intro i hi1
    obtain rfl : i = 0 := by omega
    show _ = some (Value.int .i64 (Gr.ln x0 y0 x1 y1 0))
    rw [unhide hf]
    simp
  · have hz' : ((n : Int) == 0) = false := by simp; omega
    go_enter Try.func19, Try.ntmps19
    go_wp2_with (first | (go_at_call 29; refine (isCell_any _ _ _).mono ?_; rintro e w' ⟨rfl, hw⟩; subst w') | (at_make; refine wpList_make_full _ rfl _ _ 29 rfl w.heap.size 3 i0 (.int .i64 0) 1 Try.underlying29 hi hz0 hz1 .i64 .i64 _ _ (n + 1) rfl rfl ?q1 ?q2 ?q3 ?q4 (Nat.le_refl _) ?_))
    case q1 => omega
    case q2 => omega
    case q3 => rw [hz2]; omega
    case q4 => unfold maxLen; omega
    intro w2 hown hgrow
    have hA := hide (Arr.zero hown)
    have hB : Below w.heap.size w w2 := (Below.refl _ _).grown hgrow (Nat.le_refl _) (by intro k hk; cases hk)
    clear hown hgrow hi hz0 hz1 hz2 hmx
    obtain ⟨G, hG⟩ : ∃ G, G = w.heap.size := ⟨_, rfl⟩
    rw [← hG] at hA hB ⊢
    have hG' := hide hG
    clear hG
    go_wp2_with fail
    go_loopw [48] (fun i wr => ∃ k : Nat, k ≤ n + 1 ∧ i = .int .i64 k ∧ Arr wr G 3 (n + 1) (fun j => .int .i64 (if j < k then Gr.ln x0 y0 x1 y1 j else 0)) ∧ Below G w wr) (fun i _ => n + 1 - (intOf i).toNat)
    case atStart => exact ⟨0, Nat.zero_le _, rfl, (unhide hA).congr fun j _ => by rw [if_neg (Nat.not_lt_zero _)], hB⟩
    case round =>
      obtain ⟨k, hk, rfl, hA1, hB1⟩ := hrel
      have hA2 := hide hA1
      clear hA1 hA hB
      by_cases hlt : k < n + 1
      · obtain ⟨X, Y, eln, eX, eY, c1, c2, c3, c4⟩ := Gr.ln_parts x0 y0 x1 y1 h0 h1 k (by have := unhide hn'; omega)
        rw [hdx, ← unhide hn'] at eX
        rw [hdy, ← unhide hn'] at eY
        subst eX
        subst eY
        have eln' := hide eln
        clear eln
        obtain ⟨m1, m2⟩ := Gr.mul_bd k dx (by omega) d1 d2
        obtain ⟨m3, m4⟩ := Gr.mul_bd k dy (by omega) d3 d4
        have hc := (unhide hA2).cell hlt
        have hf := (unhide hA2).free k
        have hlt' : (k : Int) < (n : Int) + 1 := by omega
        go_wp2_with (first | (go_at_call 31; refine (nearest_any _ _ _ (by omega) (by omega) (by omega) (by omega)).mono ?_; rintro e w' ⟨rfl, hw⟩; subst w') | (go_at_call 30; refine (number_any _ _ _ (by omega) (by omega) (by omega) (by omega)).mono ?_; rintro e w' ⟨rfl, hw⟩; subst w'))
        go_roundw
        case rel => exact ⟨k + 1, by omega, by go_num, ((unhide hA2).store k _).congr fun j _ => fill_more (unhide eln').symm j, hB1.setCell (Nat.le_refl _) _⟩
        case measure => simp [intOf]; omega
      · have hge : ¬ (k : Int) < (n : Int) + 1 := by omega
        have hk1 : k = n + 1 := by omega
        have hA3 := hide ((unhide hA2).congr (G := Ints (Gr.ln x0 y0 x1 y1)) fun j hj => by rw [if_pos (by omega)]; rfl)
        clear hk1 hA2
        go_wp2
        go_ret
        exact ⟨_, _, rfl, (unhide hA3).vec _ (unhide hA3).lt (by unfold maxLen; omega), Nat.le_refl _, by rw [← unhide hG']; exact hB1⟩

theorem refLine_none (x0 y0 x1 y1 : Int) (w : World) (h : Gr.inB x0 y0 = true → Gr.inB x1 y1 = false) :
    Calls Try.prog 20 #[.int .i64 x0, .int .i64 y0, .int .i64 x1, .int .i64 y1] w fun e w' => e = .returned (.slice none 0 0) ∧ w' = w := by
  by_cases h0 : Gr.inB x0 y0 = true
  · have h1 := h h0
    clear h
    go_enter Try.func20, Try.ntmps20
    go_wp2_with (go_at_call 27; refine (refIn_any _ _ _).mono ?_; rintro e w' ⟨rfl, rfl⟩)
    go_ret
    exact ⟨rfl, rfl⟩
  · have h0' : Gr.inB x0 y0 = false := by simpa using h0
    clear h h0
    go_enter Try.func20, Try.ntmps20
    go_wp2_with (go_at_call 27; refine (refIn_any _ _ _).mono ?_; rintro e w' ⟨rfl, rfl⟩)
    go_ret
    exact ⟨rfl, rfl⟩

theorem max2 (ts : Array TypeId) (t : TypeId) (a b n : Int) (w : World) (h : max a b = n) :
    (Builtin.max_ ts t #[.int .i64 a, .int .i64 b]).run Try.prog w = .ok (.int .i64 n) w := by
  rw [run_max_int2]
  congr 2
  omega

def Gr.lnRow (x0 y0 x1 y1 : Int) (k : Nat) : List Int := (List.range k).map (Gr.ln x0 y0 x1 y1)

theorem ln_more (x0 y0 x1 y1 : Int) (k : Nat) (v : Int) (h : v = Gr.ln x0 y0 x1 y1 k) :
    (Gr.lnRow x0 y0 x1 y1 k).map (Value.int .i64) ++ [.int .i64 v] = (Gr.lnRow x0 y0 x1 y1 (k + 1)).map (Value.int .i64) := by
  unfold Gr.lnRow
  rw [List.range_succ, h]; simp

section
attribute [-go_sem] run_max_int2

set_option maxHeartbeats 800000 in
theorem refLine_some (x0 y0 x1 y1 : Int) (w : World) (h0 : Gr.inB x0 y0 = true) (h1 : Gr.inB x1 y1 = true) :
    Calls Try.prog 20 #[.int .i64 x0, .int .i64 y0, .int .i64 x1, .int .i64 y1] w
      (Gives w (Gr.span x0 y0 x1 y1 + 1) (Ints (Gr.ln x0 y0 x1 y1))) := by
  have hn23 := Gr.span_bd x0 y0 x1 y1 h0 h1
  obtain ⟨b1, b2, b3, b4⟩ := (Gr.inB_iff x0 y0).1 h0
  obtain ⟨b5, b6, b7, b8⟩ := (Gr.inB_iff x1 y1).1 h1
  obtain ⟨n, hn⟩ : ∃ n : Nat, n = Gr.span x0 y0 x1 y1 := ⟨_, rfl⟩
  obtain ⟨dx, hdx⟩ : ∃ d : Int, x1 - x0 = d := ⟨_, rfl⟩
  obtain ⟨dy, hdy⟩ : ∃ d : Int, y1 - y0 = d := ⟨_, rfl⟩
  obtain ⟨mx, hmx⟩ : ∃ m : Int, max dx (-dx) = m := ⟨_, rfl⟩
  obtain ⟨my, hmy⟩ : ∃ m : Int, max dy (-dy) = m := ⟨_, rfl⟩
  have hm1 := fun ts t w => max2 ts t dx (-dx) mx w hmx
  have hm2 := fun ts t w => max2 ts t dy (-dy) my w hmy
  have hm3 := fun ts t w => max2 ts t mx my (n : Int) w (by rw [hn]; unfold Gr.span; omega)
  clear hmx hmy
  have hn' := hide hn
  have d1 : -23 ≤ dx := by omega
  have d2 : dx ≤ 23 := by omega
  have d3 : -23 ≤ dy := by omega
  have d4 : dy ≤ 23 := by omega
  obtain ⟨i0, hi, hz0, hz1, hz2⟩ := info_parts info_int
  rw [← hn] at hn23 ⊢
  clear hn
  by_cases hz : n = 0
  · subst hz
    go_enter Try.func20, Try.ntmps20
    go_wp2_with (first | (go_at_call 27; refine (refIn_any _ _ _).mono ?_; rintro e w' ⟨rfl, hw⟩; subst w'))
    go_ret
    have hf := hide (Gr.ln_first x0 y0 x1 y1)
    refine ⟨_, _, rfl, ⟨by decide, .inr ⟨_, _, rfl, by simp, ?_⟩⟩, by omega, (Below.refl _ _).alloc (Nat.le_refl _) _⟩
    intro i hi1
    obtain rfl : i = 0 := by omega
    show _ = some (Value.int .i64 (Gr.ln x0 y0 x1 y1 0))
    rw [unhide hf]
    simp
  · have hz' : ((n : Int) == 0) = false := by simp; omega
    obtain ⟨G, hG⟩ : ∃ G, G = w.heap.size := ⟨_, rfl⟩
    have hG' := hide hG
    have hB : Below G w w := Below.refl _ _
    clear hG
    go_enter Try.func20, Try.ntmps20
    go_wp2_with (first | (go_at_call 27; refine (refIn_any _ _ _).mono ?_; rintro e w' ⟨rfl, hw⟩; subst w'))
    clear hm1 hm2 hm3
    go_loopw [12, 13] (fun v i wr => ∃ k : Nat, k ≤ n + 1 ∧ i = .int .i64 k ∧ wr.ownsRow G 3 1 v k ((Gr.lnRow x0 y0 x1 y1 k).map (Value.int .i64)) ∧ Below G w wr) (fun _ i _ => n + 1 - (intOf i).toNat)
    case atStart => exact ⟨0, Nat.zero_le _, rfl, World.ownsRow_nil _ _ _ _, hB⟩
    case round =>
      obtain ⟨k, hk, rfl, hown, hB1⟩ := hrel
      have hGs : G ≤ wr.heap.size := by have := hB1.size; have := unhide hG'; omega
      clear hB
      by_cases hlt : k < n + 1
      · obtain ⟨X, Y, eln, eX, eY, c1, c2, c3, c4⟩ := Gr.ln_parts x0 y0 x1 y1 h0 h1 k (by have := unhide hn'; omega)
        rw [hdx, ← unhide hn'] at eX
        rw [hdy, ← unhide hn'] at eY
        subst eX
        subst eY
        have eln' := hide eln
        clear eln
        obtain ⟨m1, m2⟩ := Gr.mul_bd k dx (by omega) d1 d2
        obtain ⟨m3, m4⟩ := Gr.mul_bd k dy (by omega) d3 d4
        have hlt' : (k : Int) ≤ (n : Int) := by omega
        go_wp2_with (first | (go_at_call 32; refine (off_any _ _ _ (by omega) (by omega) (by omega) (by omega)).mono ?_; rintro e w' ⟨rfl, hw⟩; subst w') | (at_builtin; refine wpList_append_own _ rfl _ _ 29 rfl G 3 i0 (.int .i64 0) 1 8 Try.underlying29 hi hz0 hz1 hz2 rfl (by decide) _ _ _ rfl (hown.alloc _) ⟨wr.heap.size, 0, none⟩ 1 1 [.int .i64 ((y0 + Gr.near (k * dy) n) * 24 + x0 + Gr.near (k * dx) n)] rfl rfl ?c1 ?c2 ?c3 ?c4 ?c5 ?_))
        case c1 => exact cell_one_new _ _ _
        case c2 => intro u hu; simp at hu; subst hu; rfl
        case c3 => unfold maxLen; omega
        case c4 => omega
        case c5 => simp; omega
        intro v' w1 hown' hgrow _
        rw [ln_more x0 y0 x1 y1 k _ (by rw [unhide eln']; omega)] at hown'
        have hB2 : Below G w w1 := (hB1.alloc hGs _).grown hgrow (by simp; omega) (by intro j hj; exact (hown.lt j hj).1)
        have hown2 := hide hown'
        clear hown' hgrow hown
        go_wp2
        go_roundw
        case rel => exact ⟨k + 1, by omega, by go_num, unhide hown2, hB2⟩
        case measure => simp [intOf]; omega
      · have hge : ¬ (k : Int) ≤ (n : Int) := by omega
        obtain rfl : k = n + 1 := by omega
        obtain ⟨a, cap, rfl, _, hv⟩ := own_vec hown (by unfold maxLen; omega)
        have hcap : n + 1 ≤ cap := by
          rcases hown.2 with ⟨h, _⟩ | ⟨g, c, cur, h, _, _, hc, _⟩
          · cases h
          · cases h; exact hc
        have hv2 := hide (hv.congr (G := Ints (Gr.ln x0 y0 x1 y1)) fun j hj => by simp [Ints, Gr.lnRow, List.getElem?_range hj])
        clear hv hown
        go_wp2
        go_ret
        exact ⟨_, _, rfl, unhide hv2, hcap, by rw [← unhide hG']; exact hB1⟩
end

set_option maxHeartbeats 400000 in
theorem same_any (a b : Option Addr) (B1 B2 len c1 c2 : Nat) (f g : Nat → Int) (w : World) (h1 : Vec B1 w a len (Ints f)) (h2 : Vec B2 w b len (Ints g)) (he : ∀ i, i < len → f i = g i) :
    Calls Try.prog 18 #[.slice a len c1, .slice b len c2] w fun e w' => e = .returned (.bool true) ∧ Below w.heap.size w w' := by
  have hm : len ≤ 9223372036854775807 := h1.1
  have r1 := hide h1
  have r2 := hide h2
  have he' := hide he
  clear h1 h2 he
  go_enter Try.func18, Try.ntmps18
  go_wp2_with fail
  go_loopw [5] (fun i wr => ∃ k : Nat, k ≤ len ∧ i = .int .i64 k ∧ Vec B1 wr a len (Ints f) ∧ Vec B2 wr b len (Ints g) ∧ Below w.heap.size w wr) (fun i _ => len - (intOf i).toNat)
  case atStart => exact ⟨0, Nat.zero_le _, rfl, unhide r1, unhide r2, Below.refl _ _⟩
  case round =>
    obtain ⟨k, hk, rfl, q1, q2, hb⟩ := hrel
    have s1 := hide q1
    have s2 := hide q2
    clear q1 q2 r1 r2
    by_cases hlt : k < len
    · obtain ⟨ba, oa, rfl, _, ca⟩ := (unhide s1).at hlt
      obtain ⟨bb, ob, rfl, _, cb⟩ := (unhide s2).at hlt
      have ca' : wr.cell? ⟨ba, oa + k, none⟩ = some (.int .i64 (f k)) := ca
      have cb' : wr.cell? ⟨bb, ob + k, none⟩ = some (.int .i64 (f k)) := by rw [(unhide he') k hlt]; exact cb
      clear ca cb
      have hlt' : (k : Int) < (len : Int) := by omega
      go_wp2_with fail
      go_quiet (fail)
      go_wp2
      go_roundw
      case rel => exact ⟨k + 1, by omega, by go_num, (unhide s1).drew _, (unhide s2).drew _, below_drewN hb _⟩
      case measure => simp [intOf]; omega
    · have hge : ¬ (k : Int) < (len : Int) := by omega
      go_wp2
      go_ret
      exact ⟨rfl, hb⟩

end Go.Proofs.Ytfmiaenpmbbknaa
