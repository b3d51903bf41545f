/-
  The law package's own far; rows of few cells that are laid out.
-/
import Derived.Test.YtfmiaenpmbbknabGridField
import Derived.Test.YtfmiaenpmbbknabGridManh
namespace Go.Proofs.Ytfmiaenpmbbknab
open Go.RowKit

theorem maxTwo (ts : Array TypeId) (t : TypeId) (a b n : Int) (w : World) (h : max a b = n) :
    (Builtin.max_ ts t #[.int .i64 a, .int .i64 b]).run Try.prog w = .ok (.int .i64 n) w := by
  rw [run_max_int2]
  congr 2
  omega

section
attribute [-go_sem] run_max_int2

set_option maxHeartbeats 400000 in
theorem far_any (a b : Nat) (w : World) (ha : a < 384) (hb : b < 384) :
    Calls Try.prog 8 #[.int .i64 (a : Int), .int .i64 (b : Int)] w fun e w' => e = .returned (.int .i64 (Gr.manh a b)) ∧ w' = w := by
  obtain ⟨dx, hdx⟩ : ∃ d : Int, (a : Int) % 24 - (b : Int) % 24 = d := ⟨_, rfl⟩
  obtain ⟨dy, hdy⟩ : ∃ d : Int, (a : Int) / 24 - (b : Int) / 24 = d := ⟨_, rfl⟩
  obtain ⟨mx, hmx⟩ : ∃ m : Int, max dx (-dx) = m := ⟨_, rfl⟩
  obtain ⟨my, hmy⟩ : ∃ m : Int, max dy (-dy) = m := ⟨_, rfl⟩
  have hm1 := fun ts t w => maxTwo ts t dx (-dx) mx w hmx
  have hm2 := fun ts t w => maxTwo ts t dy (-dy) my w hmy
  have hd : Hid (mx + my = Gr.manh a b) := by
    show mx + my = Gr.manh a b
    unfold Gr.manh
    omega
  have b1 : -24 ≤ dx := by omega
  have b2 : dx ≤ 24 := by omega
  have b3 : -24 ≤ dy := by omega
  have b4 : dy ≤ 24 := by omega
  have b5 : 0 ≤ mx := by omega
  have b6 : mx ≤ 24 := by omega
  have b7 : 0 ≤ my := by omega
  have b8 : my ≤ 24 := by omega
  clear hmx hmy
  go_enter Try.func8, Try.ntmps8
  go_wp2
  go_ret
  exact ⟨ret_int (unhide hd), rfl⟩

end

theorem byte_one (w : World) (v : Int) : Vec (w.heap.size + 1) (w.alloc (.cells #[.int .u8 v] 5)) (some ⟨w.heap.size, 0, none⟩) 1 (Byts fun _ => v) := by
  refine ⟨by decide, .inr ⟨_, _, rfl, by omega, fun i hi => ?_⟩⟩
  obtain rfl : i = 0 := by omega
  simp [Byts]

theorem int_one (w : World) (v : Int) : Vec (w.heap.size + 1) (w.alloc (.cells #[.int .i64 v] 3)) (some ⟨w.heap.size, 0, none⟩) 1 (Ints fun _ => v) := by
  refine ⟨by decide, .inr ⟨_, _, rfl, by omega, fun i hi => ?_⟩⟩
  obtain rfl : i = 0 := by omega
  simp [Ints]

theorem int_two (w : World) (v u : Int) : Vec (w.heap.size + 1) (w.alloc (.cells #[.int .i64 v, .int .i64 u] 3)) (some ⟨w.heap.size, 0, none⟩) 2 (Ints fun i => if i = 0 then v else u) := by
  refine ⟨by decide, .inr ⟨_, _, rfl, by omega, fun i hi => ?_⟩⟩
  rcases (show i = 0 ∨ i = 1 by omega) with rfl | rfl
  · simp [Ints]
  · simp [Ints]

theorem Gr.tgt_one {f : Nat → Int} {a : Nat} (i : Nat) (hw : Gr.walkB (f a) = true) : Gr.tgt f (fun _ => (a : Int)) 1 i ↔ a = i := by
  unfold Gr.tgt
  constructor
  · rintro ⟨_, j, _, h⟩
    have h' : (a : Int) = (i : Int) := h
    omega
  · rintro rfl
    exact ⟨hw, 0, by omega, rfl⟩

theorem Gr.tgt_two {f : Nat → Int} {a b : Nat} (i : Nat) (hw : ∀ i, Gr.walkB (f i) = true) : Gr.tgt f (fun i => if i = 0 then (a : Int) else (b : Int)) 2 i ↔ a = i ∨ b = i := by
  unfold Gr.tgt
  constructor
  · rintro ⟨_, j, hj, h⟩
    rcases (show j = 0 ∨ j = 1 by omega) with rfl | rfl
    · simp at h; omega
    · simp at h; omega
  · rintro (rfl | rfl)
    · exact ⟨hw a, 0, by omega, by simp⟩
    · exact ⟨hw b, 1, by omega, by simp⟩

end Go.Proofs.Ytfmiaenpmbbknab
