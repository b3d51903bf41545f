/-
  What a datagram is written as.
-/
import Derived.Test.YtiegccdgoemamaaWireEncode
namespace Go.Proofs.Ytiegccdgoemamaa
open Go.RowKit

theorem Wr.encS_len (s : List Int × Int) (n k lo hi : Int) : (Wr.encS s n k lo hi).1.1.length ≤ s.1.length + k.toNat := by
  unfold Wr.encS
  split
  · simp [Wr.bytes_len]
  · simp

theorem Wr.encS_top (s : List Int × Int) (n k lo hi : Int) : (Wr.encS s n k lo hi).2.toNat ≤ hi.toNat := by
  unfold Wr.encS
  split
  · next h => show n.toNat ≤ _; omega
  · simp

theorem Wr.mapS_len {each : List Int × Int → Int → (List Int × Int) × Int} (he : ∀ s a, (each s a).1.1.length ≤ s.1.length + 1) : ∀ (l : List Int) (s : List Int × Int), (Wr.mapS each s l).1.1.length ≤ s.1.length + l.length
  | [], s => by simp [Wr.mapS]
  | a :: l, s => by
    have h1 := Wr.mapS_len he l (each s a).1
    have h2 := he s a
    show (Wr.mapS each (each s a).1 l).1.1.length ≤ _
    simp
    omega

theorem Wr.listS_len {each : List Int × Int → Int → (List Int × Int) × Int} (he : ∀ s a, (each s a).1.1.length ≤ s.1.length + 1) (s : List Int × Int) (n : Nat) (k most : Int) (z : Nat → Int) : (Wr.listS Wr.encS each s n k most z).1.1.length ≤ s.1.length + k.toNat + most.toNat := by
  unfold Wr.listS
  have h1 := Wr.mapS_len he (Wr.fit n (Wr.encS s n k 0 most).2.toNat z) (Wr.encS s n k 0 most).1
  have h2 : (Wr.fit n (Wr.encS s n k 0 most).2.toNat z).length = (Wr.encS s n k 0 most).2.toNat := by simp [Wr.fit]
  have h3 := Wr.encS_top s n k 0 most
  have h4 := Wr.encS_len s n k 0 most
  omega

theorem Wr.input_len (s : List Int × Int) (a : Int) : (Wr.input Wr.encS s a).1.1.length ≤ s.1.length + 1 := Wr.encS_len s a 1 0 10
theorem Wr.datum_len (s : List Int × Int) (a : Int) : (Wr.datum Wr.encS s a).1.1.length ≤ s.1.length + 1 := Wr.encS_len s a 1 0 255

theorem Wr.st_len {α : Type} {each : List Int × Int → α → (List Int × Int) × α} {c : Nat} (he : ∀ s a, (each s a).1.1.length ≤ s.1.length + c) (s : List Int × Int) (xs : Nat → α) : ∀ i, (Wr.st each s xs i).1.length ≤ s.1.length + c * i
  | 0 => by simp [Wr.st]
  | i + 1 => by
    have h1 := Wr.st_len he s xs i
    have h2 := he (Wr.st each s xs i) (xs i)
    show (each (Wr.st each s xs i) (xs i)).1.1.length ≤ _
    rw [Nat.mul_succ]
    omega

theorem Wr.recS_len (s : List Int × Int) (r : Nat → Int) : (Wr.recS Wr.encS s r).1.1.length ≤ s.1.length + 10 := by
  unfold Wr.recS Wr.input
  dsimp only
  have h0 := Wr.encS_len s (r 0) 1 1 3
  split
  · have h1 := Wr.encS_len (Wr.encS s (r 0) 1 1 3).1 (r 1) 1 0 10
    simp at h0 h1 ⊢
    omega
  · have h1 := Wr.encS_len (Wr.encS s (r 0) 1 1 3).1 (r 2) 1 0 3
    have h2 := Wr.encS_len (Wr.encS (Wr.encS s (r 0) 1 1 3).1 (r 2) 1 0 3).1 (r 3) 4 0 1073741823
    have h3 := Wr.encS_len (Wr.encS (Wr.encS (Wr.encS s (r 0) 1 1 3).1 (r 2) 1 0 3).1 (r 3) 4 0 1073741823).1 (r 4) 4 0 1073741823
    split
    · split
      · simp at h0 h1 h2 h3 ⊢
        omega
      · simp at h0 h1 h2 ⊢
        omega
    · simp at h0 ⊢
      omega

theorem Wr.listR_len (s : List Int × Int) (n : Nat) (z : Nat → Nat → Int) : (Wr.listR Wr.encS s n z).1.1.length ≤ s.1.length + 4002 := by
  unfold Wr.listR
  dsimp only
  have h1 := Wr.st_len Wr.recS_len (Wr.encS s n 2 0 400).1 (Wr.pad n z) (Wr.encS s n 2 0 400).2.toNat
  have h2 := Wr.encS_top s n 2 0 400
  have h3 := Wr.encS_len s n 2 0 400
  simp at h2 h3
  omega

theorem Wr.seatS_len (s : List Int × Int) (n : Int) (len : Nat) (z : Nat → Int) : (Wr.seatS Wr.encS s n len z).1.1.length ≤ s.1.length + 260 := by
  unfold Wr.seatS
  dsimp only
  have h1 := Wr.encS_len s n 4 0 1073741823
  have h2 := Wr.listS_len Wr.input_len (Wr.encS s n 4 0 1073741823).1 len 1 255 z
  simp at h1 h2
  omega

theorem Wr.seatsT_len (s : List Int × Int) (n : Nat → Int) (len : Nat → Nat) (z : Nat → Nat → Int) : ∀ i, (Wr.seatsT Wr.encS s n len z i).1.length ≤ s.1.length + 260 * i
  | 0 => by simp [Wr.seatsT]
  | i + 1 => by
    have h1 := Wr.seatsT_len s n len z i
    have h2 := Wr.seatS_len (Wr.seatsT Wr.encS s n len z i) (n i) (len i) (z i)
    refine Nat.le_trans (show (Wr.seatsT Wr.encS s n len z (i + 1)).1.length ≤ (Wr.seatsT Wr.encS s n len z i).1.length + 260 from h2) ?_
    rw [Nat.mul_succ]
    omega

theorem Wr.headS_len (s : List Int × Int) (g : Wr.G) : (Wr.headS Wr.encS s g).1.1.length ≤ s.1.length + 8 := by
  unfold Wr.headS
  dsimp only
  have h1 := Wr.encS_len s (g.n 1) 4 0 1073741823
  have h2 := Wr.encS_len (Wr.encS s (g.n 1) 4 0 1073741823).1 (g.n 2) 4 0 1073741823
  simp at h1 h2
  omega

theorem Wr.upS_len (s : List Int × Int) (g : Wr.G) (z : Nat → Int) : (Wr.upS Wr.encS s g z).1.1.length ≤ s.1.length + 400 := by
  unfold Wr.upS
  dsimp only
  have h1 := Wr.encS_len s g.bits 4 0 4294967295
  have h2 := Wr.encS_len (Wr.encS s g.bits 4 0 4294967295).1 (g.n 5) 4 0 1073741823
  obtain ⟨s2, e2⟩ : ∃ q, (Wr.encS (Wr.encS s g.bits 4 0 4294967295).1 (g.n 5) 4 0 1073741823).1 = q := ⟨_, rfl⟩
  rw [e2] at h2 ⊢
  have h3 := Wr.st_len (c := 4) (fun t n => Wr.encS_len t n 4 0 1073741823) s2 (fun i => g.n (6 + i)) 4
  obtain ⟨s3, e3⟩ : ∃ q, Wr.st (fun t n => Wr.encS t n 4 0 1073741823) s2 (fun i => g.n (6 + i)) 4 = q := ⟨_, rfl⟩
  rw [e3] at h3 ⊢
  have h4 := Wr.encS_len s3 (g.n 10) 4 0 1073741823
  have h5 := Wr.encS_len (Wr.encS s3 (g.n 10) 4 0 1073741823).1 (g.n 11) 4 0 1073741823
  have h6 := Wr.listS_len Wr.input_len (Wr.encS (Wr.encS s3 (g.n 10) 4 0 1073741823).1 (g.n 11) 4 0 1073741823).1 (g.row 0).2.1 1 255 z
  simp at h1 h2 h4 h5 h6
  omega

theorem Wr.chunkS_len (s : List Int × Int) (g : Wr.G) (z : Nat → Int) : (Wr.chunkS Wr.encS s g z).1.1.length ≤ s.1.length + 400 := by
  unfold Wr.chunkS
  dsimp only
  have h1 := Wr.encS_len s (g.n 15) 4 0 1073741823
  have h2 := Wr.encS_len (Wr.encS s (g.n 15) 4 0 1073741823).1 (g.n 27) 1 0 255
  obtain ⟨p2, e2⟩ : ∃ q, Wr.encS (Wr.encS s (g.n 15) 4 0 1073741823).1 (g.n 27) 1 0 255 = q := ⟨_, rfl⟩
  rw [e2] at h2 ⊢
  have h3 := Wr.encS_len p2.1 (g.n 28) 1 (wrap64 (p2.2 + 1)) 16
  obtain ⟨p3, e3⟩ : ∃ q, Wr.encS p2.1 (g.n 28) 1 (wrap64 (p2.2 + 1)) 16 = q := ⟨_, rfl⟩
  rw [e3] at h3 ⊢
  have h6 := Wr.listS_len Wr.datum_len p3.1 g.data.2.1 1 64 z
  simp at h1 h2 h3 h6
  omega

theorem Wr.downS_len (s : List Int × Int) (g : Wr.G) (zr z : Nat → Nat → Int) : (Wr.downS Wr.encS s g zr z).1.1.length ≤ s.1.length + 6000 := by
  unfold Wr.downS
  dsimp only
  have h1 := Wr.encS_len s (g.n 13) 1 1 7
  have h2 := Wr.encS_len (Wr.encS s (g.n 13) 1 1 7).1 (Wr.trade (g.n 14)) 1 0 4
  have h3 := Wr.encS_len (Wr.encS (Wr.encS s (g.n 13) 1 1 7).1 (Wr.trade (g.n 14)) 1 0 4).1 (g.n 15) 4 0 1073741823
  have h4 := Wr.encS_len (Wr.encS (Wr.encS (Wr.encS s (g.n 13) 1 1 7).1 (Wr.trade (g.n 14)) 1 0 4).1 (g.n 15) 4 0 1073741823).1 (g.n 16) 4 0 1073741823
  obtain ⟨s4, e4⟩ : ∃ q, (Wr.encS (Wr.encS (Wr.encS (Wr.encS s (g.n 13) 1 1 7).1 (Wr.trade (g.n 14)) 1 0 4).1 (g.n 15) 4 0 1073741823).1 (g.n 16) 4 0 1073741823).1 = q := ⟨_, rfl⟩
  rw [e4] at h4 ⊢
  have h5 := Wr.listR_len s4 g.recs.2.1 zr
  have h6 := Wr.seatsT_len (Wr.listR Wr.encS s4 g.recs.2.1 zr).1 (fun i => g.n (18 + i)) (fun i => (g.row (1 + i)).2.1) z 4
  obtain ⟨s6, e6⟩ : ∃ q, Wr.seatsT Wr.encS (Wr.listR Wr.encS s4 g.recs.2.1 zr).1 (fun i => g.n (18 + i)) (fun i => (g.row (1 + i)).2.1) z 4 = q := ⟨_, rfl⟩
  rw [e6] at h6 ⊢
  have h7 := Wr.encS_len s6 (g.n 26) 4 0 1073741823
  simp at h1 h2 h3 h4 h7
  omega

theorem wEncode_join (g : Wr.G) (w : World) (hk0 : g.n 0 = 1) (hr : ∀ k, -9223372036854775808 ≤ g.n k ∧ g.n k ≤ 9223372036854775807) :
    Calls Try.prog 11 #[.agg g.cells] w (Wr.Written w (Wr.joinS Wr.encS ([g.n 0 % 256], 0) g).1) := by
  have hl : Wr.EncL (Wr.joinS Wr.encS ([g.n 0 % 256], 0) g).1 := by
    unfold Wr.EncL Wr.joinS
    dsimp only
    have q1 := Wr.encS_len ([g.n 0 % 256], 0) (g.n 2) 4 0 1073741823
    have q2 := Wr.encS_len (Wr.encS ([g.n 0 % 256], 0) (g.n 2) 4 0 1073741823).1 (Wr.bit g.watch) 1 0 1
    simp at q1 q2
    omega
  refine wEncode_any g w (by omega) _ (fun E y B hE ht hB hs => ?_)
  refine (wThrough_join (Wr.encSide E) g hk0 hr hs hl).mono ?_
  rintro e y' ⟨B', h1, h2, h3⟩
  exact ⟨B', _, h1, h2, h3⟩

/-- What stands in memory ahead of the call, for a row of numbers. -/
def Wr.RowIn (w : World) (u : Option Addr × Nat × Nat) (z : Nat → Int) : Prop :=
  u.2.1 ≤ 1048576 ∧ ∀ i, i < u.2.1 → ∃ b o, u.1 = some ⟨b, o, none⟩ ∧ b < w.heap.size ∧ w.cell? ⟨b, o + i, none⟩ = some (.int .i64 (z i)) ∧ -9223372036854775808 ≤ z i ∧ z i ≤ 9223372036854775807

theorem Wr.RowIn.at {w y : World} {B : Nat → Prop} {u : Option Addr × Nat × Nat} {z : Nat → Int} (h : Wr.RowIn w u z) (ht : Turn (fun _ => False) w y) (hB : ∀ b, B b → w.heap.size ≤ b) : ∀ i, i < u.2.1 → ∃ b o, u.1 = some ⟨b, o, none⟩ ∧ b < y.heap.size ∧ ¬ B b ∧ y.cell? ⟨b, o + i, none⟩ = some (.int .i64 (z i)) ∧ -9223372036854775808 ≤ z i ∧ z i ≤ 9223372036854775807 := fun i hi => by
  obtain ⟨b, o, h1, h2, h3, h4⟩ := h.2 i hi
  exact ⟨b, o, h1, Nat.lt_of_lt_of_le h2 ht.size, fun q => by have := hB b q; omega, (ht.cell h2 (fun q => q) (o + i)).trans h3, h4⟩

theorem wEncode_up (g : Wr.G) (z : Nat → Int) (w : World) (hk0 : g.n 0 = 2) (hr : ∀ k, -9223372036854775808 ≤ g.n k ∧ g.n k ≤ 9223372036854775807) (hb : 0 ≤ g.bits ∧ g.bits ≤ 4294967295) (hz : Wr.RowIn w (g.row 0) z) :
    Calls Try.prog 11 #[.agg g.cells] w (Wr.Written w (Wr.upS Wr.encS (Wr.headS Wr.encS ([g.n 0 % 256], 0) g).1 (Wr.headG g (Wr.headS Wr.encS ([g.n 0 % 256], 0) g)) z).1) := by
  have hl : Wr.EncL (Wr.upS Wr.encS (Wr.headS Wr.encS ([g.n 0 % 256], 0) g).1 (Wr.headG g (Wr.headS Wr.encS ([g.n 0 % 256], 0) g)) z).1 := by
    have q1 := Wr.upS_len (Wr.headS Wr.encS ([g.n 0 % 256], 0) g).1 (Wr.headG g (Wr.headS Wr.encS ([g.n 0 % 256], 0) g)) z
    have q2 := Wr.headS_len ([g.n 0 % 256], 0) g
    unfold Wr.EncL
    simp at q2
    omega
  refine wEncode_any g w (by omega) _ (fun E y B hE ht hB hs => ?_)
  refine (wThrough_up (Wr.encSide E) g z hk0 hr hb hz.1 (hz.at ht hB) hs hl).mono ?_
  rintro e y' ⟨B', O, h1, _, _, _, h2, h3⟩
  exact ⟨B', _, h1, h2, h3⟩

/-- The same, for bytes; for records. -/
def Wr.BytesIn (w : World) (u : Option Addr × Nat × Nat) (z : Nat → Int) : Prop :=
  u.2.1 ≤ 1048576 ∧ ∀ i, i < u.2.1 → ∃ b o, u.1 = some ⟨b, o, none⟩ ∧ b < w.heap.size ∧ w.cell? ⟨b, o + i, none⟩ = some (.int .u8 (z i)) ∧ 0 ≤ z i ∧ z i ≤ 255

theorem Wr.BytesIn.at {w y : World} {B : Nat → Prop} {u : Option Addr × Nat × Nat} {z : Nat → Int} (h : Wr.BytesIn w u z) (ht : Turn (fun _ => False) w y) (hB : ∀ b, B b → w.heap.size ≤ b) : ∀ i, i < u.2.1 → ∃ b o, u.1 = some ⟨b, o, none⟩ ∧ b < y.heap.size ∧ ¬ B b ∧ y.cell? ⟨b, o + i, none⟩ = some (.int .u8 (z i)) ∧ 0 ≤ z i ∧ z i ≤ 255 := fun i hi => by
  obtain ⟨b, o, h1, h2, h3, h4⟩ := h.2 i hi
  exact ⟨b, o, h1, Nat.lt_of_lt_of_le h2 ht.size, fun q => by have := hB b q; omega, (ht.cell h2 (fun q => q) (o + i)).trans h3, h4⟩

def Wr.RecsIn (w : World) (u : Option Addr × Nat × Nat) (z : Nat → Nat → Int) : Prop :=
  u.2.1 ≤ 1048576 ∧ (u.1 = none → u.2.1 = 0) ∧ (∀ i, i < u.2.1 → ∃ b o, u.1 = some ⟨b, o, none⟩ ∧ b < w.heap.size ∧ ∀ j, j < 5 → w.cell? ⟨b, o + i * 5 + j, none⟩ = some (.int .i64 (z i j))) ∧ ∀ i j, i < u.2.1 → -9223372036854775808 ≤ z i j ∧ z i j ≤ 9223372036854775807

theorem Wr.RecsIn.at {w y : World} {B : Nat → Prop} {u : Option Addr × Nat × Nat} {z : Nat → Nat → Int} (h : Wr.RecsIn w u z) (ht : Turn (fun _ => False) w y) (hB : ∀ b, B b → w.heap.size ≤ b) : ∀ i, i < u.2.1 → ∃ b o, u.1 = some ⟨b, o, none⟩ ∧ b < y.heap.size ∧ ¬ B b ∧ ∀ j, j < 5 → y.cell? ⟨b, o + i * 5 + j, none⟩ = some (.int .i64 (z i j)) := fun i hi => by
  obtain ⟨b, o, h1, h2, h3⟩ := h.2.2.1 i hi
  exact ⟨b, o, h1, Nat.lt_of_lt_of_le h2 ht.size, fun q => by have := hB b q; omega, fun j hj => (ht.cell h2 (fun q => q) (o + i * 5 + j)).trans (h3 j hj)⟩

theorem wEncode_chunk (g : Wr.G) (z : Nat → Int) (w : World) (hk0 : g.n 0 = 4) (hr : ∀ k, -9223372036854775808 ≤ g.n k ∧ g.n k ≤ 9223372036854775807) (hz : Wr.BytesIn w g.data z) :
    Calls Try.prog 11 #[.agg g.cells] w (Wr.Written w (Wr.chunkS Wr.encS (Wr.headS Wr.encS ([g.n 0 % 256], 0) g).1 (Wr.headG g (Wr.headS Wr.encS ([g.n 0 % 256], 0) g)) z).1) := by
  have hl : Wr.EncL (Wr.chunkS Wr.encS (Wr.headS Wr.encS ([g.n 0 % 256], 0) g).1 (Wr.headG g (Wr.headS Wr.encS ([g.n 0 % 256], 0) g)) z).1 := by
    have q1 := Wr.chunkS_len (Wr.headS Wr.encS ([g.n 0 % 256], 0) g).1 (Wr.headG g (Wr.headS Wr.encS ([g.n 0 % 256], 0) g)) z
    have q2 := Wr.headS_len ([g.n 0 % 256], 0) g
    unfold Wr.EncL
    simp at q2
    omega
  refine wEncode_any g w (by omega) _ (fun E y B hE ht hB hs => ?_)
  refine (wThrough_chunk (Wr.encSide E) g z hk0 hr hz.1 (hz.at ht hB) hs hl).mono ?_
  rintro e y' ⟨B', O, h1, _, _, _, h2, h3⟩
  exact ⟨B', _, h1, h2, h3⟩

theorem wEncode_down (g : Wr.G) (zr z : Nat → Nat → Int) (w : World) (hk0 : g.n 0 = 3) (hr : ∀ k, -9223372036854775808 ≤ g.n k ∧ g.n k ≤ 9223372036854775807) (hzr : Wr.RecsIn w g.recs zr) (hz : ∀ i, i < 4 → Wr.RowIn w (g.row (1 + i)) (z i)) :
    Calls Try.prog 11 #[.agg g.cells] w (Wr.Written w (Wr.downS Wr.encS (Wr.headS Wr.encS ([g.n 0 % 256], 0) g).1 (Wr.headG g (Wr.headS Wr.encS ([g.n 0 % 256], 0) g)) zr z).1) := by
  have hl : Wr.EncL (Wr.downS Wr.encS (Wr.headS Wr.encS ([g.n 0 % 256], 0) g).1 (Wr.headG g (Wr.headS Wr.encS ([g.n 0 % 256], 0) g)) zr z).1 := by
    have q1 := Wr.downS_len (Wr.headS Wr.encS ([g.n 0 % 256], 0) g).1 (Wr.headG g (Wr.headS Wr.encS ([g.n 0 % 256], 0) g)) zr z
    have q2 := Wr.headS_len ([g.n 0 % 256], 0) g
    unfold Wr.EncL
    simp at q2
    omega
  refine wEncode_any g w (by omega) _ (fun E y B hE ht hB hs => ?_)
  refine (wThrough_down (Wr.encSide E) g zr z hk0 hr hzr.1 hzr.2.1 (hzr.at ht hB) hzr.2.2.2 (fun i hi => (hz i hi).1) (fun i hi => (hz i hi).at ht hB) hs hl).mono ?_
  rintro e y' ⟨B', O, Os, h1, _, _, _, _, h2, h3⟩
  exact ⟨B', _, h1, h2, h3⟩

end Go.Proofs.Ytiegccdgoemamaa
