/-
  A datagram, its bytes, and what is read of them.
  A datagram that goes up comes back; a chunk's.
  A datagram that goes up comes back.
  A chunk's datagram comes back.
  A datagram that goes down comes back.
  A datagram that goes down comes back.
-/
import Derived.Test.YtiegccdgoemamaaWireAlike
import Derived.Test.YtiegccdgoemamaaWireSame
namespace Go.Proofs.Ytiegccdgoemamaa
open Go.RowKit

/-- A datagram that is told so, and written so, whatever is new by then. -/
structure Wr.Ready (Gm : Wr.G) (l Rn : List Int) (w : World) : Prop where
  told : ∀ y, Turn (fun _ => False) w y → Calls Try.prog 47 #[.agg Gm.cells] y (Wr.Told y Rn)
  enc : ∀ y, Turn (fun _ => False) w y → Calls Try.prog 11 #[.agg Gm.cells] y (Wr.Written y (l, 0))

/-- Fields of other kinds are zero. -/
def Wr.Zeros (k : Int) (Gm : Wr.G) : Prop :=
  (k = 1 → Gm.n 1 = 0 ∧ Gm.bits = 0 ∧ Gm.recs.2.1 = 0 ∧ Gm.data.2.1 = 0 ∧ Gm.n 26 = 0) ∧
  (k = 4 → Gm.watch = false ∧ Gm.n 5 = 0 ∧ (Gm.row 0).2.1 = 0 ∧ Gm.n 13 = 0 ∧ Gm.n 14 = 0) ∧
  (k = 2 ∨ k = 3 → Gm.data.2.1 = 0 ∧ Gm.n 28 = 0)

/-- It comes back. -/
structure Wr.Echo (y : World) (G : Wr.G) (k : Int) (b Rn : List Int) : Prop where
  ready : Wr.Ready G (k :: b) Rn y
  full : Rn ≠ []
  byte : ∀ x ∈ k :: b, 0 ≤ x ∧ x ≤ 255
  par : ∀ y1 Gs ob o C, Wr.SrcIn y1 Gs ob o C (k :: b) → Calls Try.prog 14 #[.slice (some ⟨Gs, o, none⟩) (b.length + 1) C] y1 fun e w' => Turn (fun _ => False) y1 w' ∧ ∃ Gm, e = .returned (.tuple #[.agg (Wr.G.cells Gm), .int .i64 0]) ∧ Wr.Ready Gm (k :: b) Rn w' ∧ Wr.Zeros k Gm

theorem Wr.bytes_byte {n : Int} {m : Nat} : ∀ x ∈ Wr.bytes n m, 0 ≤ x ∧ x ≤ 255 := fun x hx => by
  unfold Wr.bytes at hx
  obtain ⟨j, -, rfl⟩ := List.mem_map.1 hx
  omega

/-- What is read when all is well. -/
theorem Wr.Parsed.ok {w w' : World} {X : World → World → Wr.G → Prop} {e : Ending} (h : Wr.Parsed w X ([], 0) e w') : Turn (fun _ => False) w w' ∧ ∃ y y' M Gm, e = .returned (.tuple #[.agg (Wr.G.cells Gm), .int .i64 0]) ∧ w.heap.size ≤ M ∧ M < y.heap.size ∧ X y y' Gm ∧ Turn (fun b => b = M) y' w' := by
  obtain ⟨h1, h2⟩ := h
  rw [if_neg (by simp), if_neg (by simp)] at h2
  exact ⟨h1, h2⟩

theorem Wr.bit_one (b : Bool) : (Wr.bit b == 1) = b := by cases b <;> rfl

theorem Wr.echo_join (y : World) (G : Wr.G) (hk : G.n 0 = 1) (hr : ∀ k, -9223372036854775808 ≤ G.n k ∧ G.n k ≤ 9223372036854775807) (h2 : 0 ≤ G.n 2 ∧ G.n 2 ≤ 1073741823) :
    ∃ b Rn, b.length ≤ 1000000 ∧ Rn.length ≤ 100000001 ∧ Wr.Echo y G 1 b Rn := by
  have hb : 0 ≤ Wr.bit G.watch ∧ Wr.bit G.watch ≤ 1 := by unfold Wr.bit; split <;> decide
  have he : ∀ q : Wr.G, q.n 0 = 1 → q.n 2 = G.n 2 → q.watch = G.watch → (Wr.joinS Wr.encS ([q.n 0 % 256], 0) q).1 = (1 :: (Wr.bytes (G.n 2) 4 ++ [Wr.bit G.watch]), 0) := fun q q0 q2 qw => by
    rw [Wr.joinE _ q (by rw [q2]; exact h2), q0, q2, qw]
    rfl
  refine ⟨Wr.bytes (G.n 2) 4 ++ [Wr.bit G.watch], (Wr.joinS Wr.lstS [1] G).1, by simp [Wr.bytes_len], by simp [Wr.joinS, Wr.lstS], ⟨⟨fun y1 _ => ?_, fun y1 _ => ?_⟩, by simp [Wr.joinS, Wr.lstS], fun x hx => ?_, fun y1 Gs ob o C hs => ?_⟩⟩
  · have q := wTold_join G y1 hk hr
    rw [hk] at q
    exact q
  · have q := wEncode_join G y1 hk hr
    rw [he G hk rfl rfl] at q
    exact q
  · rcases List.mem_cons.1 hx with rfl | hx
    · decide
    · rcases List.mem_append.1 hx with hx | hx
      · exact Wr.bytes_byte x hx
      · obtain rfl : x = Wr.bit G.watch := by simpa using hx
        omega
  · have q := wParse_join Gs ob o C _ y1 hs
    rw [Wr.joinR G h2] at q
    refine q.mono ?_
    rintro e w' h
    obtain ⟨ht, u, u', M, Gm, rfl, -, -, hX, -⟩ := Wr.Parsed.ok h
    unfold Wr.JoinX at hX
    rw [Wr.joinR G h2, Wr.bit_one] at hX
    dsimp only at hX
    have m0 : Gm.n 0 = 1 := by rw [hX]; rfl
    have m2 : Gm.n 2 = G.n 2 := by rw [hX]; rfl
    have mw : Gm.watch = G.watch := by rw [hX]; rfl
    have mr : ∀ k, -9223372036854775808 ≤ Gm.n k ∧ Gm.n k ≤ 9223372036854775807 := fun k => by
      rw [hX]
      exact Wr.G.num_ok (g := Wr.G.kind 1) (k := 2) (Wr.kind_ok (by decide)) (hr 2) k
    refine ⟨ht, Gm, rfl, ⟨fun y2 _ => ?_, fun y2 _ => ?_⟩, ?_⟩
    · have q := wTold_join Gm y2 m0 mr
      rw [m0, Wr.joinS_congr m2 mw] at q
      exact q
    · have q := wEncode_join Gm y2 m0 mr
      rw [he Gm m0 m2 mw] at q
      exact q
    · rw [hX]
      exact ⟨fun _ => ⟨rfl, rfl, rfl, rfl, rfl⟩, fun h => absurd h (by decide), fun h => absurd h (by decide)⟩

end Go.Proofs.Ytiegccdgoemamaa

namespace Go.Proofs.Ytiegccdgoemamaa
open Go.RowKit

/-- A row that was handed out lies in memory. -/
theorem Wr.rowIn_of {w : World} {O n : Nat} {z : Nat → Int} (h : w.heap[O]? = some (.cells (((List.range n).map z).map (Value.int .i64)).toArray 3 (0, 0))) (hn : n ≤ 1048576) (hz : ∀ i, i < n → 0 ≤ z i ∧ z i ≤ 10) (c : Nat) : Wr.RowIn w (some ⟨O, 0, none⟩, n, c) z := by
  refine ⟨hn, fun i hi => ⟨O, 0, rfl, (Array.getElem?_eq_some_iff.1 h).1, ?_, by have := hz i hi; omega, by have := hz i hi; omega⟩⟩
  have hi' : i < n := hi
  have q := (Arr.lit h).cell (i := i) (by simpa using hi')
  rw [Nat.zero_add, q]
  simp [hi']

theorem Wr.bytesIn_of {w : World} {O n : Nat} {z : Nat → Int} (h : w.heap[O]? = some (.cells (((List.range n).map z).map (Value.int .u8)).toArray 5 (0, 0))) (hn : n ≤ 1048576) (hz : ∀ i, i < n → 0 ≤ z i ∧ z i ≤ 255) (c : Nat) : Wr.BytesIn w (some ⟨O, 0, none⟩, n, c) z := by
  refine ⟨hn, fun i hi => ⟨O, 0, rfl, (Array.getElem?_eq_some_iff.1 h).1, ?_, hz i hi⟩⟩
  have hi' : i < n := hi
  have q := (Arr.lit h).cell (i := i) (by simpa using hi')
  rw [Nat.zero_add, q]
  simp [hi']

theorem Wr.RowIn.turn {w y : World} {u : Option Addr × Nat × Nat} {z : Nat → Int} (h : Wr.RowIn w u z) (ht : Turn (fun _ => False) w y) : Wr.RowIn y u z :=
  ⟨h.1, fun i hi => by
    obtain ⟨b, o, h1, h2, h3, h4⟩ := h.2 i hi
    exact ⟨b, o, h1, Nat.lt_of_lt_of_le h2 ht.size, (ht.cell h2 (fun q => q) (o + i)).trans h3, h4⟩⟩

theorem Wr.BytesIn.turn {w y : World} {u : Option Addr × Nat × Nat} {z : Nat → Int} (h : Wr.BytesIn w u z) (ht : Turn (fun _ => False) w y) : Wr.BytesIn y u z :=
  ⟨h.1, fun i hi => by
    obtain ⟨b, o, h1, h2, h3, h4⟩ := h.2 i hi
    exact ⟨b, o, h1, Nat.lt_of_lt_of_le h2 ht.size, (ht.cell h2 (fun q => q) (o + i)).trans h3, h4⟩⟩

/-- What goes up, written whole. -/
theorem Wr.upAll (pre : List Int) (G : Wr.G) (z : Nat → Int) (h1 : 0 ≤ G.n 1 ∧ G.n 1 ≤ 1073741823) (h2 : 0 ≤ G.n 2 ∧ G.n 2 ≤ 1073741823) (hb : 0 ≤ G.bits ∧ G.bits ≤ 4294967295) (hk : ∀ k, 5 ≤ k ∧ k ≤ 11 → 0 ≤ G.n k ∧ G.n k ≤ 1073741823) (hn : (G.row 0).2.1 ≤ 255) (hz : ∀ i, i < (G.row 0).2.1 → 0 ≤ z i ∧ z i ≤ 10) :
    (Wr.upS Wr.encS (Wr.headS Wr.encS (pre, 0) G).1 (Wr.headG G (Wr.headS Wr.encS (pre, 0) G)) z).1 = (pre ++ (Wr.bytes (G.n 1) 4 ++ (Wr.bytes (G.n 2) 4 ++ Wr.upB G z)), 0) := by
  rw [Wr.headE _ _ h1 h2]
  dsimp only
  have q := Wr.upE (pre ++ (Wr.bytes (G.n 1) 4 ++ Wr.bytes (G.n 2) 4)) (Wr.headG G ((pre ++ (Wr.bytes (G.n 1) 4 ++ Wr.bytes (G.n 2) 4), (0 : Int)), G.n 1, G.n 2)) z hb (fun k hk5 => by
    simp only [Wr.headG, Wr.G.num, Wr.upd, if_neg (show k ≠ 1 by omega), if_neg (show k ≠ 2 by omega)]
    exact hk k hk5) hn hz
  rw [q, show Wr.upB (Wr.headG G ((pre ++ (Wr.bytes (G.n 1) 4 ++ Wr.bytes (G.n 2) 4), (0 : Int)), G.n 1, G.n 2)) z = Wr.upB G z from rfl]
  simp

theorem Wr.upAll_congr {σ : Type} {step : σ → Int → Int → Int → Int → σ × Int} (s : σ) {G q : Wr.G} (z : Nat → Int) (h1 : q.n 1 = G.n 1) (h2 : q.n 2 = G.n 2) (hb : q.bits = G.bits) (hn : ∀ k, 5 ≤ k ∧ k ≤ 11 → q.n k = G.n k) (hr : (q.row 0).2.1 = (G.row 0).2.1) :
    (Wr.upS step (Wr.headS step s q).1 (Wr.headG q (Wr.headS step s q)) z).1 = (Wr.upS step (Wr.headS step s G).1 (Wr.headG G (Wr.headS step s G)) z).1 := by
  rw [Wr.headS_congr h1 h2]
  obtain ⟨a, ha⟩ : ∃ a, Wr.headS step s G = a := ⟨_, rfl⟩
  rw [ha]
  exact Wr.upS_congr z hb (fun k hk => by simp [Wr.headG, Wr.G.num, Wr.upd, show k ≠ 1 by omega, show k ≠ 2 by omega, hn k hk]) hr

/-- How many numbers are told. -/
theorem Wr.lst_map (each : List Int → Int → List Int × Int) (he : ∀ s a, (each s a).1.length = s.length + 1) : ∀ (l : List Int) (s : List Int), (Wr.mapS each s l).1.length = s.length + l.length
  | [], _ => rfl
  | a :: l, s => by
    show (Wr.mapS each (each s a).1 l).1.length = _
    rw [Wr.lst_map each he l, he, List.length_cons]
    omega

theorem Wr.lst_list (each : List Int → Int → List Int × Int) (he : ∀ s a, (each s a).1.length = s.length + 1) (s : List Int) (n : Nat) (k most : Int) (z : Nat → Int) : (Wr.listS Wr.lstS each s n k most z).1.length = s.length + 1 + n := by
  unfold Wr.listS
  rw [Wr.lst_map each he]
  simp [Wr.lstS, Wr.fit]

theorem Wr.lst_up (s : List Int) (g : Wr.G) (z : Nat → Int) : (Wr.upS Wr.lstS (Wr.headS Wr.lstS s g).1 (Wr.headG g (Wr.headS Wr.lstS s g)) z).1.length = s.length + 11 + (g.row 0).2.1 := by
  unfold Wr.upS
  dsimp only
  rw [Wr.lst_list _ (fun s a => by simp [Wr.input, Wr.lstS])]
  simp only [Wr.st]
  simp [Wr.lstS, Wr.headS, Wr.headG, Wr.G.num]

end Go.Proofs.Ytiegccdgoemamaa

namespace Go.Proofs.Ytiegccdgoemamaa
open Go.RowKit

theorem Wr.echo_up (y : World) (G : Wr.G) (z : Nat → Int) (hk : G.n 0 = 2) (hr : ∀ k, -9223372036854775808 ≤ G.n k ∧ G.n k ≤ 9223372036854775807) (h1 : 0 ≤ G.n 1 ∧ G.n 1 ≤ 1073741823) (h2 : 0 ≤ G.n 2 ∧ G.n 2 ≤ 1073741823) (hb : 0 ≤ G.bits ∧ G.bits ≤ 4294967295)
    (hn : ∀ k, 5 ≤ k ∧ k ≤ 11 → 0 ≤ G.n k ∧ G.n k ≤ 1073741823) (hl : (G.row 0).2.1 ≤ 255) (hz : ∀ i, i < (G.row 0).2.1 → 0 ≤ z i ∧ z i ≤ 10) (hin : Wr.RowIn y (G.row 0) z) :
    ∃ b Rn, b.length ≤ 1000000 ∧ Rn.length ≤ 100000001 ∧ Wr.Echo y G 2 b Rn := by
  obtain ⟨b, hbe⟩ : ∃ b, b = Wr.bytes (G.n 1) 4 ++ (Wr.bytes (G.n 2) 4 ++ Wr.upB G z) := ⟨_, rfl⟩
  have hblen : b.length ≤ 1000000 := by
    rw [hbe]
    simp [Wr.upB, Wr.bytes_len]
    omega
  have hbyte : ∀ x ∈ (2 : Int) :: b, 0 ≤ x ∧ x ≤ 255 := fun x hx => by
    rcases List.mem_cons.1 hx with rfl | hx
    · decide
    · rw [hbe] at hx
      unfold Wr.upB at hx
      simp only [List.mem_append, List.mem_map, List.mem_range] at hx
      rcases hx with hx | hx | hx | hx | hx | hx | hx | hx | hx | hx | hx | ⟨i, hi, rfl⟩
      case inr.inr.inr.inr.inr.inr.inr.inr.inr.inr.inr => have := hz i hi; omega
      all_goals exact Wr.bytes_byte x hx
  have he : ∀ q : Wr.G, q.n 0 = 2 → q.n 1 = G.n 1 → q.n 2 = G.n 2 → q.bits = G.bits → (∀ k, 5 ≤ k ∧ k ≤ 11 → q.n k = G.n k) → (q.row 0).2.1 = (G.row 0).2.1 →
      (Wr.upS Wr.encS (Wr.headS Wr.encS ([q.n 0 % 256], 0) q).1 (Wr.headG q (Wr.headS Wr.encS ([q.n 0 % 256], 0) q)) z).1 = (2 :: b, 0) := fun q q0 q1 q2 qb qn qr => by
    rw [q0, Wr.upAll_congr _ z q1 q2 qb qn qr, Wr.upAll _ G z h1 h2 hb hn hl hz, hbe]
    rfl
  have hlst : ∀ q : Wr.G, (q.row 0).2.1 = (G.row 0).2.1 → Wr.LstL (Wr.upS Wr.lstS (Wr.headS Wr.lstS [q.n 0] q).1 (Wr.headG q (Wr.headS Wr.lstS [q.n 0] q)) z).1 := fun q qr => by
    unfold Wr.LstL
    rw [Wr.lst_up, qr]
    simp
    omega
  obtain ⟨Rn, hRn⟩ : ∃ Rn, Rn = (Wr.upS Wr.lstS (Wr.headS Wr.lstS [2] G).1 (Wr.headG G (Wr.headS Wr.lstS [2] G)) z).1 := ⟨_, rfl⟩
  have hRl : Rn.length = 12 + (G.row 0).2.1 := by rw [hRn, Wr.lst_up]; simp
  refine ⟨b, Rn, hblen, by omega, ⟨⟨fun y1 ht => ?_, fun y1 ht => ?_⟩, (fun e => by rw [e, List.length_nil] at hRl; omega), hbyte, fun y1 Gs ob o C hs => ?_⟩⟩
  · have q := wTold_up G z y1 hk hr hb (hin.turn ht) (hlst G rfl)
    rw [hk, ← hRn] at q
    exact q
  · have q := wEncode_up G z y1 hk hr hb (hin.turn ht)
    rw [he G hk rfl rfl rfl (fun _ _ => rfl) rfl] at q
    exact q
  · have q := wParse_up Gs ob o C b y1 hs
    have hp : Wr.headP 2 b = ((Wr.upB G z, 0), G.n 1, G.n 2) := by
      unfold Wr.headP
      rw [hbe]
      exact Wr.headR _ _ _ _ h1 h2
    obtain ⟨F, hu, hF⟩ := Wr.upR [] G (Wr.kindP 2 b) z (fun _ => 0) hb hn hl hz
    have hup : Wr.upP b = (([], 0), G.bits, G.n 5, F, G.n 10, G.n 11, (List.range (G.row 0).2.1).map z) := by
      unfold Wr.upP
      rw [hp]
      rw [List.append_nil] at hu
      exact hu
    rw [hup] at q
    refine q.mono ?_
    rintro e w' h
    obtain ⟨ht, u, u', M, Gm, rfl, -, hM, hX, hT⟩ := Wr.Parsed.ok h
    unfold Wr.UpX at hX
    rw [hup] at hX
    unfold Wr.kindP at hX
    rw [hp] at hX
    dsimp only at hX
    obtain ⟨O, hX, hO, hcells⟩ := hX
    have hlen : ((List.range (G.row 0).2.1).map z).length = (G.row 0).2.1 := by simp
    rw [hlen] at hX
    have hrow : Wr.RowIn w' (Gm.row 0) z := by
      rw [hX]
      have q1 : w'.heap[O]? = u'.heap[O]? := hT.block O (Array.getElem?_eq_some_iff.1 hcells).1 (by omega)
      exact Wr.rowIn_of (q1.trans hcells) (by omega) hz _
    have m0 : Gm.n 0 = 2 := by rw [hX]; rfl
    have m1 : Gm.n 1 = G.n 1 := by rw [hX]; rfl
    have m2 : Gm.n 2 = G.n 2 := by rw [hX]; rfl
    have mb : Gm.bits = G.bits := by rw [hX]; rfl
    have ml : (Gm.row 0).2.1 = (G.row 0).2.1 := by rw [hX]; rfl
    have mn : ∀ k, 5 ≤ k ∧ k ≤ 11 → Gm.n k = G.n k := fun k hk => by
      rw [hX]
      rcases (show k = 5 ∨ k = 6 ∨ k = 7 ∨ k = 8 ∨ k = 9 ∨ k = 10 ∨ k = 11 by omega) with rfl | rfl | rfl | rfl | rfl | rfl | rfl
      · rfl
      · exact hF 0 (by omega)
      · exact hF 1 (by omega)
      · exact hF 2 (by omega)
      · exact hF 3 (by omega)
      · rfl
      · rfl
    have mr : ∀ k, -9223372036854775808 ≤ Gm.n k ∧ Gm.n k ≤ 9223372036854775807 := fun k => by
      by_cases k5 : 5 ≤ k ∧ k ≤ 11
      · rw [mn k k5]; exact hr k
      · by_cases k1 : k = 1
        · rw [k1, m1]; exact hr 1
        · by_cases k2 : k = 2
          · rw [k2, m2]; exact hr 2
          · have q : Gm.n k = (Wr.G.kind 2).n k := by
              rw [hX]
              simp [Wr.G.set12, Wr.G.num, Wr.G.four, Wr.G.set4, Wr.headG, Wr.upd, k1, k2, show k ≠ 5 by omega, show k ≠ 10 by omega, show k ≠ 11 by omega, show ¬ (6 ≤ k ∧ k < 6 + 4) by omega]
            rw [q]
            exact Wr.kind_ok (by decide) k
    refine ⟨ht, Gm, rfl, ⟨fun y2 ht2 => ?_, fun y2 ht2 => ?_⟩, ?_⟩
    · have q := wTold_up Gm z y2 m0 mr (by rw [mb]; exact hb) (hrow.turn ht2) (hlst Gm ml)
      rw [m0, Wr.upAll_congr [2] z m1 m2 mb mn ml, ← hRn] at q
      exact q
    · have q := wEncode_up Gm z y2 m0 mr (by rw [mb]; exact hb) (hrow.turn ht2)
      rw [he Gm m0 m1 m2 mb mn ml] at q
      exact q
    · rw [hX]
      exact ⟨fun h => absurd h (by decide), fun h => absurd h (by decide), fun _ => ⟨rfl, rfl⟩⟩

end Go.Proofs.Ytiegccdgoemamaa

namespace Go.Proofs.Ytiegccdgoemamaa
open Go.RowKit

theorem Wr.chunkAll (pre : List Int) (G : Wr.G) (z : Nat → Int) (h1 : 0 ≤ G.n 1 ∧ G.n 1 ≤ 1073741823) (h2 : 0 ≤ G.n 2 ∧ G.n 2 ≤ 1073741823) (h15 : 0 ≤ G.n 15 ∧ G.n 15 ≤ 1073741823) (h28 : 1 ≤ G.n 28 ∧ G.n 28 ≤ 16) (h27 : 0 ≤ G.n 27 ∧ G.n 27 < G.n 28) (hn : G.data.2.1 ≤ 64) (hz : ∀ i, i < G.data.2.1 → 0 ≤ z i ∧ z i ≤ 255) :
    (Wr.chunkS Wr.encS (Wr.headS Wr.encS (pre, 0) G).1 (Wr.headG G (Wr.headS Wr.encS (pre, 0) G)) z).1 = (pre ++ (Wr.bytes (G.n 1) 4 ++ (Wr.bytes (G.n 2) 4 ++ Wr.chunkB G z)), 0) := by
  rw [Wr.headE _ _ h1 h2]
  dsimp only
  have q := Wr.chunkE (pre ++ (Wr.bytes (G.n 1) 4 ++ Wr.bytes (G.n 2) 4)) (Wr.headG G ((pre ++ (Wr.bytes (G.n 1) 4 ++ Wr.bytes (G.n 2) 4), (0 : Int)), G.n 1, G.n 2)) z h15 h28 h27 hn hz
  rw [q, show Wr.chunkB (Wr.headG G ((pre ++ (Wr.bytes (G.n 1) 4 ++ Wr.bytes (G.n 2) 4), (0 : Int)), G.n 1, G.n 2)) z = Wr.chunkB G z from rfl]
  simp

theorem Wr.chunkAll_congr {σ : Type} {step : σ → Int → Int → Int → Int → σ × Int} (s : σ) {G q : Wr.G} (z : Nat → Int) (h1 : q.n 1 = G.n 1) (h2 : q.n 2 = G.n 2) (h15 : q.n 15 = G.n 15) (h27 : q.n 27 = G.n 27) (h28 : q.n 28 = G.n 28) (hd : q.data.2.1 = G.data.2.1) :
    (Wr.chunkS step (Wr.headS step s q).1 (Wr.headG q (Wr.headS step s q)) z).1 = (Wr.chunkS step (Wr.headS step s G).1 (Wr.headG G (Wr.headS step s G)) z).1 := by
  rw [Wr.headS_congr h1 h2]
  obtain ⟨a, ha⟩ : ∃ a, Wr.headS step s G = a := ⟨_, rfl⟩
  rw [ha]
  exact Wr.chunkS_congr z h15 h27 h28 hd

theorem Wr.lst_chunk (s : List Int) (g : Wr.G) (z : Nat → Int) : (Wr.chunkS Wr.lstS (Wr.headS Wr.lstS s g).1 (Wr.headG g (Wr.headS Wr.lstS s g)) z).1.length = s.length + 6 + g.data.2.1 := by
  unfold Wr.chunkS
  dsimp only
  rw [Wr.lst_list _ (fun s a => by simp [Wr.datum, Wr.lstS])]
  simp [Wr.lstS, Wr.headS, Wr.headG, Wr.G.num]

theorem Wr.echo_chunk (y : World) (G : Wr.G) (z : Nat → Int) (hk : G.n 0 = 4) (hr : ∀ k, -9223372036854775808 ≤ G.n k ∧ G.n k ≤ 9223372036854775807) (h1 : 0 ≤ G.n 1 ∧ G.n 1 ≤ 1073741823) (h2 : 0 ≤ G.n 2 ∧ G.n 2 ≤ 1073741823)
    (h15 : 0 ≤ G.n 15 ∧ G.n 15 ≤ 1073741823) (h28 : 1 ≤ G.n 28 ∧ G.n 28 ≤ 16) (h27 : 0 ≤ G.n 27 ∧ G.n 27 < G.n 28) (hl : G.data.2.1 ≤ 64) (hz : ∀ i, i < G.data.2.1 → 0 ≤ z i ∧ z i ≤ 255) (hin : Wr.BytesIn y G.data z) :
    ∃ b Rn, b.length ≤ 1000000 ∧ Rn.length ≤ 100000001 ∧ Wr.Echo y G 4 b Rn := by
  obtain ⟨b, hbe⟩ : ∃ b, b = Wr.bytes (G.n 1) 4 ++ (Wr.bytes (G.n 2) 4 ++ Wr.chunkB G z) := ⟨_, rfl⟩
  have hblen : b.length ≤ 1000000 := by
    rw [hbe]
    simp [Wr.chunkB, Wr.bytes_len]
    omega
  have hbyte : ∀ x ∈ (4 : Int) :: b, 0 ≤ x ∧ x ≤ 255 := fun x hx => by
    rcases List.mem_cons.1 hx with rfl | hx
    · decide
    · rw [hbe] at hx
      unfold Wr.chunkB at hx
      simp only [List.mem_append, List.mem_cons, List.mem_map, List.mem_range] at hx
      rcases hx with hx | hx | hx | rfl | rfl | hx | ⟨i, hi, rfl⟩
      · exact Wr.bytes_byte x hx
      · exact Wr.bytes_byte x hx
      · exact Wr.bytes_byte x hx
      · omega
      · omega
      · exact Wr.bytes_byte x hx
      · exact hz i hi
  have he : ∀ q : Wr.G, q.n 0 = 4 → q.n 1 = G.n 1 → q.n 2 = G.n 2 → q.n 15 = G.n 15 → q.n 27 = G.n 27 → q.n 28 = G.n 28 → q.data.2.1 = G.data.2.1 →
      (Wr.chunkS Wr.encS (Wr.headS Wr.encS ([q.n 0 % 256], 0) q).1 (Wr.headG q (Wr.headS Wr.encS ([q.n 0 % 256], 0) q)) z).1 = (4 :: b, 0) := fun q q0 q1 q2 q15 q27 q28 qd => by
    rw [q0, Wr.chunkAll_congr _ z q1 q2 q15 q27 q28 qd, Wr.chunkAll _ G z h1 h2 h15 h28 h27 hl hz, hbe]
    rfl
  have hlst : ∀ q : Wr.G, q.data.2.1 = G.data.2.1 → Wr.LstL (Wr.chunkS Wr.lstS (Wr.headS Wr.lstS [q.n 0] q).1 (Wr.headG q (Wr.headS Wr.lstS [q.n 0] q)) z).1 := fun q qd => by
    unfold Wr.LstL
    rw [Wr.lst_chunk, qd]
    simp
    omega
  obtain ⟨Rn, hRn⟩ : ∃ Rn, Rn = (Wr.chunkS Wr.lstS (Wr.headS Wr.lstS [4] G).1 (Wr.headG G (Wr.headS Wr.lstS [4] G)) z).1 := ⟨_, rfl⟩
  have hRl : Rn.length = 7 + G.data.2.1 := by rw [hRn, Wr.lst_chunk]; simp
  refine ⟨b, Rn, hblen, by omega, ⟨⟨fun y1 ht => ?_, fun y1 ht => ?_⟩, (fun e => by rw [e, List.length_nil] at hRl; omega), hbyte, fun y1 Gs ob o C hs => ?_⟩⟩
  · have q := wTold_chunk G z y1 hk hr (hin.turn ht) (hlst G rfl)
    rw [hk, ← hRn] at q
    exact q
  · have q := wEncode_chunk G z y1 hk hr (hin.turn ht)
    rw [he G hk rfl rfl rfl rfl rfl rfl] at q
    exact q
  · have q := wParse_chunk Gs ob o C b y1 hs
    have hp : Wr.headP 4 b = ((Wr.chunkB G z, 0), G.n 1, G.n 2) := by
      unfold Wr.headP
      rw [hbe]
      exact Wr.headR _ _ _ _ h1 h2
    have hu := Wr.chunkR [] G (Wr.kindP 4 b) z (fun _ => 0) h15 h28 h27 hl hz
    have hup : Wr.chunkP b = (([], 0), G.n 15, G.n 27, G.n 28, (List.range G.data.2.1).map z) := by
      unfold Wr.chunkP
      rw [hp]
      rw [List.append_nil] at hu
      exact hu
    rw [hup] at q
    refine q.mono ?_
    rintro e w' h
    obtain ⟨ht, u, u', M, Gm, rfl, -, hM, hX, hT⟩ := Wr.Parsed.ok h
    unfold Wr.ChunkX at hX
    rw [hup] at hX
    unfold Wr.kindP at hX
    rw [hp] at hX
    dsimp only at hX
    obtain ⟨O, hX, hO, hcells⟩ := hX
    have hlen : ((List.range G.data.2.1).map z).length = G.data.2.1 := by simp
    rw [hlen] at hX
    have hrow : Wr.BytesIn w' Gm.data z := by
      rw [hX]
      have q1 : w'.heap[O]? = u'.heap[O]? := hT.block O (Array.getElem?_eq_some_iff.1 hcells).1 (by omega)
      exact Wr.bytesIn_of (q1.trans hcells) (by omega) hz _
    have m0 : Gm.n 0 = 4 := by rw [hX]; rfl
    have m1 : Gm.n 1 = G.n 1 := by rw [hX]; rfl
    have m2 : Gm.n 2 = G.n 2 := by rw [hX]; rfl
    have m15 : Gm.n 15 = G.n 15 := by rw [hX]; rfl
    have m27 : Gm.n 27 = G.n 27 := by rw [hX]; rfl
    have m28 : Gm.n 28 = G.n 28 := by rw [hX]; rfl
    have md : Gm.data.2.1 = G.data.2.1 := by rw [hX]; rfl
    have mr : ∀ k, -9223372036854775808 ≤ Gm.n k ∧ Gm.n k ≤ 9223372036854775807 := fun k => by
      by_cases k1 : k = 1
      · rw [k1, m1]; exact hr 1
      · by_cases k2 : k = 2
        · rw [k2, m2]; exact hr 2
        · by_cases k15 : k = 15
          · rw [k15, m15]; exact hr 15
          · by_cases k27 : k = 27
            · rw [k27, m27]; exact hr 27
            · by_cases k28 : k = 28
              · rw [k28, m28]; exact hr 28
              · have q : Gm.n k = (Wr.G.kind 4).n k := by
                  rw [hX]
                  simp [Wr.G.set29, Wr.G.num, Wr.headG, Wr.upd, k1, k2, k15, k27, k28]
                rw [q]
                exact Wr.kind_ok (by decide) k
    refine ⟨ht, Gm, rfl, ⟨fun y2 ht2 => ?_, fun y2 ht2 => ?_⟩, ?_⟩
    · have q := wTold_chunk Gm z y2 m0 mr (hrow.turn ht2) (hlst Gm md)
      rw [m0, Wr.chunkAll_congr [4] z m1 m2 m15 m27 m28 md, ← hRn] at q
      exact q
    · have q := wEncode_chunk Gm z y2 m0 mr (hrow.turn ht2)
      rw [he Gm m0 m1 m2 m15 m27 m28 md] at q
      exact q
    · rw [hX]
      exact ⟨fun h => absurd h (by decide), fun _ => ⟨rfl, rfl, rfl, rfl, rfl⟩, fun h => absurd h (by decide)⟩

end Go.Proofs.Ytiegccdgoemamaa

namespace Go.Proofs.Ytiegccdgoemamaa
open Go.RowKit

theorem Wr.DownOk.head {G : Wr.G} {zr z : Nat → Nat → Int} (h : Wr.DownOk G zr z) (a : (List Int × Int) × Int × Int) : Wr.DownOk (Wr.headG G a) zr z :=
  ⟨h.k13, h.k14, h.k15, h.k16, h.k26, fun i hi => by
    have q : (Wr.headG G a).n (18 + i) = G.n (18 + i) := (Wr.headG_same G a).1 _ (by omega) (by omega)
    rw [q]
    exact h.first i hi, h.rows, h.recs⟩

theorem Wr.downAll (pre : List Int) (G : Wr.G) (zr z : Nat → Nat → Int) (h1 : 0 ≤ G.n 1 ∧ G.n 1 ≤ 1073741823) (h2 : 0 ≤ G.n 2 ∧ G.n 2 ≤ 1073741823) (h : Wr.DownOk G zr z) :
    (Wr.downS Wr.encS (Wr.headS Wr.encS (pre, 0) G).1 (Wr.headG G (Wr.headS Wr.encS (pre, 0) G)) zr z).1 = (pre ++ (Wr.bytes (G.n 1) 4 ++ (Wr.bytes (G.n 2) 4 ++ Wr.downB G zr z)), 0) := by
  rw [Wr.headE _ _ h1 h2]
  dsimp only
  have q := Wr.downE (pre ++ (Wr.bytes (G.n 1) 4 ++ Wr.bytes (G.n 2) 4)) (Wr.headG G ((pre ++ (Wr.bytes (G.n 1) 4 ++ Wr.bytes (G.n 2) 4), (0 : Int)), G.n 1, G.n 2)) zr z (h.head _)
  rw [q, show Wr.downB (Wr.headG G ((pre ++ (Wr.bytes (G.n 1) 4 ++ Wr.bytes (G.n 2) 4), (0 : Int)), G.n 1, G.n 2)) zr z = Wr.downB G zr z from rfl]
  simp

/-- The same of all that it names. -/
structure Wr.DownLike (G q : Wr.G) (zr Z : Nat → Nat → Int) : Prop where
  n1 : q.n 1 = G.n 1
  n2 : q.n 2 = G.n 2
  n13 : q.n 13 = G.n 13
  n14 : q.n 14 = G.n 14
  n15 : q.n 15 = G.n 15
  n16 : q.n 16 = G.n 16
  n26 : q.n 26 = G.n 26
  first : ∀ i, i < 4 → q.n (18 + i) = G.n (18 + i)
  rows : ∀ i, i < 4 → (q.row (1 + i)).2.1 = (G.row (1 + i)).2.1
  len : q.recs.2.1 = G.recs.2.1
  recs : ∀ i, i < G.recs.2.1 → (1 ≤ zr i 0 ∧ zr i 0 ≤ 3) ∧ Wr.recLike (zr i) (Z i)

theorem Wr.downAll_congr {σ : Type} {step : σ → Int → Int → Int → Int → σ × Int} (s : σ) {G q : Wr.G} {zr Z : Nat → Nat → Int} (z : Nat → Nat → Int) (h : Wr.DownLike G q zr Z) (hl : ∀ t, (step t G.recs.2.1 2 0 400).2 = G.recs.2.1) (hs : ∀ t n, 1 ≤ n ∧ n ≤ 3 → (step t n 1 1 3).2 = n) :
    (Wr.downS step (Wr.headS step s q).1 (Wr.headG q (Wr.headS step s q)) Z z).1 = (Wr.downS step (Wr.headS step s G).1 (Wr.headG G (Wr.headS step s G)) zr z).1 := by
  rw [Wr.headS_congr h.n1 h.n2]
  obtain ⟨a, ha⟩ : ∃ a, Wr.headS step s G = a := ⟨_, rfl⟩
  rw [ha]
  exact Wr.downS_congr zr Z z h.n13 h.n14 h.n15 h.n16 h.n26 (fun i hi => by simp [Wr.headG, Wr.G.num, Wr.upd, show 18 + i ≠ 1 by omega, show 18 + i ≠ 2 by omega, h.first i hi]) h.rows h.len hl hs h.recs

theorem Wr.lst_rec (s : List Int) (r : Nat → Int) : (Wr.recS Wr.lstS s r).1.length ≤ s.length + 4 := by
  unfold Wr.recS Wr.input
  dsimp only
  split
  · simp [Wr.lstS]
  · split
    · split <;> simp [Wr.lstS]
    · simp [Wr.lstS]

theorem Wr.lst_st (s : List Int) (xs : Nat → Nat → Int) : ∀ n, (Wr.st (Wr.recS Wr.lstS) s xs n).length ≤ s.length + 4 * n
  | 0 => Nat.le_refl _
  | n + 1 => by
    have h1 := Wr.lst_st s xs n
    have h2 := Wr.lst_rec (Wr.st (Wr.recS Wr.lstS) s xs n) (xs n)
    show (Wr.recS Wr.lstS (Wr.st (Wr.recS Wr.lstS) s xs n) (xs n)).1.length ≤ _
    omega

theorem Wr.lst_seat (s : List Int) (n : Int) (len : Nat) (z : Nat → Int) : (Wr.seatS Wr.lstS s n len z).1.length = s.length + 2 + len := by
  unfold Wr.seatS
  dsimp only
  rw [Wr.lst_list _ (fun s a => by simp [Wr.input, Wr.lstS])]
  simp [Wr.lstS]

theorem Wr.lst_down (s : List Int) (g : Wr.G) (zr z : Nat → Nat → Int) (hc : g.recs.2.1 ≤ 400) (hr : ∀ i, i < 4 → (g.row (1 + i)).2.1 ≤ 255) : (Wr.downS Wr.lstS (Wr.headS Wr.lstS s g).1 (Wr.headG g (Wr.headS Wr.lstS s g)) zr z).1.length ≤ s.length + 10000 ∧ 1 ≤ (Wr.downS Wr.lstS (Wr.headS Wr.lstS s g).1 (Wr.headG g (Wr.headS Wr.lstS s g)) zr z).1.length := by
  obtain ⟨a, ha⟩ : ∃ a, Wr.headS Wr.lstS s g = a := ⟨_, rfl⟩
  have h0 : a.1.length = s.length + 2 := by rw [← ha]; simp [Wr.headS, Wr.lstS]
  rw [ha]
  have e : (Wr.downS Wr.lstS a.1 (Wr.headG g a) zr z).1 = Wr.seatsT Wr.lstS (Wr.st (Wr.recS Wr.lstS) (((((a.1 ++ [g.n 13]) ++ [Wr.trade (g.n 14)]) ++ [g.n 15]) ++ [g.n 16]) ++ [(g.recs.2.1 : Int)]) (Wr.pad g.recs.2.1 zr) g.recs.2.1) (fun i => g.n (18 + i)) (fun i => (g.row (1 + i)).2.1) z 4 ++ [g.n 26] := by
    unfold Wr.downS Wr.listR
    dsimp only
    simp only [Wr.lstS, Int.toNat_natCast, Wr.seatsT]
    rfl
  rw [e]
  have h1 := Wr.lst_st (((((a.1 ++ [g.n 13]) ++ [Wr.trade (g.n 14)]) ++ [g.n 15]) ++ [g.n 16]) ++ [(g.recs.2.1 : Int)]) (Wr.pad g.recs.2.1 zr) g.recs.2.1
  have r0 := hr 0 (by omega)
  have r1 := hr 1 (by omega)
  have r2 := hr 2 (by omega)
  have r3 := hr 3 (by omega)
  simp only [Wr.seatsT, List.length_append, Wr.lst_seat] at *
  simp only [List.length_cons, List.length_nil] at *
  omega

end Go.Proofs.Ytiegccdgoemamaa

namespace Go.Proofs.Ytiegccdgoemamaa
open Go.RowKit

theorem Wr.recsB_byte {n : Nat} {zr : Nat → Nat → Int} (h : ∀ i, i < n → Wr.recOk (zr i)) : ∀ x ∈ Wr.recsB n zr, 0 ≤ x ∧ x ≤ 255 := fun x hx => by
  unfold Wr.recsB at hx
  obtain ⟨i, hi, hx⟩ := List.mem_flatMap.1 hx
  obtain ⟨h0, h1, h2, h3, h4⟩ := h i (List.mem_range.1 hi)
  unfold Wr.recB at hx
  split at hx
  · simp only [List.mem_cons, List.not_mem_nil, or_false] at hx
    omega
  · split at hx
    · simp only [List.mem_append, List.mem_cons, List.not_mem_nil, or_false] at hx
      rcases hx with (hx | hx) | hx
      · omega
      · omega
      · exact Wr.bytes_byte x hx
    · simp only [List.mem_append, List.mem_cons, List.not_mem_nil, or_false] at hx
      rcases hx with (hx | hx) | hx | hx
      · omega
      · omega
      · exact Wr.bytes_byte x hx
      · exact Wr.bytes_byte x hx

theorem Wr.recsB_len (zr : Nat → Nat → Int) : ∀ n, (Wr.recsB n zr).length ≤ 10 * n
  | 0 => by simp [Wr.recsB]
  | n + 1 => by
    have h := Wr.recsB_len zr n
    have h2 : (Wr.recB (zr n)).length ≤ 10 := by
      unfold Wr.recB
      split
      · simp
      · split <;> simp [Wr.bytes_len]
    rw [Wr.recsB_more, List.length_append]
    omega

theorem Wr.seatB_byte {n : Int} {len : Nat} {z : Nat → Int} (hz : ∀ i, i < len → 0 ≤ z i ∧ z i ≤ 10) : ∀ x ∈ Wr.seatB n len z, 0 ≤ x ∧ x ≤ 255 := fun x hx => by
  unfold Wr.seatB at hx
  simp only [List.mem_append, List.mem_map, List.mem_range] at hx
  rcases hx with hx | hx | ⟨i, hi, rfl⟩
  · exact Wr.bytes_byte x hx
  · exact Wr.bytes_byte x hx
  · have := hz i hi
    omega

theorem Wr.RecsIn.turn {w y : World} {u : Option Addr × Nat × Nat} {z : Nat → Nat → Int} (h : Wr.RecsIn w u z) (ht : Turn (fun _ => False) w y) : Wr.RecsIn y u z :=
  ⟨h.1, h.2.1, fun i hi => by
    obtain ⟨b, o, h1, h2, h3⟩ := h.2.2.1 i hi
    exact ⟨b, o, h1, Nat.lt_of_lt_of_le h2 ht.size, fun j hj => (ht.cell h2 (fun q => q) _).trans (h3 j hj)⟩, h.2.2.2⟩

theorem Wr.recsIn_of {w : World} {O n : Nat} {Z : Nat → Nat → Int} (h : Wr.Bx w O 50 (n * 5) (Wr.flat Z)) (hn : n ≤ 1048576) (hz : ∀ i j, -9223372036854775808 ≤ Z i j ∧ Z i j ≤ 9223372036854775807) (c : Nat) : Wr.RecsIn w (some ⟨O, 0, none⟩, n, c) Z := by
  refine ⟨hn, (fun e => by cases e), fun i hi => ⟨O, 0, rfl, h.lt, fun j hj => ?_⟩, fun i j _ => hz i j⟩
  rw [show 0 + i * 5 + j = i * 5 + j by omega]
  exact Wr.at5 h i j hi hj

theorem Wr.echo_down (y : World) (G : Wr.G) (zr z : Nat → Nat → Int) (hk : G.n 0 = 3) (hr : ∀ k, -9223372036854775808 ≤ G.n k ∧ G.n k ≤ 9223372036854775807) (h1 : 0 ≤ G.n 1 ∧ G.n 1 ≤ 1073741823) (h2 : 0 ≤ G.n 2 ∧ G.n 2 ≤ 1073741823)
    (hd : Wr.DownOk G zr z) (hrec : Wr.RecsIn y G.recs zr) (hin : ∀ i, i < 4 → Wr.RowIn y (G.row (1 + i)) (z i)) :
    ∃ b Rn, b.length ≤ 1000000 ∧ Rn.length ≤ 100000001 ∧ Wr.Echo y G 3 b Rn := by
  obtain ⟨b, hbe⟩ : ∃ b, b = Wr.bytes (G.n 1) 4 ++ (Wr.bytes (G.n 2) 4 ++ Wr.downB G zr z) := ⟨_, rfl⟩
  have r0 := hd.rows 0 (by omega)
  have r1 := hd.rows 1 (by omega)
  have r2 := hd.rows 2 (by omega)
  have r3 := hd.rows 3 (by omega)
  have hblen : b.length ≤ 1000000 := by
    have q := Wr.recsB_len zr G.recs.2.1
    have q2 := hd.recs.1
    have q0 := r0.1
    have q1 := r1.1
    have q3 := r2.1
    have q4 := r3.1
    rw [hbe]
    simp [Wr.downB, Wr.bytes_len, Wr.seatB] at *
    omega
  have hbyte : ∀ x ∈ (3 : Int) :: b, 0 ≤ x ∧ x ≤ 255 := fun x hx => by
    rcases List.mem_cons.1 hx with rfl | hx
    · decide
    · rw [hbe] at hx
      unfold Wr.downB at hx
      simp only [List.mem_append, List.mem_cons] at hx
      rcases hx with hx | hx | rfl | rfl | hx | hx | hx | hx | hx | hx | hx | hx | hx
      · exact Wr.bytes_byte x hx
      · exact Wr.bytes_byte x hx
      · have := hd.k13; omega
      · have := (Wr.trade_range hd.k14).1; omega
      · exact Wr.bytes_byte x hx
      · exact Wr.bytes_byte x hx
      · exact Wr.bytes_byte x hx
      · exact Wr.recsB_byte hd.recs.2 x hx
      · exact Wr.seatB_byte r0.2 x hx
      · exact Wr.seatB_byte r1.2 x hx
      · exact Wr.seatB_byte r2.2 x hx
      · exact Wr.seatB_byte r3.2 x hx
      · exact Wr.bytes_byte x hx
  have hsame : Wr.DownLike G G zr zr := ⟨rfl, rfl, rfl, rfl, rfl, rfl, rfl, fun _ _ => rfl, fun _ _ => rfl, rfl, fun i hi => ⟨(hd.recs.2 i hi).1, rfl, fun _ => rfl, fun _ => ⟨rfl, rfl⟩, fun _ => rfl⟩⟩
  have he : ∀ (q : Wr.G) Z, q.n 0 = 3 → Wr.DownLike G q zr Z →
      (Wr.downS Wr.encS (Wr.headS Wr.encS ([q.n 0 % 256], 0) q).1 (Wr.headG q (Wr.headS Wr.encS ([q.n 0 % 256], 0) q)) Z z).1 = (3 :: b, 0) := fun q Z q0 hq => by
    rw [q0, Wr.downAll_congr _ z hq (fun t => Wr.enc_says 0 400 2 t _ (by have := hd.recs.1; omega)) (fun t n hn => Wr.enc_says 1 3 1 t n hn), Wr.downAll _ G zr z h1 h2 hd, hbe]
    rfl
  have hlst : ∀ (q : Wr.G) Z, Wr.DownLike G q zr Z → Wr.LstL (Wr.downS Wr.lstS (Wr.headS Wr.lstS [q.n 0] q).1 (Wr.headG q (Wr.headS Wr.lstS [q.n 0] q)) Z z).1 := fun q Z hq => by
    have := (Wr.lst_down [q.n 0] q Z z (by rw [hq.len]; exact hd.recs.1) (fun i hi => by rw [hq.rows i hi]; exact (hd.rows i hi).1)).1
    unfold Wr.LstL
    simp at this
    omega
  obtain ⟨Rn, hRn⟩ : ∃ Rn, Rn = (Wr.downS Wr.lstS (Wr.headS Wr.lstS [3] G).1 (Wr.headG G (Wr.headS Wr.lstS [3] G)) zr z).1 := ⟨_, rfl⟩
  have hRl := Wr.lst_down [3] G zr z hd.recs.1 (fun i hi => (hd.rows i hi).1)
  rw [← hRn, List.length_singleton] at hRl
  refine ⟨b, Rn, hblen, by omega, ⟨⟨fun y1 ht => ?_, fun y1 ht => ?_⟩, (fun e => by rw [e, List.length_nil] at hRl; omega), hbyte, fun y1 Gs ob o C hs => ?_⟩⟩
  · have q := wTold_down G zr z y1 hk hr (hrec.turn ht) (fun i hi => (hin i hi).turn ht) (hlst G zr hsame)
    rw [hk, ← hRn] at q
    exact q
  · have q := wEncode_down G zr z y1 hk hr (hrec.turn ht) (fun i hi => (hin i hi).turn ht)
    rw [he G zr hk hsame] at q
    exact q
  · have q := wParse_down Gs ob o C b y1 hs
    have hp : Wr.headP 3 b = ((Wr.downB G zr z, 0), G.n 1, G.n 2) := by
      unfold Wr.headP
      rw [hbe]
      exact Wr.headR _ _ _ _ h1 h2
    obtain ⟨m, Z, S, hu, hm, hlike, hZ, hS⟩ := Wr.downR [] G (Wr.kindP 3 b) zr (fun _ _ => 0) z (fun _ _ => 0) hd
    subst hm
    have hZr := hZ (fun _ _ => ⟨by decide, by decide⟩)
    have hup : Wr.downP b = (([], 0), G.n 13, G.n 14, G.n 15, G.n 16, (G.recs.2.1, Z), S, G.n 26) := by
      unfold Wr.downP
      rw [hp]
      rw [List.append_nil] at hu
      exact hu
    rw [hup] at q
    refine q.mono ?_
    rintro e w' h
    obtain ⟨ht, u, u', M, Gm, rfl, -, hM, hX, hT⟩ := Wr.Parsed.ok h
    unfold Wr.DownX at hX
    rw [hup] at hX
    unfold Wr.kindP Wr.downG at hX
    rw [hp] at hX
    dsimp only at hX
    obtain ⟨O, Os, hX, hO, hbx, hcells⟩ := hX
    have hbx' := hbx.turn hT (by omega)
    have hrec' : Wr.RecsIn w' Gm.recs Z := by
      rw [hX]
      exact Wr.recsIn_of hbx' (by have := hd.recs.1; omega) hZr _
    have hrow : ∀ i, i < 4 → Wr.RowIn w' (Gm.row (1 + i)) (z i) := fun i hi => by
      obtain ⟨c1, c2⟩ := hcells i hi
      unfold Wr.rowObj at c2
      rw [hS i hi] at c2
      dsimp only at c2
      have q1 : w'.heap[Os i]? = u'.heap[Os i]? := hT.block (Os i) (Array.getElem?_eq_some_iff.1 c2).1 (by omega)
      have q2 := Wr.rowIn_of (q1.trans c2) (by have := (hd.rows i hi).1; omega) (hd.rows i hi).2 (G.row (1 + i)).2.1
      have q3 : Gm.row (1 + i) = (some ⟨Os i, 0, none⟩, (G.row (1 + i)).2.1, (G.row (1 + i)).2.1) := by
        rw [hX]
        simp [Wr.G.seats, Wr.G.num, Wr.G.set17, Wr.seatU, hS i hi, show 1 + i < 1 + 4 by omega, show 1 + i - 1 = i by omega]
      rw [q3]
      exact q2
    have m0 : Gm.n 0 = 3 := by rw [hX]; rfl
    have mf : ∀ i, i < 4 → Gm.n (18 + i) = G.n (18 + i) := fun i hi => by
      have q : Gm.n (18 + i) = (S i).1 := by
        rw [hX]
        rcases (show i = 0 ∨ i = 1 ∨ i = 2 ∨ i = 3 by omega) with rfl | rfl | rfl | rfl <;> rfl
      rw [q, hS i hi]
    have hlk : Wr.DownLike G Gm zr Z := ⟨by rw [hX]; rfl, by rw [hX]; rfl, by rw [hX]; rfl, by rw [hX]; rfl, by rw [hX]; rfl, by rw [hX]; rfl, by rw [hX]; rfl, mf, fun i hi => by
      have q3 : (Gm.row (1 + i)).2.1 = (S i).2.length := by
        rw [hX]
        rcases (show i = 0 ∨ i = 1 ∨ i = 2 ∨ i = 3 by omega) with rfl | rfl | rfl | rfl <;> rfl
      rw [q3, hS i hi]
      simp, by rw [hX]; rfl, fun i hi => ⟨(hd.recs.2 i hi).1, hlike i hi⟩⟩
    have mr : ∀ k, -9223372036854775808 ≤ Gm.n k ∧ Gm.n k ≤ 9223372036854775807 := fun k => by
      by_cases kf : 18 ≤ k ∧ k < 22
      · obtain ⟨i, rfl⟩ : ∃ i, k = 18 + i := ⟨k - 18, by omega⟩
        rw [mf i (by omega)]
        exact hr _
      · by_cases k1 : k = 1
        · rw [k1, hlk.n1]; exact hr 1
        · by_cases k2 : k = 2
          · rw [k2, hlk.n2]; exact hr 2
          · by_cases k13 : k = 13
            · rw [k13, hlk.n13]; exact hr 13
            · by_cases k14 : k = 14
              · rw [k14, hlk.n14]; exact hr 14
              · by_cases k15 : k = 15
                · rw [k15, hlk.n15]; exact hr 15
                · by_cases k16 : k = 16
                  · rw [k16, hlk.n16]; exact hr 16
                  · by_cases k26 : k = 26
                    · rw [k26, hlk.n26]; exact hr 26
                    · have q : Gm.n k = (Wr.G.kind 3).n k := by
                        rw [hX]
                        simp [Wr.G.seats, Wr.G.num, Wr.G.set17, Wr.headG, Wr.upd, k1, k2, k13, k14, k15, k16, k26, show ¬ (18 ≤ k ∧ k < 18 + 4) by omega]
                      rw [q]
                      exact Wr.kind_ok (by decide) k
    refine ⟨ht, Gm, rfl, ⟨fun y2 ht2 => ?_, fun y2 ht2 => ?_⟩, ?_⟩
    · have q := wTold_down Gm Z z y2 m0 mr (hrec'.turn ht2) (fun i hi => (hrow i hi).turn ht2) (hlst Gm Z hlk)
      rw [m0, Wr.downAll_congr [3] z hlk (fun _ => rfl) (fun _ _ _ => rfl), ← hRn] at q
      exact q
    · have q := wEncode_down Gm Z z y2 m0 mr (hrec'.turn ht2) (fun i hi => (hrow i hi).turn ht2)
      rw [he Gm Z m0 hlk] at q
      exact q
    · rw [hX]
      exact ⟨fun h => absurd h (by decide), fun h => absurd h (by decide), fun _ => ⟨rfl, rfl⟩⟩

end Go.Proofs.Ytiegccdgoemamaa
