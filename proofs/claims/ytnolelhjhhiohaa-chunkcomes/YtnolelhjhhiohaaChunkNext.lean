/-
  The project's Next.
-/
import Derived.Test.YtnolelhjhhiohaaChunkSend
namespace Go.Proofs.Ytnolelhjhhiohaa
open Go.RowKit

/-- Next on its way. -/
structure Ck.Wy (w x : World) (p n : Nat) (had : Nat → Bool) (fr : Nat) (m : Int) (v : Value) (k : Nat) : Prop where
  own : x.ownsRow w.heap.size 3 1 v (Ck.nx n had fr m k).1.length (Ck.nums (Ck.nx n had fr m k).1)
  snd : Ck.Mnd x p n had (Ck.nx n had fr m k).2
  turn : Turn (fun i => i = p) w x

/-- One more is told. -/
theorem Ck.Wy.more {w x y z : World} {p n : Nat} {had : Nat → Bool} {fr : Nat} {m : Int} {v v' : Value} {k : Nat} (H : Ck.Wy w x p n had fr m v k) (hp : p < w.heap.size) (h1 : ((Ck.nx n had fr m k).1.length : Int) < m) (h2 : had ((fr + k) % n) = false) (hxy : x.grownBy y none) (hown : z.ownsRow w.heap.size 3 1 v' ((Ck.nx n had fr m k).1.length + 1) (Ck.nums (Ck.nx n had fr m k).1 ++ [.int .i64 (((fr + k) % n : Nat) : Int)])) (hg : y.grownBy z v.ownBlock) :
    Ck.Mnd z p n had (Ck.nx n had fr m k).2 ∧ Ck.Wy w (z.setCell ⟨p, 2, none⟩ (.int .i64 ((((fr + k) % n + 1) % n : Nat) : Int))) p n had fr m v' (k + 1) := by
  have hb : ∀ i, v.ownBlock = some i → w.heap.size ≤ i := fun i e => (H.own.lt i e).1
  have t1 : Turn (fun i => w.heap.size ≤ i) x z := (Turn.new hxy).trans (C := fun i => v.ownBlock = some i) (Turn.grown hg (fun i e => e)) (fun i _ e => hb i e)
  have s1 := H.snd.turn t1 (by omega)
  have t2 : Turn (fun i => i = p) w z := H.turn.trans t1 (fun i hi q => absurd hi (Nat.not_lt_of_le q))
  refine ⟨s1, ?_⟩
  have hn : 0 < n := H.snd.n1
  refine ⟨?_, ?_, t2.store p 2 _ rfl⟩
  · rw [Ck.nx_yes h1 h2]
    show World.ownsRow _ _ _ _ _ ((Ck.nx n had fr m k).1 ++ [(fr + k) % n]).length (Ck.nums ((Ck.nx n had fr m k).1 ++ [(fr + k) % n]))
    rw [List.length_append]
    unfold Ck.nums
    rw [List.map_append]
    refine hown.kept (row := some p) ⟨rfl, rfl, rfl, by simp, fun k _ hk => heap_setCell_other _ ⟨p, 2, none⟩ k _ (fun e => hk (by rw [e]))⟩ (.inr fun e => ?_)
    have := (hown.lt p e).1
    omega
  · rw [Ck.nx_yes h1 h2]
    exact s1.goes (Nat.mod_lt _ hn)

theorem Ck.Wy.less {w x : World} {p n : Nat} {had : Nat → Bool} {fr : Nat} {m : Int} {v : Value} {k : Nat} (H : Ck.Wy w x p n had fr m v k) (h2 : had ((fr + k) % n) = true) : Ck.Wy w x p n had fr m v (k + 1) := by
  obtain ⟨h1, h3, h4⟩ := H
  refine ⟨?_, ?_, h4⟩ <;> rw [Ck.nx_no h2] <;> assumption

/-- What Next answers. -/
def Ck.Tells (w : World) (p n : Nat) (had : Nat → Bool) (fr : Nat) (m : Int) (e : Ending) (w' : World) : Prop :=
  ∃ v, e = .returned v ∧ w'.ownsRow w.heap.size 3 1 v (Ck.next n had fr m).length (Ck.nums (Ck.next n had fr m)) ∧ Ck.Mnd w' p n had (Ck.goes n had fr m) ∧ Turn (fun i => i = p) w w'

set_option maxRecDepth 4000 in
set_option maxHeartbeats 1600000 in
theorem ckNext_any (p n : Nat) (had : Nat → Bool) (fr : Nat) (m : Int) (w : World) (H : Ck.Mnd w p n had fr) :
    Calls Try.prog 16 #[.pointer (some ⟨p, 0, none⟩), .int .i64 m] w (Ck.Tells w p n had fr m) := by
  have hlp := hide H.box.lt
  have h16 := hide H.n16
  have h01 := hide H.n1
  have hn : (n : Int) ≤ 16 := by have := unhide h16; omega
  have hn1 : (1 : Int) ≤ (n : Int) := by have := unhide h01; omega
  have hfr := hide H.lt
  have hfr1 : (fr : Int) < (n : Int) := by have := unhide hfr; omega
  have H0 : Hid (Ck.Wy w w p n had fr m (.slice none 0 0) 0) := ⟨World.ownsRow_nil _ _ _ _, H, Turn.refl _ _⟩
  obtain ⟨c0, c1, c2, f0⟩ := H.cells
  obtain ⟨i0, hi, hz0, hz1, hz2⟩ := info_parts info_int
  have hpost : Hid (∀ v x k, Ck.Wy w x p n had fr m v k → Ck.nx n had fr m n = Ck.nx n had fr m k → Ck.Tells w p n had fr m (.returned v) x) := fun v x k hx e => by
    refine ⟨v, rfl, ?_, ?_, hx.turn⟩
    · unfold Ck.next; rw [e]; exact hx.own
    · unfold Ck.goes; rw [e]; exact hx.snd
  obtain ⟨D, hD⟩ : ∃ D, Ck.Tells w p n had fr m = D := ⟨_, rfl⟩
  rw [hD] at hpost ⊢
  obtain ⟨z, hz⟩ : ∃ z, Ck.num (fun i => !had i) n = z := ⟨_, rfl⟩
  have hbit : Hid (∀ i, i < n → Ck.bit z i = !had i) := fun i hi => by
    rw [← hz, Ck.bit_num_at _ (unhide h16)]
    simp [hi]
  have HZ := hide hz
  rw [hz] at c1
  clear hD H hz
  go_enter Try.func16, Try.ntmps16
  go_wp2_with fail
  go_step3
  go_wp2_with fail
  go_step3
  go_wp2_with fail
  go_loopw [5, 7, 8, 17] (fun v5 v7 v8 v17 wr => ∃ k : Nat, k ≤ n ∧ v17 = .int .i64 (k : Int) ∧ Hid (Ck.Wy w wr p n had fr m v5 k)) (fun _ _ _ v17 _ => 20 - (intOf v17).toNat)
  case atStart => exact ⟨0, Nat.zero_le _, rfl, H0⟩
  case round =>
    clear H0 c0 c1 c2 f0
    obtain ⟨k, hk, rfl, hX⟩ := hrel
    obtain ⟨c0, c1, c2, f0⟩ := (unhide hX).snd.cells
    rw [unhide HZ] at c1
    have hlen : Hid ((Ck.nx n had fr m k).1.length ≤ k) := Ck.nx_len n had fr m k
    have hfm : ∃ a cap, u5 = .slice a (Ck.nx n had fr m k).1.length cap := by
      rcases (unhide hX).own.2 with ⟨rfl, h0⟩ | ⟨g, cap, cur, rfl, _⟩
      · exact ⟨none, 0, by rw [h0]⟩
      · exact ⟨_, _, rfl⟩
    obtain ⟨a, cap, rfl⟩ := hfm
    obtain ⟨l, hl⟩ : ∃ l, (Ck.nx n had fr m k).1.length = l := ⟨_, rfl⟩
    have Hl := hide hl
    by_cases hlt : k < n
    · have hlt' : (k : Int) < (n : Int) := by omega
      have HL := hide hlt
      obtain ⟨i, hie⟩ : ∃ i, (fr + k) % n = i := ⟨_, rfl⟩
      have Hi := hide hie
      have hin : Hid (i < n) := by show i < n; rw [← hie]; exact Nat.mod_lt _ (unhide h01)
      have hin1 : (i : Int) < (n : Int) := by have := unhide hin; omega
      have hi2 : ((fr : Int) + (k : Int)) % (n : Int) = (i : Int) := by rw [← hie]; simp
      by_cases hlm : ((Ck.nx n had fr m k).1.length : Int) < m
      · have HM := hide hlm
        rw [hl] at hlm ⊢
        have hlm2 : ¬ m ≤ (l : Int) := by omega
        obtain ⟨b, hb⟩ : ∃ b, had i = b := ⟨_, rfl⟩
        have Hb := hide hb
        have cH := hide (ckHas_any z i wr (by have := unhide hin; have := unhide h16; omega))
        rw [unhide hbit i (unhide hin), hb] at cH
        clear hl hlt hk hie hb
        cases b with
        | true =>
          have hX2 := hide ((unhide hX).less (by rw [unhide Hi]; exact unhide Hb))
          rw [unhide Hl] at hX2
          go_wp2_with fail
          refine (unhide cH).mono ?_
          rintro e wq ⟨rfl, hq⟩
          obtain rfl : wr = wq := hq.symm
          go_wp2_with fail
          go_roundw
          case rel => exact ⟨k + 1, by have := unhide HL; omega, by go_num, hX2⟩
          case measure => simp [intOf]; have := unhide HL; have := unhide h16; omega
        | false =>
          have hmo : Hid (∀ z v', wr.grownBy (wr.alloc (.cells #[.int .i64 (i : Int)] 3)) none → z.ownsRow w.heap.size 3 1 v' (l + 1) (Ck.nums (Ck.nx n had fr m k).1 ++ [.int .i64 (i : Int)]) → (wr.alloc (.cells #[.int .i64 (i : Int)] 3)).grownBy z (Value.slice a l cap).ownBlock → Ck.Mnd z p n had (Ck.nx n had fr m k).2 ∧ Ck.Wy w (z.setCell ⟨p, 2, none⟩ (.int .i64 (((i + 1) % n : Nat) : Int))) p n had fr m v' (k + 1)) := fun z v' q1 q2 q3 => by
            have h := unhide hX
            rw [unhide Hl] at h
            have r := h.more (unhide hlp) (unhide HM) (by rw [unhide Hi]; exact unhide Hb) q1 (by rw [unhide Hl, unhide Hi]; exact q2) q3
            rw [unhide Hi] at r
            exact r
          have hX1 := hide (unhide hX).own
          rw [unhide Hl] at hX1
          have hsz := hide (unhide hX).turn.size
          obtain ⟨ns, hns⟩ : ∃ ns, Ck.nums (Ck.nx n had fr m k).1 = ns := ⟨_, rfl⟩
          rw [hns] at hX1 hmo
          have hll : l ≤ 16 := by have := unhide hlen; have := unhide HL; have := unhide h16; have := unhide Hl; omega
          obtain ⟨j, hj⟩ : ∃ j, (i + 1) % n = j := ⟨_, rfl⟩
          have hi3 : ((i : Int) + 1) % (n : Int) = (j : Int) := by rw [← hj]; simp
          rw [hj] at hmo
          clear hj
          clear hns hX c2
          go_wp2_with fail
          refine (unhide cH).mono ?_
          rintro e wq ⟨rfl, hq⟩
          obtain rfl : wr = wq := hq.symm
          go_wp2_with (at_builtin; refine wpList_append_own _ rfl _ _ 31 rfl w.heap.size 3 i0 (.int .i64 0) 1 8 Try.underlying31 hi hz0 hz1 hz2 rfl (by decide) _ _ _ rfl ((unhide hX1).alloc _) ⟨wr.heap.size, 0, none⟩ 1 1 [.int .i64 (i : Int)] rfl rfl (Ck.news wr _ _) ?_ ?_ ?_ ?_ ?_)
          · first | rfl | (intro u hu; simp only [List.mem_cons, List.not_mem_nil, or_false] at hu; rcases hu with rfl; rfl) | simp [Value.oneCell']
          · first | (unfold maxLen; omega) | (unfold maxLen; simp; omega)
          · omega
          · have := unhide hsz; first | omega | (simp; omega)
          intro v4 w4 hown hgrow _
          have hW4 := hide (unhide hmo w4 v4 (World.grownBy_alloc _ _ _) hown hgrow)
          obtain ⟨d0, d1, d2, g0⟩ := (unhide hW4).1.cells
          clear hown hgrow hmo
          go_wp2_with fail
          go_roundw
          case rel => exact ⟨k + 1, by have := unhide HL; omega, by go_num, (unhide hW4).2⟩
          case measure => simp [intOf]; have := unhide HL; have := unhide h16; omega
      · have hfin := hide (unhide hpost _ _ _ (unhide hX) (by have e := Ck.nx_full hlm (n - k); rwa [show k + (n - k) = n by omega] at e))
        rw [hl] at hlm hfin ⊢
        have hlm2 : m ≤ (l : Int) := by omega
        clear hl hlt hk
        go_wp2
        exact unhide hfin
    · have hge : ¬ (k : Int) < (n : Int) := by omega
      have hfin := hide (unhide hpost _ _ _ (unhide hX) (by rw [show n = k by omega]))
      rw [hl] at hfin ⊢
      clear hl hlt hk
      go_wp2
      exact unhide hfin

end Go.Proofs.Ytnolelhjhhiohaa
