/-
  The project's Whole: slices.Grow, slices.Concat.
-/
import Derived.Test.YtnolelhjhhiohaaChunkTaker
import Derived.Laws.AppendOwnNone
namespace Go.Proofs.Ytnolelhjhhiohaa
open Go.RowKit

/-- n zeros behind no list. -/
theorem run_append_zeros {P : Program} (w : World) (t u ty e : TypeId) (i : TypeInfo) (z : Value) (k : IntKind) (ht : P.underlying t = some (.slice e)) (hu : P.underlying u = some (.int k)) (hi : P.info? e = some i) (hz : i.zero = some z) (h1 : i.size = 1) (hb : i.bytes = 1) (n : Nat) (h0 : 0 < n) (h2 : n ≤ 100000) :
    (Builtin.append_ #[t, u] ty #[.slice none 0 0, .int .i64 (n : Int)]).run P w = .ok (.slice (some ⟨w.heap.size, 0, none⟩) n (grownCap w n 0 e)) (w.drew.alloc (.cells (Builtin.zeroCells z.cells n ++ Builtin.zeroCells z.cells (grownCap w n 0 e - n)) e)) := by
  have hn : n ≠ 0 := by omega
  have hw : IntKind.i64.wrap (n : Int) = (n : Int) := by simp [IntKind.wrap, IntKind.bits, IntKind.signed]; omega
  have h63' : ¬ (9223372036854775807 < (n : Int)) := by omega
  have hneg : ¬ ((n : Int) < 0) := by omega
  have h48 : ¬ (281474976710656 < (n : Int)) := by omega
  have h48' : ¬ (281474976710656 < Builtin.nextslicecap n 0) := by rw [nextslicecap_zero h0]; omega
  simp [Builtin.append_, run_underlying ht, run_underlying hu, sizeOf, typeInfo, zeroValue, hi, hz, h1, hb, asInt, asIntOf, hw, hneg, h48, hn, h63', h48', Question.forced, run_firstCells_none, newRow, grownCap]

theorem wpList_append_run {P : Program} {w y : World} {ops : Array Oper} {rest : List Oper} {o : Oper} {a : Act} {Q : Exit → Act → World → Prop} (hgd : o.guard = none) (s x : Operand) (t u : TypeId)
    (ho : o.op = .call { callee := .builtin .append, args := #[s, x], argTypes := #[t, u] }) (v1 v2 v : Value) (hs : a.eval s = v1) (hx : a.eval x = v2) (hrun : (Builtin.append_ #[t, u] o.type #[v1, v2]).run P w = .ok v y)
    (h : wpList P ops Q rest (a.put o.dst v) y) : wpList P ops Q (o :: rest) a w := by
  refine wpList_plain hgd fun K hK => ?_
  unfold Oper.wp
  simp [execOp, ho, resolve, invoke, builtin, hs, hx, hrun, Result.andThen]
  exact hK _ _ h

theorem ckGrow_any (n : Nat) (w : World) (h : n ≤ 1024) :
    Calls Try.prog 34 #[.slice none 0 0, .int .i64 (n : Int)] w fun e w' => ∃ v, e = .returned v ∧ w'.ownsRow w.heap.size 5 1 v 0 [] ∧ w.grownBy w' none := by
  obtain ⟨i0, hi, hz0, hz1, hz2⟩ := info_parts info_by
  have g0 : ¬ (n : Int) < 0 := by omega
  have g1 : (n : Int) ≤ 1024 := by omega
  by_cases h0 : 0 < n
  · have g2 : (0 : Int) < (n : Int) := by omega
    have hrun := run_append_zeros (P := Try.prog) w 22 3 22 5 i0 (.int .u8 0) .i64 Try.underlying22 Try.underlying3 hi hz0 hz1 hz2 n h0 (by omega)
    have hge := grownCap_ge w n 0 5
    have hle := grownCap_le_maxLen w n 0 5 (by unfold maxLen; omega)
    have hzs : ∀ m, (Builtin.zeroCells (Value.int .u8 0).cells m).size = m := fun m => by rw [size_zeroCells]; exact Nat.mul_one m
    obtain ⟨cs, hcs⟩ : ∃ cs, Builtin.zeroCells (Value.int .u8 0).cells n ++ Builtin.zeroCells (Value.int .u8 0).cells (grownCap w n 0 5 - n) = cs := ⟨_, rfl⟩
    have hsz : Hid (cs.size = grownCap w n 0 5 * 1) := by
      show cs.size = _
      rw [← hcs, Array.size_append, hzs, hzs]
      omega
    rw [hcs] at hrun
    obtain ⟨cp, hcp⟩ : ∃ cp, grownCap w n 0 5 = cp := ⟨_, rfl⟩
    rw [hcp] at hrun hsz hge hle
    have Hle := hide hle
    have hge' : (n : Int) ≤ (cp : Int) := by omega
    have hle' : (cp : Int) ≤ 9223372036854775807 := by unfold maxLen at hle; omega
    obtain ⟨y, hy⟩ : ∃ y, w.drew.alloc (.cells cs 5) = y := ⟨_, rfl⟩
    have hfin : Hid (y.ownsRow w.heap.size 5 1 (.slice (some ⟨w.heap.size, 0, none⟩) 0 cp) 0 [] ∧ w.grownBy y none) := by
      show _ ∧ _
      rw [← hy]
      refine ⟨⟨rfl, .inr ⟨w.heap.size, cp, cs, rfl, Nat.le_refl _, heap_alloc_new w.drew _, Nat.zero_le _, unhide Hle, unhide hsz, rfl⟩⟩, ?_⟩
      exact grown_alloc (grown_drew (World.grownBy.refl w none) 1) _
    rw [hy] at hrun
    have HR := hide hrun
    clear hrun
    clear hcs hcp hzs hle hge hy
    go_enter Try.func34, Try.ntmps34
    go_wp2_with (at_builtin; refine wpList_append_run rfl _ _ 22 3 rfl _ _ _ rfl rfl (unhide HR) ?_)
    go_wp2
    go_ret
    exact ⟨_, rfl, unhide hfin⟩
  · obtain rfl : n = 0 := by omega
    go_enter Try.func34, Try.ntmps34
    go_wp2
    go_ret
    exact ⟨_, rfl, World.ownsRow_nil _ _ _ _, World.grownBy.refl _ _⟩

/-- Rows of bytes that lie in a block, one behind the other. -/
structure Ck.Rws (x : World) (p off n : Nat) (L : Nat → List Int) (V : Nat → Value) : Prop where
  cell : ∀ i, i < n → x.cell? ⟨p, off + i, none⟩ = some (V i)
  src : ∀ i, i < n → Ck.Src x (V i) (L i)
  len : ∀ i, i < n → (L i).length ≤ 64

theorem Ck.Rws.on {x y : World} {p off n : Nat} {L : Nat → List Int} {V : Nat → Value} (H : Ck.Rws x p off n L V) (hg : x.grownBy y none) : Ck.Rws y p off n L V :=
  ⟨fun i hi => (World.cell?_of_block (hg.block _ (Go.block_lt_of_cell (H.cell i hi)) (by simp))).trans (H.cell i hi), fun i hi => (H.src i hi).on fun ad u q => (World.cell?_of_block (hg.block _ (Go.block_lt_of_cell q) (by simp))).trans q, H.len⟩

structure Ck.Cat (w x : World) (L : Nat → List Int) (v : Value) (k : Nat) : Prop where
  own : x.ownsRow w.heap.size 5 1 v (Ck.cat L k).length (Ck.bys (Ck.cat L k))
  bel : w.grownBy x none

theorem Ck.Cat.more {w x y : World} {L : Nat → List Int} {v v' : Value} {k : Nat} (H : Ck.Cat w x L v k) (hown : y.ownsRow w.heap.size 5 1 v' ((Ck.cat L k).length + (L k).length) (Ck.bys (Ck.cat L k) ++ Ck.bys (L k))) (hg : x.grownBy y v.ownBlock) : Ck.Cat w y L v' (k + 1) := by
  refine ⟨?_, grown_own H.bel hg (fun i e => (H.own.lt i e).1)⟩
  show y.ownsRow _ _ _ _ (Ck.cat L k ++ L k).length (Ck.bys (Ck.cat L k ++ L k))
  rw [List.length_append, Ck.bys_append]
  exact hown

set_option maxRecDepth 4000 in
set_option maxHeartbeats 1600000 in
theorem ckConcat_any (p off n cap : Nat) (L : Nat → List Int) (V : Nat → Value) (w : World) (H : Ck.Rws w p off n L V) (h1 : 1 ≤ n) (h16 : n ≤ 16) :
    Calls Try.prog 33 #[.slice (some ⟨p, off, none⟩) n cap] w fun e w' => ∃ v, e = .returned v ∧ Ck.Cat w w' L v n := by
  have h16' : (n : Int) ≤ 16 := by omega
  have HN := hide (And.intro h1 h16)
  have H0 := hide H
  obtain ⟨i0, hi, hz0, hz1, hz2⟩ := info_parts info_by
  obtain ⟨D, hD⟩ : ∃ D : Ending → World → Prop, (fun e w' => ∃ v, e = .returned v ∧ Ck.Cat w w' L v n) = D := ⟨_, rfl⟩
  have hpost : Hid (∀ v x, Ck.Cat w x L v n → D (.returned v) x) := fun v x h => by rw [← hD]; exact ⟨v, rfl, h⟩
  rw [hD]
  clear H h1 h16 hD
  go_enter Try.func33, Try.ntmps33
  go_wp2_with fail
  go_loop [3, 5, 11] (fun v3 v5 v11 => ∃ k : Nat, k ≤ n ∧ v11 = .int .i64 (k : Int) ∧ v3 = .int .i64 ((Ck.cat L k).length : Int)) (fun _ _ v11 => 20 - (intOf v11).toNat)
  case atStart => exact ⟨0, Nat.zero_le _, rfl, rfl⟩
  case round =>
    obtain ⟨k, hk, rfl, rfl⟩ := hrel
    have hcl := hide (Ck.cat_len (L := L) (k := k) (fun i hi => (unhide H0).len i (by omega)))
    by_cases hlt : k < n
    · have hlt' : (k : Int) < (n : Int) := by omega
      have HL := hide hlt
      have hck := (unhide H0).cell k hlt
      have hll := hide ((unhide H0).len k hlt)
      obtain ⟨a, c, hv⟩ : ∃ a c, V k = .slice a (L k).length c := by
        rcases (unhide H0).src k hlt with ⟨e1, e2⟩ | ⟨ad, c, e, _⟩
        · exact ⟨none, 0, by rw [e1, e2]; rfl⟩
        · exact ⟨_, c, e⟩
      rw [hv] at hck
      have hmo : Hid ((Ck.cat L (k + 1)).length = (Ck.cat L k).length + (L k).length) := by
        show (Ck.cat L k ++ L k).length = _
        rw [List.length_append]
      obtain ⟨nl, hnl⟩ : ∃ nl, (L k).length = nl := ⟨_, rfl⟩
      obtain ⟨nc, hnc⟩ : ∃ nc, (Ck.cat L k).length = nc := ⟨_, rfl⟩
      rw [hnl] at hck hmo hll
      rw [hnc] at hmo hcl ⊢
      clear hv hnl hnc hlt hk
      have b1 : (nl : Int) ≤ 64 := by have := unhide hll; omega
      have b2 : (nc : Int) ≤ 1024 := by have := unhide hcl; have := unhide HL; have := unhide HN; omega
      have b3 : ¬ (nc : Int) + (nl : Int) < 0 := by omega
      go_wp2
      go_round
      case rel => exact ⟨k + 1, by have := unhide HL; omega, by go_num, by rw [unhide hmo]; go_num⟩
      case measure => simp [intOf]; have := unhide HL; have := unhide HN; omega
    · obtain rfl : n = k := by omega
      have hge : ¬ (n : Int) < (n : Int) := by omega
      obtain ⟨nc, hnc⟩ : ∃ nc, (Ck.cat L n).length = nc := ⟨_, rfl⟩
      rw [hnc] at hcl ⊢
      have cG := hide (ckGrow_any nc w (by have := unhide hcl; have := unhide HN; omega))
      clear hlt hk hnc
      go_wp2_with fail
      refine (unhide cG).mono ?_
      rintro e w1 ⟨v6, rfl, hown, hg⟩
      have hC : Hid (Ck.Cat w w1 L v6 0) := ⟨hown, hg⟩
      obtain ⟨a6, cp6, rfl⟩ : ∃ a c, v6 = .slice a 0 c := by
        rcases hown.2 with ⟨rfl, _⟩ | ⟨g, cap, cur, rfl, _⟩
        · exact ⟨none, 0, rfl⟩
        · exact ⟨_, _, rfl⟩
      clear hown hg cG
      go_wp2_with fail
      go_loopw [6, 8, 27] (fun v6 v8 v27 wr => ∃ k : Nat, k ≤ n ∧ v27 = .int .i64 (k : Int) ∧ Hid (Ck.Cat w wr L v6 k)) (fun _ _ v27 _ => 20 - (intOf v27).toNat)
      case atStart => exact ⟨0, Nat.zero_le _, rfl, hC⟩
      case round =>
        clear hC
        obtain ⟨k, hk, rfl, hX⟩ := hrel
        by_cases hlt : k < n
        · have hlt' : (k : Int) < (n : Int) := by omega
          have HL := hide hlt
          have hRw := (unhide H0).on (unhide hX).bel
          have hck := hRw.cell k hlt
          have hsr := hRw.src k hlt
          have hll := hide (hRw.len k hlt)
          have hcl2 := hide (Ck.cat_len (L := L) (k := k) (fun i hi => (unhide H0).len i (by omega)))
          have hsz := hide (unhide hX).bel.size
          have hX1 := hide (unhide hX).own
          have hmo := hide (fun y v' h1 h2 => (unhide hX).more (y := y) (v' := v') h1 h2)
          have hsame : Hid (L k = [] → Ck.Cat w wr L u6 (k + 1)) := fun e => by
            obtain ⟨q1, q2⟩ := unhide hX
            refine ⟨?_, q2⟩
            show wr.ownsRow _ _ _ _ (Ck.cat L k ++ L k).length (Ck.bys (Ck.cat L k ++ L k))
            rw [e, List.append_nil]
            exact q1
          obtain ⟨nc', hnc'⟩ : ∃ nc, (Ck.cat L k).length = nc := ⟨_, rfl⟩
          obtain ⟨cs, hcs⟩ : ∃ cs, Ck.bys (Ck.cat L k) = cs := ⟨_, rfl⟩
          rw [hnc'] at hmo hcl2 hX1
          rw [hcs] at hmo hX1
          obtain ⟨a, c, hu6⟩ : ∃ a c, u6 = .slice a nc' c := by
            rcases (unhide hX1).2 with ⟨e1, e2⟩ | ⟨g, c, cur, e, _⟩
            · exact ⟨none, 0, by rw [e1, e2]⟩
            · exact ⟨_, c, e⟩
          clear hlt hk hnc' hcs hX hRw
          have hc64 : nc' ≤ 1024 := by have := unhide hcl2; have := unhide HL; have := unhide HN; omega
          rcases hsr with ⟨e1, e2⟩ | ⟨ad, c2, e, hcel⟩
          · rw [e1] at hck
            have hfin := hide (unhide hsame e2)
            clear e1 e2 hmo hsame
            subst hu6
            go_wp2_with (at_builtin; refine wpList_append_own_none rfl _ _ 22 rfl w.heap.size 5 i0 1 Try.underlying22 hi _ _ _ rfl (unhide hX1) rfl ?_)
            go_wp2_with fail
            go_roundw
            case rel => exact ⟨k + 1, by have := unhide HL; omega, by go_num, hfin⟩
            case measure => simp [intOf]; have := unhide HL; have := unhide HN; omega
          · rw [e] at hck
            have hl1 : (Ck.bys (L k)).length = (L k).length * 1 := by unfold Ck.bys; simp
            have hnew := hide hcel
            obtain ⟨nl, hnl⟩ : ∃ nl, (L k).length = nl := ⟨_, rfl⟩
            obtain ⟨ys, hys⟩ : ∃ ys, Ck.bys (L k) = ys := ⟨_, rfl⟩
            have hone : Hid (∀ u ∈ ys, u.oneCell' = true) := fun u hu => by
              rw [← hys] at hu
              obtain ⟨z, -, rfl⟩ := List.mem_map.1 hu
              rfl
            rw [hnl] at hck hl1 hmo hll
            rw [hys] at hnew hl1 hmo
            clear e hcel hnl hys hsame
            have hn64 : nl ≤ 64 := unhide hll
            subst hu6
            go_wp2_with (at_builtin; refine wpList_append_own _ rfl _ _ 22 rfl w.heap.size 5 i0 (.int .u8 0) 1 1 Try.underlying22 hi hz0 hz1 hz2 rfl (by decide) _ _ _ rfl (unhide hX1) ad nl c2 ys rfl hl1 (unhide hnew) (unhide hone) ?_ ?_ ?_ ?_)
            · unfold maxLen; omega
            · omega
            · exact unhide hsz
            intro v6 w6 hown hgrow _
            have hX6 := hide (unhide hmo w6 v6 hown hgrow)
            clear hown hgrow
            go_wp2_with fail
            go_roundw
            case rel => exact ⟨k + 1, by have := unhide HL; omega, by go_num, hX6⟩
            case measure => simp [intOf]; have := unhide HL; have := unhide HN; omega
        · obtain rfl : n = k := by omega
          have hge : ¬ (n : Int) < (n : Int) := by omega
          have hd := hide (unhide hpost _ _ (unhide hX))
          obtain ⟨a, c, m, rfl⟩ : ∃ a c m, u6 = .slice a m c := by
            rcases (unhide hX).own.2 with ⟨e1, e2⟩ | ⟨g, c, cur, e, _⟩
            · exact ⟨none, 0, 0, e1⟩
            · exact ⟨_, c, _, e⟩
          clear hlt hk
          go_wp2
          exact unhide hd

end Go.Proofs.Ytnolelhjhhiohaa
