/-
  GenItems
-/
import Derived.Test.YtbanjoflgoiegaaGreatPart10
import Derived.Test.YtbanjoflgoiegaaGreatPart03
import Derived.Deep.RegionHeld3
import Derived.Deep.AppendLies
namespace Go.Proofs.YtbanjoflgoiegaaGreat
open Go.RowKit

namespace Gn

abbrev Itm := Int × Int × Int × Int

def lie (d : Dice) : Nat → Nat → List Nat → List Itm
  | 0, _, _ => []
  | m + 1, k, l => if l.length = 0 then [] else (1 + d (40 + (k : Int)) 1 4, 1, ((l[(d (40 + (k : Int)) 0 (l.length : Int)).toNat]?.getD 0 : Nat) : Int) % 24, ((l[(d (40 + (k : Int)) 0 (l.length : Int)).toNat]?.getD 0 : Nat) : Int) / 24) :: lie d m (k + 1) (l.eraseIdx (d (40 + (k : Int)) 0 (l.length : Int)).toNat)

def wares (d : Dice) (k : Nat) : List Itm := (List.range k).map fun (j : Nat) => (1 + d (50 + (j : Int)) 1 3, 4, (j : Int), 0)

def items (d : Dice) (c : Nat → Int) : List Itm := lie d 4 0 (those (fun i => c i == 1) 384) ++ if Gr.find 384 c 5 < 0 then [] else wares d 3

def itemCells (p : Itm) : List Value := [.int .i64 p.1, .int .i64 p.2.1, .int .i64 p.2.2.1, .int .i64 p.2.2.2]

def flatI (acc : List Itm) : List Value := acc.flatMap itemCells

theorem flatI_more (acc : List Itm) (p : Itm) : flatI (acc ++ [p]) = flatI acc ++ itemCells p := by
  unfold flatI
  rw [List.flatMap_append]
  simp

theorem wares_more (d : Dice) (k : Nat) : wares d (k + 1) = wares d k ++ [(1 + d (50 + (k : Int)) 1 3, 4, (k : Int), 0)] := by
  unfold wares
  rw [List.range_succ, List.map_append]
  rfl

theorem lie_len (d : Dice) : ∀ (m k : Nat) (l : List Nat), (lie d m k l).length ≤ m
  | 0, _, _ => Nat.le_refl _
  | m + 1, k, l => by
    unfold lie
    split
    · exact Nat.zero_le _
    · have := lie_len d m (k + 1) (l.eraseIdx (d (40 + (k : Int)) 0 (l.length : Int)).toNat)
      simp only [List.length_cons]
      omega

end Gn

theorem info_item : (Tryz.prog.info? 62).map (fun i => (i.zero, i.size, i.bytes)) = some (some (.agg #[.int .i64 0, .int .i64 0, .int .i64 0, .int .i64 0]), 4, 32) := by kernel_rfl

structure ItmHold (w : World) (bL bE : Nat) (s f : Int) (vL vE : Value) (l : List Nat) (acc : List Gn.Itm) (wr : World) : Prop where
  plan : Arr wr w.heap.size 116 2 (fun j => .int .i64 (if j = 0 then s else f))
  left : Lst wr bL vL l
  sep : ∀ n, vL.ownBlock = some n → n < bE
  ents : wr.ownsRow bE 62 4 vE acc.length (Gn.flatI acc)
  grown : w.grownBy wr none
  lo : w.heap.size < bL
  hi : bL ≤ bE
  top : bE ≤ wr.heap.size
  rng : ∀ c, c ∈ l → c < 384
  len : l.length ≤ 384

theorem ItmHold.on {w : World} {bL bE : Nat} {s f : Int} {vL vE : Value} {l : List Nat} {acc : List Gn.Itm} {wr wx : World} (h : ItmHold w bL bE s f vL vE l acc wr) (hg : wr.grownBy wx none) : ItmHold w bL bE s f vL vE l acc wx :=
  ⟨h.plan.grown hg (by simp), h.left.kept hg (by cases vL.ownBlock <;> simp), h.sep, h.ents.kept hg (by cases vE.ownBlock <;> simp), grown_none h.grown hg, h.lo, h.hi, Nat.le_trans h.top hg.size, h.rng, h.len⟩

theorem ItmHold.del {w : World} {bL bE : Nat} {s f : Int} {vL vE vN : Value} {l : List Nat} {acc : List Gn.Itm} {wr wx : World} {i : Nat} (h : ItmHold w bL bE s f vL vE l acc wr) (hN : Lst wx bL vN (l.eraseIdx i)) (ho : vN.ownBlock = vL.ownBlock) (hg : wr.grownBy wx vL.ownBlock) :
    ItmHold w bL bE s f vN vE (l.eraseIdx i) acc wx := by
  have hlo := h.lo
  have hhi := h.hi
  have hlen : (l.eraseIdx i).length ≤ l.length := by rw [List.length_eraseIdx]; split <;> omega
  have hll := h.len
  refine ⟨h.plan.grown hg ?_, hN, fun n hn => h.sep n (by rw [← ho]; exact hn), h.ents.kept hg ?_, grown_own h.grown hg ?_, h.lo, h.hi, Nat.le_trans h.top hg.size, fun c hc => h.rng c (List.mem_of_mem_eraseIdx hc), by omega⟩
  · intro e
    have := (h.left.lt _ e).1
    omega
  · cases hv : vE.ownBlock with
    | none => exact .inl rfl
    | some n =>
      right
      intro e
      have h1 := (h.ents.lt n hv).1
      have h2 := h.sep n e.symm
      omega
  · intro n e
    have := (h.left.lt n e).1
    omega

theorem ItmHold.add {w : World} {bL bE : Nat} {s f : Int} {vL vE vN : Value} {l : List Nat} {acc : List Gn.Itm} {p : Gn.Itm} {wr wx : World} (h : ItmHold w bL bE s f vL vE l acc wr) (hN : wx.ownsRow bE 62 4 vN (acc.length + 1) (Gn.flatI acc ++ Gn.itemCells p)) (hg : wr.grownBy wx vE.ownBlock) :
    ItmHold w bL bE s f vL vN l (acc ++ [p]) wx := by
  have hlo := h.lo
  have hhi := h.hi
  refine ⟨h.plan.grown hg ?_, h.left.kept hg ?_, h.sep, ?_, grown_own h.grown hg ?_, h.lo, h.hi, Nat.le_trans h.top hg.size, h.rng, h.len⟩
  · intro e
    have := (h.ents.lt _ e).1
    omega
  · cases hv : vL.ownBlock with
    | none => exact .inl rfl
    | some n =>
      right
      intro e
      have h1 := (h.ents.lt n e.symm).1
      have h2 := h.sep n hv
      omega
  · rw [Gn.flatI_more, List.length_append]
    exact hN
  · intro n e
    have := (h.ents.lt n e).1
    omega

theorem ItmHold.at {w : World} {bL bE : Nat} {s f : Int} {vL vE : Value} {l : List Nat} {acc : List Gn.Itm} {wr : World} (h : ItmHold w bL bE s f vL vE l acc wr) {n : Nat} (hn : n < l.length) :
    ∃ g cap, vL = .slice (some ⟨g, 0, none⟩) l.length cap ∧ l.length ≤ cap ∧ wr.cell? ⟨g, n, none⟩ = some (.int .i64 ((l[n]?.getD 0 : Nat) : Int)) := by
  rcases h.left.form with ⟨_, rfl⟩ | ⟨g, cap, H, rfl, _, hA, hlc, _, hH⟩
  · simp at hn
  · exact ⟨g, cap, rfl, hlc, by rw [hA.cell (by omega), hH n hn]⟩

theorem ItmHold.beside {w : World} {bL bE : Nat} {s f : Int} {vL vE : Value} {l : List Nat} {acc : List Gn.Itm} {wr wx : World} {e : Nat} (h : ItmHold w bL bE s f vL vE l acc wr) (hg : wr.grownBy wx (some e)) (h1 : ∀ n, vL.ownBlock = some n → n ≠ e) (h2 : ∀ n, vE.ownBlock = some n → n ≠ e) (h3 : w.heap.size < e) : ItmHold w bL bE s f vL vE l acc wx := by
  refine ⟨h.plan.grown hg (by simp; omega), h.left.kept hg ?_, h.sep, h.ents.kept hg ?_, grown_own h.grown hg (fun n hn => by cases hn; omega), h.lo, h.hi, Nat.le_trans h.top hg.size, h.rng, h.len⟩
  · cases hv : vL.ownBlock with
    | none => exact .inl rfl
    | some n => exact .inr fun e' => h1 n hv (by cases e'; rfl)
  · cases hv : vE.ownBlock with
    | none => exact .inl rfl
    | some n => exact .inr fun e' => h2 n hv (by cases e'; rfl)

theorem item_news (w : World) (B : Nat) (hB : B = w.heap.size) (a0 a1 a2 a3 : Value) (T : TypeId) : ∀ j u, [a0, a1, a2, a3][j]? = some u → (w.alloc (.cells #[a0, a1, a2, a3] T)).cell? ((⟨B, 0, none⟩ : Addr).add j) = some u := by
  subst hB
  intro j u hj
  have hlt : j < 4 := (List.getElem?_eq_some_iff.1 hj).1
  rcases (show j = 0 ∨ j = 1 ∨ j = 2 ∨ j = 3 by omega) with rfl | rfl | rfl | rfl
  all_goals
    simp at hj
    subst hj
    simp [Addr.add]

set_option maxRecDepth 8000 in
set_option maxHeartbeats 4000000 in
theorem items_any (s f : Int) (d : Gn.Dice) (hd : ∀ a b n, Gn.D s f a b n = d a b n) (hFr : Gn.Fair d) (G : Nat) (c : Nat → Int) (w : World) (hA : Arr w G 5 384 (Byts c)) (h5 : ∀ i, 0 ≤ c i ∧ c i ≤ 5) :
    Calls Tryz.prog 101 #[.agg #[.int .i64 s, .int .i64 f], .slice (some ⟨G, 0, none⟩) 384 384] w
      fun e w' => ∃ v, e = .returned v ∧ w'.ownsRow w.heap.size 62 4 v (Gn.items d c).length (Gn.flatI (Gn.items d c)) ∧ w.grownBy w' none := by
  have hd' := hide hd
  have hFr' := hide hFr
  have hA' := hide hA
  have h5' := hide h5
  obtain ⟨fin, hfin⟩ : ∃ fin, fin = Gn.lie d 4 0 (Gn.those (fun i => c i == 1) 384) := ⟨_, rfl⟩
  have hfin' := hide hfin
  have hfl : fin.length ≤ 4 := by rw [hfin]; exact Gn.lie_len d 4 0 _
  obtain ⟨i0, hi, hz0, hz1, hz2⟩ := info_parts info_item
  clear hd hFr hA hfin h5
  go_enter Tryz.func101, Tryz.ntmps101
  go_wp2_with fail
  obtain ⟨w0, hw0⟩ : ∃ w0, w0 = w.alloc (.cells #[.int .i64 s, .int .i64 f] 116) := ⟨_, rfl⟩
  have hs0 : w0.heap.size = w.heap.size + 1 := by rw [hw0]; simp
  have hg0 : w.grownBy w0 none := by rw [hw0]; exact World.grownBy_alloc _ _ _
  have hp0 : Arr w0 w.heap.size 116 2 (fun j => .int .i64 (if j = 0 then s else f)) := by rw [hw0]; exact Arr.pair _ _ _ _
  have hA0 := (unhide hA').grown hg0 (by simp)
  have hGl := (unhide hA').lt
  rw [← hw0]
  refine (floorCells_any w0.heap.size _ _ c _ (hA0.vec _ hA0.lt (by decide)) (Nat.le_refl _)).mono ?_
  rintro e w2 ⟨vL, rfl, hL2, hg1⟩
  have hs1 := hg1.size
  have hH0 : Hid (ItmHold w w0.heap.size w2.heap.size s f vL (.slice none 0 0) (Gn.those (fun i => c i == 1) 384) [] w2) :=
    ⟨hp0.grown hg1 (by simp), hL2, fun n hn => (hL2.lt n hn).2, World.ownsRow_nil _ _ _ _, grown_none hg0 hg1, by omega, by omega, Nat.le_refl _, fun x hx => List.mem_range.1 (List.mem_filter.1 hx).1, Gn.those_len _ _⟩
  obtain ⟨bL, hbL⟩ : ∃ b, b = w0.heap.size := ⟨_, rfl⟩
  obtain ⟨bE, hbE⟩ : ∃ b, b = w2.heap.size := ⟨_, rfl⟩
  have hbw : w.heap.size ≤ bE := by omega
  rw [← hbL, ← hbE] at hH0
  clear hL2 hg1 hA0 hp0 hg0 hw0 hs0 hs1 hbL hbE
  go_wp2_with fail
  go_loopw [5, 6, 7] (fun vl ve vk wr => ∃ (k : Nat) (l : List Nat) (acc : List Gn.Itm), k ≤ 4 ∧ vk = .int .i64 (k : Int) ∧ acc ++ Gn.lie d (4 - k) k l = fin ∧ ItmHold w bL bE s f vl ve l acc wr) (fun _ _ vk _ => 10 - (intOf vk).toNat)
  case atStart => exact ⟨0, _, [], by omega, rfl, (unhide hfin').symm, unhide hH0⟩
  case round =>
    clear hH0
    obtain ⟨k, l, acc, hk, rfl, hacc, hH⟩ := hrel
    have hH1 := hide hH
    have hacc' := hide hacc
    clear hH hacc
    have hc1 := (unhide hH1).plan.cell (i := 1) (by omega)
    have hc0 := (unhide hH1).plan.cell (i := 0) (by omega)
    simp only [ite_true, Nat.one_ne_zero, ite_false] at hc0 hc1
    have hll := (unhide hH1).len
    by_cases hgo : k < 4 ∧ l.length ≠ 0
    · obtain ⟨hlt, hl0⟩ := hgo
      have hlt' : (k : Int) < 4 := by omega
      have hlp : (0 : Int) < (l.length : Int) := by omega
      obtain ⟨N, hN⟩ : ∃ x, x = d (40 + (k : Int)) 0 (l.length : Int) := ⟨_, rfl⟩
      obtain ⟨n1, n2⟩ : 0 ≤ N ∧ N < (l.length : Int) := by rw [hN]; exact unhide hFr' _ _ _ (by omega)
      obtain ⟨n, hn⟩ : ∃ n : Nat, N = (n : Int) := ⟨N.toNat, by omega⟩
      have hnl : n < l.length := by omega
      have hnl' : (n : Int) < (l.length : Int) := by omega
      have hn3 : n < 384 := by omega
      have hdN : Hid (∀ w', Calls Tryz.prog 128 #[.agg #[.int .i64 s, .int .i64 f], .int .i64 (40 + (k : Int)), .int .i64 0, .int .i64 (l.length : Int)] w' (Says w' (.int .i64 (n : Int)))) := fun w' => by
        have h := die3_any s f (40 + (k : Int)) 0 (l.length : Int) w' (by omega)
        rw [unhide hd', ← hN, hn] at h
        exact h
      obtain ⟨K, hK⟩ : ∃ K, K = d (40 + (k : Int)) 1 4 := ⟨_, rfl⟩
      obtain ⟨k1, k2⟩ : 0 ≤ K ∧ K < 4 := by rw [hK]; exact unhide hFr' _ _ _ (by omega)
      have hdK : Hid (∀ w', Calls Tryz.prog 128 #[.agg #[.int .i64 s, .int .i64 f], .int .i64 (40 + (k : Int)), .int .i64 1, .int .i64 4] w' (Says w' (.int .i64 K))) := fun w' => by
        have h := die3_any s f (40 + (k : Int)) 1 4 w' (by omega)
        rw [unhide hd', ← hK] at h
        exact h
      obtain ⟨cl, hcl⟩ : ∃ cl, cl = l[n]?.getD 0 := ⟨_, rfl⟩
      have hcl3 : cl < 384 := by
        rw [hcl, List.getElem?_eq_getElem hnl]
        exact (unhide hH1).rng _ (List.getElem_mem hnl)
      have hstep : Hid ((acc ++ [(1 + K, 1, (cl : Int) % 24, (cl : Int) / 24)]) ++ Gn.lie d (4 - (k + 1)) (k + 1) (l.eraseIdx n) = fin) := by
        have h := unhide hacc'
        obtain ⟨m, hm⟩ : ∃ m, 4 - k = m + 1 := ⟨4 - k - 1, by omega⟩
        rw [hm, Gn.lie, if_neg hl0, ← hN, hn, Int.toNat_natCast, ← hK, ← hcl] at h
        show (acc ++ [(1 + K, 1, (cl : Int) % 24, (cl : Int) / 24)]) ++ Gn.lie d (4 - (k + 1)) (k + 1) (l.eraseIdx n) = fin
        rw [show 4 - (k + 1) = m by omega, List.append_assoc]
        exact h
      have hal : acc.length ≤ 4 := by
        have h := congrArg List.length (unhide hacc')
        rw [List.length_append] at h
        omega
      have hcl' := hide hcl
      obtain ⟨g, cap, rfl, hgc, _⟩ := (unhide hH1).at hnl
      clear hN hn hK hcl hl0 n1 n2 hlt
      go_wp2_with fail
      refine (unhide hdN _).mono ?_
      rintro e wa ⟨rfl, hga⟩
      have hHa := hide ((unhide hH1).on hga)
      have hcell : wa.cell? ⟨g, n, none⟩ = some (.int .i64 (cl : Int)) := by
        obtain ⟨g', cap', heq, _, hq⟩ := (unhide hHa).at hnl
        simp only [Value.slice.injEq, Option.some.injEq, Addr.mk.injEq, and_true, true_and] at heq
        rw [heq.1, hq, unhide hcl']
      clear hga hH1 hc0 hc1
      go_wp2_with fail
      refine (placeOf_any (cl : Int) _ (by omega) (by omega)).mono ?_
      rintro e wd ⟨rfl, hgd⟩
      have hHd := hide ((unhide hHa).on hgd)
      clear hgd hHa hcell
      go_wp2_with fail
      obtain ⟨W4, hW4⟩ : ∃ W4, W4 = wd.alloc (.cells #[.int .i64 ((cl : Int) % 24), .int .i64 ((cl : Int) / 24)] 118) := ⟨_, rfl⟩
      rw [← hW4]
      have hH4 : Hid (ItmHold w bL bE s f (.slice (some ⟨g, 0, none⟩) l.length cap) u6 l acc W4.drew) := by
        rw [hW4]
        exact (unhide hHd).on (grown_drew1 (World.grownBy_alloc _ _ _))
      have hP4 : Hid (Arr W4.drew wd.heap.size 118 2 (fun j => .int .i64 (if j = 0 then (cl : Int) % 24 else (cl : Int) / 24))) := by
        rw [hW4]
        exact (Arr.pair _ _ _ _).grown (grown_drew1 (World.grownBy.refl _ none)) (by simp)
      have hvE : Hid (∀ n, u6.ownBlock = some n → n < wd.heap.size) := fun n hn => ((unhide hHd).ents.lt n hn).2
      have keep : Hid (∀ x, ItmHold w bL bE s f (.slice (some ⟨g, 0, none⟩) l.length cap) u6 l acc x → Arr x wd.heap.size 118 2 (fun j => .int .i64 (if j = 0 then (cl : Int) % 24 else (cl : Int) / 24)) → (x.cell? ⟨w.heap.size, 0, none⟩ = some (.int .i64 s) ∧ x.cell? ⟨w.heap.size, 1, none⟩ = some (.int .i64 f) ∧ x.cell? ⟨wd.heap.size, 0, none⟩ = some (.int .i64 ((cl : Int) % 24)) ∧ x.cell? ⟨wd.heap.size, 1, none⟩ = some (.int .i64 ((cl : Int) / 24)))) :=
        fun x h1 h2 => ⟨h1.plan.cell (by omega), h1.plan.cell (by omega), h2.cell (by omega), h2.cell (by omega)⟩
      have keep2 : Hid (∀ x y, Hid (ItmHold w bL bE s f (.slice (some ⟨g, 0, none⟩) l.length cap) u6 l acc x) → Hid (Arr x wd.heap.size 118 2 (fun j => .int .i64 (if j = 0 then (cl : Int) % 24 else (cl : Int) / 24))) → (x.alloc (.cells #[.int .i64 (1 + K), .int .i64 1, .int .i64 ((cl : Int) % 24), .int .i64 ((cl : Int) / 24)] 62)).grownBy y u6.ownBlock → (y.cell? ⟨w.heap.size, 0, none⟩ = some (.int .i64 s) ∧ y.cell? ⟨w.heap.size, 1, none⟩ = some (.int .i64 f) ∧ y.cell? ⟨wd.heap.size, 0, none⟩ = some (.int .i64 ((cl : Int) % 24)) ∧ y.cell? ⟨wd.heap.size, 1, none⟩ = some (.int .i64 ((cl : Int) / 24)))) := by
        intro x y h1 h2 hg
        have hp := ((unhide h1).plan.alloc (.cells #[.int .i64 (1 + K), .int .i64 1, .int .i64 ((cl : Int) % 24), .int .i64 ((cl : Int) / 24)] 62)).grown hg (fun e => by have := ((unhide h1).ents.lt _ e).1; have := (unhide h1).lo; have := (unhide h1).hi; omega)
        have hq := ((unhide h2).alloc (.cells #[.int .i64 (1 + K), .int .i64 1, .int .i64 ((cl : Int) % 24), .int .i64 ((cl : Int) / 24)] 62)).grown hg (fun e => by have := unhide hvE _ e; omega)
        exact ⟨hp.cell (by omega), hp.cell (by omega), hq.cell (by omega), hq.cell (by omega)⟩
      have cdie : Hid (Calls Tryz.prog 128 #[.agg #[.int .i64 s, .int .i64 f], .int .i64 (40 + (k : Int)), .int .i64 1, .int .i64 4] W4.drew (fun e w' => e = .returned (.int .i64 K) ∧ Hid (ItmHold w bL bE s f (.slice (some ⟨g, 0, none⟩) l.length cap) u6 l acc w') ∧ Hid (Arr w' wd.heap.size 118 2 (fun j => .int .i64 (if j = 0 then (cl : Int) % 24 else (cl : Int) / 24))) ∧ bE ≤ w'.heap.size)) :=
        (unhide hdK W4.drew).mono fun e w' ⟨he, hg⟩ => ⟨he, (unhide hH4).on hg, (unhide hP4).grown hg (by simp), ((unhide hH4).on hg).top⟩
      obtain ⟨p1, p2, p3, p4⟩ := unhide keep _ (unhide hH4) (unhide hP4)
      have hwr : IntKind.i64.wrap (40 + (k : Int)) = 40 + (k : Int) := by rw [IntKind.wrap_i64]; omega
      have hwr2 : IntKind.i64.wrap (1 + K) = 1 + K := by rw [IntKind.wrap_i64]; omega
      clear hW4 hHd
      go_region_held3 (fun x => x.cell? ⟨w.heap.size, 0, none⟩ = some (.int .i64 s) ∧ x.cell? ⟨w.heap.size, 1, none⟩ = some (.int .i64 f) ∧ x.cell? ⟨wd.heap.size, 0, none⟩ = some (.int .i64 ((cl : Int) % 24)) ∧ x.cell? ⟨wd.heap.size, 1, none⟩ = some (.int .i64 ((cl : Int) / 24))) (go_keep) (first | (go_at_call 128; refine (unhide cdie).mono ?_; rintro e we ⟨rfl, hHe, hPe, hte⟩; obtain ⟨z1, z2, z3, z4⟩ := unhide keep we (unhide hHe) (unhide hPe)) | (refine step_append_lies _ (by rfl) _ _ _ (by rfl) bE 62 i0 _ 4 32 Tryz.underlying27 hi hz0 hz1 hz2 rfl (by omega) u6 acc.length (Gn.flatI acc) (by rfl) ((unhide hHe).ents.alloc _) ⟨we.heap.size, 0, none⟩ 1 1 [.int .i64 (1 + K), .int .i64 1, .int .i64 ((cl : Int) % 24), .int .i64 ((cl : Int) / 24)] (by rfl) (by rfl) (item_news we _ rfl _ _ _ _ _) (by simp [Value.oneCell']) (by omega) (by unfold maxLen; omega) (by omega) (by simp; omega) (we.heap.size + 1) (by simp) ?_; intro gg cap5 w5 hown5 hgrow5 hat5 hlt5; obtain ⟨z1, z2, z3, z4⟩ := unhide keep2 _ _ hHe hPe hgrow5))
      have hH5 := hide (((unhide hHe).on (World.grownBy_alloc _ _ _)).add (p := (1 + K, 1, (cl : Int) % 24, (cl : Int) / 24)) hown5 hgrow5)
      have hdel := delete_any bL n (n + 1) (.slice (some ⟨g, 0, none⟩) l.length cap) l w5 (unhide hH5).left hll hnl rfl
      rw [show ((n + 1 : Nat) : Int) = (n : Int) + 1 by omega] at hdel
      have hdel' := hide hdel
      clear hown5 hgrow5 hat5 hlt5 hdel z1 z2 z3 z4 p1 p2 p3 p4 keep keep2 cdie hH4 hP4 hHe hPe hwr hwr2
      go_wp2_with fail
      refine (unhide hdel').mono ?_
      rintro e w6 ⟨vN, rfl, hLN, hob, hg6⟩
      have hH6 := hide ((unhide hH5).del hLN hob hg6)
      clear hLN hob hg6 hdel' hH5
      go_wp2
      go_roundw
      case rel => exact ⟨k + 1, l.eraseIdx n, acc ++ [(1 + K, 1, (cl : Int) % 24, (cl : Int) / 24)], by omega, by go_num, unhide hstep, unhide hH6⟩
      case measure => simp [intOf]; omega
    · have hend : acc = fin := by
        have h := unhide hacc'
        by_cases hk4 : k < 4
        · obtain ⟨m, hm⟩ : ∃ m, 4 - k = m + 1 := ⟨4 - k - 1, by omega⟩
          rw [hm, Gn.lie, if_pos (by by_cases h0 : l.length = 0; exact h0; exact absurd ⟨hk4, h0⟩ hgo), List.append_nil] at h
          exact h
        · rw [show 4 - k = 0 by omega, Gn.lie, List.append_nil] at h
          exact h
      subst hend
      have hAr := hide ((unhide hA').grown (unhide hH1).grown (by simp))
      have hfind := hide (find_any wr.heap.size (some ⟨G, 0, none⟩) 384 384 c 5 wr ((unhide hAr).vec _ (unhide hAr).lt (by decide)) (fun i => by have := unhide h5' i; omega) (Nat.le_refl _))
      obtain ⟨S, hS⟩ : ∃ x, x = Gr.find 384 c 5 := ⟨_, rfl⟩
      rw [← hS] at hfind
      have hS' := hide hS
      have hguard : ((k : Int) < 4 ∧ ∃ a cap, u5 = .slice a 0 cap) ∨ ¬ (k : Int) < 4 := by
        by_cases hk4 : k < 4
        · left
          refine ⟨by omega, ?_⟩
          have h0 : l.length = 0 := by by_cases h0 : l.length = 0; exact h0; exact absurd ⟨hk4, h0⟩ hgo
          rcases (unhide hH1).left.form with ⟨h, _⟩ | ⟨g, cap, _, h, _⟩
          · exact ⟨_, _, h⟩
          · exact ⟨_, _, by rw [h, h0]⟩
        · right
          omega
      have hfinA : Hid (acc = Gn.lie d 4 0 (Gn.those (fun i => c i == 1) 384)) := hfin'
      clear hgo hll hacc' hS hfin' hk hA'
      rcases hguard with ⟨hk4, a, cap, rfl⟩ | hk4
      all_goals
        go_wp2_with fail
        refine (unhide hfind).mono ?_
        rintro e w' ⟨rfl, hw⟩
        subst w'
        by_cases hneg : S < 0
        · have hit : Hid (Gn.items d c = acc) := by
            show Gn.items d c = acc
            unfold Gn.items
            rw [← unhide hS', if_pos hneg, List.append_nil]
            exact (unhide hfinA).symm
          clear hfind
          go_wp2
          go_ret
          exact ⟨_, rfl, by rw [unhide hit]; exact owns_mono (unhide hH1).ents hbw, (unhide hH1).grown⟩
        · have hit : Hid (Gn.items d c = acc ++ Gn.wares d 3) := by
            show Gn.items d c = acc ++ Gn.wares d 3
            unfold Gn.items
            rw [← unhide hS', if_neg hneg, ← unhide hfinA]
          clear hfind
          go_wp2_with fail
          go_loopw [6, 55] (fun ve vk wr2 => ∃ (q : Nat) (vl : Value), q ≤ 3 ∧ vk = .int .i64 (q : Int) ∧ ItmHold w bL bE s f vl ve l (acc ++ Gn.wares d q) wr2) (fun _ vk _ => 10 - (intOf vk).toNat)
          case atStart => exact ⟨0, _, by omega, rfl, by rw [show Gn.wares d 0 = [] from rfl, List.append_nil]; exact unhide hH1⟩
          case round =>
            clear hH1 hAr
            obtain ⟨q, vl, hq, rfl, hHq⟩ := hrel
            have hH2 := hide hHq
            clear hHq
            have hc1 := (unhide hH2).plan.cell (i := 1) (by omega)
            have hc0 := (unhide hH2).plan.cell (i := 0) (by omega)
            simp only [ite_true, Nat.one_ne_zero, ite_false] at hc0 hc1
            by_cases hq3 : q < 3
            · have hq3' : (q : Int) < 3 := by omega
              obtain ⟨K, hK⟩ : ∃ K, K = d (50 + (q : Int)) 1 3 := ⟨_, rfl⟩
              obtain ⟨k1, k2⟩ : 0 ≤ K ∧ K < 3 := by rw [hK]; exact unhide hFr' _ _ _ (by omega)
              have hdK := die3_any s f (50 + (q : Int)) 1 3 wr (by omega)
              rw [unhide hd', ← hK] at hdK
              have hdK' := hide hdK
              have hmore : Hid (acc ++ Gn.wares d (q + 1) = (acc ++ Gn.wares d q) ++ [(1 + K, 4, (q : Int), 0)]) := by
                show acc ++ Gn.wares d (q + 1) = _
                rw [Gn.wares_more, ← hK, List.append_assoc]
              have hwl : (acc ++ Gn.wares d q).length ≤ 8 := by
                rw [List.length_append]
                unfold Gn.wares
                rw [List.length_map, List.length_range]
                omega
              obtain ⟨ac2, hac2⟩ : ∃ ac2, ac2 = acc ++ Gn.wares d q := ⟨_, rfl⟩
              rw [← hac2] at hH2 hmore hwl
              clear hK hdK hq3 hac2
              go_wp2_with fail
              refine (unhide hdK').mono ?_
              rintro e wd ⟨rfl, hgd⟩
              have hH3 := hide ((unhide hH2).on hgd)
              have htd := (unhide hH3).top
              clear hgd hH2 hdK' hc0 hc1
              go_wp2_with (at_builtin; refine wpList_append_own _ rfl _ _ 27 rfl bE 62 i0 (.agg #[.int .i64 0, .int .i64 0, .int .i64 0, .int .i64 0]) 4 32 Tryz.underlying27 hi hz0 hz1 hz2 rfl (by decide) _ _ _ rfl ((unhide hH3).ents.alloc _) ⟨wd.heap.size, 0, none⟩ 1 1 [.int .i64 (1 + K), .int .i64 4, .int .i64 (q : Int), .int .i64 0] rfl rfl ?_ ?_ ?_ ?_ ?_ ?_)
              · exact item_news _ _ rfl _ _ _ _ _
              · intro u hu
                simp only [List.mem_cons, List.not_mem_nil, or_false] at hu
                rcases hu with rfl | rfl | rfl | rfl <;> rfl
              · unfold maxLen; omega
              · omega
              · simp; omega
              intro v5 w5 hown5 hgrow5 _
              have hH5 := hide (((unhide hH3).on (World.grownBy_alloc _ _ _)).add (p := (1 + K, 4, (q : Int), 0)) hown5 hgrow5)
              rw [← unhide hmore] at hH5
              clear hown5 hgrow5 hH3
              go_wp2
              go_roundw
              case rel => exact ⟨q + 1, vl, by omega, by go_num, unhide hH5⟩
              case measure => simp [intOf]; omega
            · have hge : ¬ (q : Int) < 3 := by omega
              obtain rfl : q = 3 := by omega
              clear hq hq3
              go_wp2
              go_ret
              exact ⟨_, rfl, by rw [unhide hit]; exact owns_mono (unhide hH2).ents hbw, (unhide hH2).grown⟩

end Go.Proofs.YtbanjoflgoiegaaGreat
