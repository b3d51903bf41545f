/-
  The document's own small steps, said again: a cell that a corridor goes over, one of the cells that are left.
  The document's Make, said again: what its walk holds on to, and the code from one piece on.
-/
import Derived.Test.YtbploaihicakeaaPart08
import Derived.Test.YtbploaihicakeaaPart09
namespace Go.Proofs.Ytbploaihicakeaa
open Go.RowKit

theorem Gn.upd_upd (c : Nat → Int) (k : Nat) (u v : Int) : Gr.upd (Gr.upd c k u) k v = Gr.upd c k v := by
  funext i
  unfold Gr.upd
  split <;> rfl

set_option maxHeartbeats 800000 in
theorem refDig_any (G : Nat) (st : (Nat → Int) × Bool) (x y : Int) (k : Nat) (w : World) (hA : Arr w G 5 384 (Byts st.1)) (h5 : ∀ i, 0 ≤ st.1 i ∧ st.1 i ≤ 5) (hx : (1 ≤ x ∧ x ≤ 22) ∧ 1 ≤ y ∧ y ≤ 14) (hk : y * 24 + x = (k : Int)) :
    Calls Try.prog 51 #[.slice (some ⟨G, 0, none⟩) 384 384, .int .i64 x, .int .i64 y, .bool st.2] w
      fun e w' => e = .returned (.bool (Gn.digAt st k).2) ∧ Arr w' G 5 384 (Byts (Gn.digAt st k).1) ∧ w.grownBy w' (some G) := by
  have hkl : k < 384 := by omega
  have hk' : (k : Int) < 384 := by omega
  have q1 : w.cell? ⟨G, k, none⟩ = some (.int .u8 (st.1 k)) := hA.cell hkl
  have q2 := hA.free k
  have h5k := h5 k
  obtain ⟨v, hv⟩ : ∃ v, v = st.1 k := ⟨_, rfl⟩
  rw [← hv] at q1 h5k
  obtain ⟨⟨x1, x2⟩, x3, x4⟩ := hx
  by_cases hz : v = 0
  · have hat := Gn.at_wall (st := st) (c := k) (by rw [← hv]; exact hz)
    have hz' : (v != 0) = false := by simpa using hz
    have hA1 := hA.byte k 1
    cases hb : st.2 with
    | true =>
      have hfin : Hid (Arr (w.setCell ⟨G, k, none⟩ (.int .u8 1)) G 5 384 (Byts (Gn.digAt st k).1)) := by rw [hat, hb]; exact hA1
      have hb2 : Hid ((Gn.digAt st k).2 = true) := by rw [hat]; exact (rfl : true = true)
      have hg := hide (grown_put w G k (.int .u8 1))
      clear hA1 hat hA hz hv
      go_enter Try.func51, Try.ntmps51
      go_wp2
      go_ret
      exact ⟨ret_bool (unhide hb2).symm, unhide hfin, unhide hg⟩
    | false =>
      have hA2 := hA1.byte k 2
      have q3 := hA1.cell hkl
      have q4 := hA1.free k
      obtain ⟨w1, hw1⟩ : ∃ w1, w.setCell ⟨G, k, none⟩ (.int .u8 1) = w1 := ⟨_, rfl⟩
      rw [hw1] at hA2 q3 q4
      have hfin : Hid (Arr (w1.setCell ⟨G, k, none⟩ (.int .u8 2)) G 5 384 (Byts (Gn.digAt st k).1)) := by
        rw [hat, hb]
        rw [Gn.upd_upd] at hA2
        exact hA2
      have hb2 : Hid ((Gn.digAt st k).2 = true) := by rw [hat]; exact (rfl : true = true)
      have hg : Hid (w.grownBy (w1.setCell ⟨G, k, none⟩ (.int .u8 2)) (some G)) := by rw [← hw1]; exact grown_set (grown_put w G k (.int .u8 1)) k _
      clear hA1 hA2 hat hA hz hv
      go_enter Try.func51, Try.ntmps51
      go_wp2
      go_ret
      exact ⟨ret_bool (unhide hb2).symm, unhide hfin, unhide hg⟩
  · have hat := Gn.at_free (st := st) (c := k) (by rw [← hv]; exact hz)
    have hz' : (v != 0) = true := by simpa using hz
    have hfin : Hid (Arr w G 5 384 (Byts (Gn.digAt st k).1)) := by rw [hat]; exact hA
    have hb2 : Hid ((Gn.digAt st k).2 = st.2) := by rw [hat]; exact (rfl : st.2 = st.2)
    obtain ⟨b, hb⟩ : ∃ b, b = st.2 := ⟨_, rfl⟩
    rw [← hb] at hb2 ⊢
    clear hat hA hz hv hb
    go_enter Try.func51, Try.ntmps51
    go_wp2
    go_ret
    exact ⟨ret_bool (unhide hb2).symm, unhide hfin, World.grownBy.refl _ _⟩

/-- May one be picked? -/
def Gn.free (c F : Nat → Int) (far : Int) (U : Nat → Bool) (i : Nat) : Bool := c i == 1 && decide (far ≤ F i) && !U i

/-- The one that is picked; -1: there is none. -/
def Gn.picked (d : Gn.Dice) (a : Int) (l : List Nat) : Int := if l.length = 0 then -1 else ((l[(d a 0 (l.length : Int)).toNat]?.getD 0 : Nat) : Int)

set_option maxRecDepth 8000 in
set_option maxHeartbeats 1600000 in
theorem pick_any (s f : Int) (d : Gn.Dice) (hd : ∀ a b n, Gn.D s f a b n = d a b n) (hFr : Gn.Fair d) (G gF gU : Nat) (c F : Nat → Int) (far a : Int) (U : Nat → Bool) (w : World) (hA : Arr w G 5 384 (Byts c)) (hF : Arr w gF 3 384 (Ints F)) (hU : Arr w gU 4 384 (Bols U)) :
    Calls Try.prog 53 #[.slice (some ⟨G, 0, none⟩) 384 384, .slice (some ⟨gF, 0, none⟩) 384 384, .int .i64 far, .slice (some ⟨gU, 0, none⟩) 384 384, .int .i64 s, .int .i64 f, .int .i64 a] w
      (Says w (.int .i64 (Gn.picked d a (Gn.those (Gn.free c F far U) 384)))) := by
  have hA' := hide hA
  have hF' := hide hF
  have hU' := hide hU
  have hd' := hide hd
  have hFr' := hide hFr
  obtain ⟨i0, hi, hz0, hz1, hz2⟩ := info_parts info_int
  clear hA hF hU hd hFr
  go_enter Try.func53, Try.ntmps53
  go_wp2_with fail
  go_loopw [15, 16] (fun v i wr => ∃ k : Nat, k ≤ 384 ∧ i = .int .i64 (k : Int) ∧ Lst wr w.heap.size v (Gn.those (Gn.free c F far U) k) ∧ w.grownBy wr none) (fun _ i _ => 400 - (intOf i).toNat)
  case atStart => exact ⟨0, by omega, rfl, World.ownsRow_nil _ _ _ _, World.grownBy.refl _ _⟩
  case round =>
    obtain ⟨k, hk, rfl, hown, hg⟩ := hrel
    have hown1 := hide hown
    have hg1 := hide hg
    have hsz := hg.size
    have hln := Gn.those_len (Gn.free c F far U) k
    clear hown hg
    by_cases hlt : k < 384
    · have q1 : wr.cell? ⟨G, k, none⟩ = some (.int .u8 (c k)) := ((unhide hA').grown (unhide hg1) (by simp)).cell hlt
      have q2 : wr.cell? ⟨gF, k, none⟩ = some (.int .i64 (F k)) := ((unhide hF').grown (unhide hg1) (by simp)).cell hlt
      have q3 : wr.cell? ⟨gU, k, none⟩ = some (.bool (U k)) := ((unhide hU').grown (unhide hg1) (by simp)).cell hlt
      have hlt' : (k : Int) < 384 := by omega
      have HL := hide hlt
      clear hlt hk
      by_cases hq : Gn.free c F far U k = true
      · have hyes := hide (Gn.those_yes hq)
        have hq2 := hq
        unfold Gn.free at hq2
        simp only [Bool.and_eq_true, decide_eq_true_eq, Bool.not_eq_true'] at hq2
        obtain ⟨⟨r1, r2⟩, r3⟩ := hq2
        obtain ⟨l, hl⟩ : ∃ l, l = Gn.those (Gn.free c F far U) k := ⟨_, rfl⟩
        rw [← hl] at hown1 hln hyes
        clear hl hq
        go_wp2_with (at_builtin; refine wpList_append_own _ rfl _ _ 22 rfl w.heap.size 3 i0 (.int .i64 0) 1 8 Try.underlying22 hi hz0 hz1 hz2 rfl (by decide) _ _ _ rfl ((unhide hown1).alloc _) ⟨wr.heap.size, 0, none⟩ 1 1 [.int .i64 (k : Int)] rfl rfl ?_ ?_ ?_ ?_ ?_ ?_)
        · exact one_at _ _ _ _ rfl
        · intro u hu; simp at hu; subst hu; rfl
        · unfold maxLen; omega
        · omega
        · simp; omega
        intro v' w1 hown' hgrow _
        rw [natInts_more] at hown'
        have hown2 : Hid (Lst w1 w.heap.size v' (Gn.those (Gn.free c F far U) (k + 1))) := by
          rw [unhide hyes]
          show w1.ownsRow _ _ _ _ _ _
          rw [List.length_append]
          exact hown'
        have hg2 := hide (grown_own (grown_alloc (unhide hg1) _) hgrow (fun n e => ((unhide hown1).lt n e).1))
        clear hown' hgrow hown1 hg1
        go_wp2
        go_roundw
        case rel => exact ⟨k + 1, by have := unhide HL; omega, by go_num, unhide hown2, unhide hg2⟩
        case measure => simp [intOf]; omega
      · have hq' : Gn.free c F far U k = false := by simpa using hq
        have hno := hide (Gn.those_no hq')
        have hcs : (c k == 1) = false ∨ ((c k == 1) = true ∧ ¬ far ≤ F k) ∨ ((c k == 1) = true ∧ far ≤ F k ∧ U k = true) := by
          unfold Gn.free at hq'
          cases h1 : (c k == 1) with
          | false => exact .inl rfl
          | true =>
            rw [h1] at hq'
            by_cases h2 : far ≤ F k
            · right; right
              refine ⟨rfl, h2, ?_⟩
              simpa [h2] using hq'
            · exact .inr (.inl ⟨rfl, h2⟩)
        clear hq hq'
        rcases hcs with r1 | ⟨r1, r2⟩ | ⟨r1, r2, r3⟩
        · go_wp2
          go_roundw
          case rel => exact ⟨k + 1, by have := unhide HL; omega, by go_num, by rw [unhide hno]; exact unhide hown1, unhide hg1⟩
          case measure => simp [intOf]; omega
        · have r2' : decide (far ≤ F k) = false := by simpa using r2
          clear r2
          go_wp2
          go_roundw
          case rel => exact ⟨k + 1, by have := unhide HL; omega, by go_num, by rw [unhide hno]; exact unhide hown1, unhide hg1⟩
          case measure => simp [intOf]; omega
        · go_wp2
          go_roundw
          case rel => exact ⟨k + 1, by have := unhide HL; omega, by go_num, by rw [unhide hno]; exact unhide hown1, unhide hg1⟩
          case measure => simp [intOf]; omega
    · have hge : ¬ (k : Int) < 384 := by omega
      obtain rfl : k = 384 := by omega
      obtain ⟨l, hl⟩ : ∃ l, l = Gn.those (Gn.free c F far U) 384 := ⟨_, rfl⟩
      rw [← hl] at hown1 hln
      have hl' := hide hl
      clear hlt hk hl
      rcases (unhide hown1).form with ⟨rfl, h0⟩ | ⟨g, cap, H, rfl, hb, hAr, hlc, hm, hH⟩
      · have hres : Hid (Gn.picked d a (Gn.those (Gn.free c F far U) 384) = -1) := by
          show Gn.picked d a (Gn.those (Gn.free c F far U) 384) = -1
          rw [← unhide hl', h0]
          rfl
        clear h0
        go_wp2
        go_ret
        exact ⟨ret_int (unhide hres).symm, unhide hg1⟩
      · by_cases h0 : l.length = 0
        · have hres : Hid (Gn.picked d a (Gn.those (Gn.free c F far U) 384) = -1) := by
            show Gn.picked d a (Gn.those (Gn.free c F far U) 384) = -1
            rw [← unhide hl']
            unfold Gn.picked
            rw [if_pos h0]
          rw [h0]
          clear hAr hH
          go_wp2
          go_ret
          exact ⟨ret_int (unhide hres).symm, unhide hg1⟩
        · obtain ⟨N, hN⟩ : ∃ x, x = d a 0 (l.length : Int) := ⟨_, rfl⟩
          obtain ⟨n1, n2⟩ : 0 ≤ N ∧ N < (l.length : Int) := by rw [hN]; exact unhide hFr' _ _ _ (by omega)
          obtain ⟨n, hn⟩ : ∃ n : Nat, N = (n : Int) := ⟨N.toNat, by omega⟩
          have hnl : n < l.length := by omega
          have hnl' : (n : Int) < (l.length : Int) := by omega
          have hdN := refD_any s f a 0 (l.length : Int) wr (by omega)
          rw [unhide hd', ← hN, hn] at hdN
          obtain ⟨cl, hcl⟩ : ∃ cl, cl = l[n]?.getD 0 := ⟨_, rfl⟩
          have hres : Hid (Gn.picked d a (Gn.those (Gn.free c F far U) 384) = (cl : Int)) := by
            show Gn.picked d a (Gn.those (Gn.free c F far U) 384) = (cl : Int)
            rw [← unhide hl']
            unfold Gn.picked
            rw [if_neg h0, ← hN, hn, Int.toNat_natCast, hcl]
          have hAr' := hide hAr
          have hq : Hid (H n = .int .i64 (cl : Int)) := by show H n = _; rw [hH n hnl, hcl]
          have hz : ((l.length : Int) == 0) = false := by rw [beq_eq_false_iff_ne]; omega
          clear hAr hH hN hn hcl h0 n1 n2
          go_wp2_with fail
          refine hdN.mono ?_
          rintro e wd ⟨rfl, hgd⟩
          have hc2 : wd.cell? ⟨g, n, none⟩ = some (.int .i64 (cl : Int)) := by rw [((unhide hAr').grown hgd (by simp)).cell (by omega), unhide hq]
          have hg2 := hide (grown_none (unhide hg1) hgd)
          clear hgd
          go_wp2
          go_ret
          exact ⟨ret_int (unhide hres).symm, unhide hg2⟩

end Go.Proofs.Ytbploaihicakeaa

namespace Go.Proofs.Ytbploaihicakeaa
open Go.RowKit

/-- The code behind the first n pieces. -/
def cdrop : Nat → Code → Code
  | 0, c => c
  | n + 1, .seq _ b => cdrop n b
  | _ + 1, c => c

namespace Gn

def mark (U : Nat → Bool) (k i : Nat) : Bool := if i = k then true else U i

theorem filter_erase : ∀ (l : List Nat) (n : Nat) (h : n < l.length), l.Nodup → l.filter (fun i => decide (i ≠ l[n])) = l.eraseIdx n
  | x :: l, 0, _, hn => by
    have hx : x ∉ l := (List.nodup_cons.1 hn).1
    show (x :: l).filter (fun i => decide (i ≠ x)) = l
    rw [List.filter_cons_of_neg (by simp)]
    refine List.filter_eq_self.2 fun a ha => ?_
    simp only [decide_eq_true_eq]
    rintro rfl
    exact hx ha
  | x :: l, n + 1, h, hn => by
    have hx := List.nodup_cons.1 hn
    have hl : n < l.length := by simpa using h
    show (x :: l).filter (fun i => decide (i ≠ l[n])) = x :: l.eraseIdx n
    rw [List.filter_cons_of_pos, filter_erase l n hl hx.2]
    simp only [decide_eq_true_eq]
    intro e
    exact hx.1 (e ▸ List.getElem_mem hl)

theorem those_nodup (p : Nat → Bool) (n : Nat) : (those p n).Nodup := List.Pairwise.filter _ List.nodup_range

theorem free_mark (c F : Nat → Int) (far : Int) (U : Nat → Bool) (n : Nat) (hn : n < (those (free c F far U) 384).length) :
    those (free c F far (mark U ((those (free c F far U) 384)[n]?.getD 0))) 384 = (those (free c F far U) 384).eraseIdx n := by
  rw [← filter_erase _ n hn (those_nodup _ _), List.getElem?_eq_getElem hn, Option.getD_some]
  generalize (those (free c F far U) 384)[n] = x
  unfold those
  rw [List.filter_filter]
  congr 1
  funext i
  unfold free mark
  by_cases e : i = x
  · subst e; simp
  · simp [e]

theorem free_start4 (c F : Nat → Int) : those (free c F 4 (fun _ => false)) 384 = (those (fun i => c i == 1) 384).filter (afar F) := by
  unfold those
  rw [List.filter_filter]
  congr 1
  funext i
  unfold free afar
  have h : decide (4 ≤ F i) = !decide (F i < 4) := by
    by_cases h : F i < 4
    · rw [decide_eq_true h, decide_eq_false (by omega)]; rfl
    · rw [decide_eq_false h, decide_eq_true (by omega)]; rfl
  rw [h]
  cases (c i == 1) <;> simp

theorem free_start0 {c F : Nat → Int} (h : ∀ i, i < 384 → c i = 1 → 0 ≤ F i) : those (free c F 0 (fun _ => false)) 384 = those (fun i => c i == 1) 384 := by
  unfold those
  refine List.filter_congr fun i hi => ?_
  have hi' := List.mem_range.1 hi
  unfold free
  by_cases e : c i = 1
  · rw [decide_eq_true (h i hi' e), e]; rfl
  · rw [show (c i == 1) = false by simpa using e]; rfl

theorem those_lt {p : Nat → Bool} {m n : Nat} (hn : n < (those p m).length) : (those p m)[n]?.getD 0 < m := by
  rw [List.getElem?_eq_getElem hn]
  exact List.mem_range.1 (List.mem_filter.1 (List.getElem_mem hn)).1

theorem picked_none {d : Dice} {a : Int} {l : List Nat} (h : l.length = 0) : picked d a l = -1 := if_pos h

theorem picked_some {d : Dice} {a : Int} {l : List Nat} {n : Nat} (h : l.length ≠ 0) (hn : d a 0 (l.length : Int) = (n : Int)) : picked d a l = ((l[n]?.getD 0 : Nat) : Int) := by
  unfold picked
  rw [if_neg h, hn, Int.toNat_natCast]

theorem lie_nil {d : Dice} {l : List Nat} (h : l.length = 0) (m k : Nat) : lie d m k l = [] := by
  cases m with
  | zero => rfl
  | succ m => unfold lie; rw [if_pos h]

theorem mons_nil {d : Dice} {f : Int} {l : List Nat} (h : l.length = 0) (m k : Nat) : mons d f m k l = [] := by
  cases m with
  | zero => rfl
  | succ m => unfold mons; rw [if_pos h]

end Gn

theorem Arr.mark {w : World} {g n : Nat} {T : TypeId} {U : Nat → Bool} (h : Arr w g T n (Bols U)) (i : Nat) : Arr (w.setCell ⟨g, i, none⟩ (.bool true)) g T n (Bols (Gn.mark U i)) := by
  refine (h.store i (.bool true)).congr fun j _ => ?_
  unfold Bols Gn.mark
  by_cases e : j = i
  · rw [if_pos e, if_pos e]
  · rw [if_neg e, if_neg e]

theorem info_bool : (Try.prog.info? 4).map (fun i => (i.zero, i.size, i.bytes)) = some (some (.bool false), 1, 1) := by kernel_rfl

/-- What the document's Make hands back. -/
def RefDone (w : World) (d : Gn.Dice) (f : Int) (e : Ending) (w' : World) : Prop :=
  ∃ (c F : Nat → Int) (G nE nI cE cI : Nat) (aE aI : Option Addr), Gn.IsLevel d c F ∧ e = .returned (.agg #[.slice (some ⟨G, 0, none⟩) 384 384, .slice aE nE cE, .slice aI nI cI]) ∧ w.heap.size ≤ G ∧ Arr w' G 5 384 (Byts c) ∧
    nE = (Gn.ents d f c F).length ∧ nI = (Gn.items d c).length ∧ w'.ownsRow w.heap.size 36 11 (.slice aE nE cE) nE (Gn.flat (Gn.ents d f c F)) ∧ w'.ownsRow w.heap.size 57 4 (.slice aI nI cI) nI (Gn.flatI (Gn.items d c)) ∧ w.grownBy w' none

structure RefBase (w : World) (B G gF L : Nat) (c F : Nat → Int) (vE : Value) (nE : Nat) (xs : List Value) (vI : Value) (wr : World) : Prop where
  cells : Arr wr G 5 384 (Byts c)
  fld : Arr wr gF 3 384 (Ints F)
  res : Arr wr B 68 3 (fun _ => .slice none 0 0)
  box : Arr wr L 68 3 (fun j => if j = 0 then .slice (some ⟨G, 0, none⟩) 384 384 else if j = 1 then vE else vI)
  ents : wr.ownsRow (L + 1) 36 11 vE nE xs
  grown : w.grownBy wr none
  o0 : w.heap.size ≤ B
  o1 : B < G
  o2 : G < gF
  o3 : gF < L

theorem RefBase.own {w : World} {B G gF L : Nat} {c F : Nat → Int} {vE : Value} {nE : Nat} {xs : List Value} {vI : Value} {wr wx : World} {r : Option Nat} (h : RefBase w B G gF L c F vE nE xs vI wr) (hg : wr.grownBy wx r) (hr : ∀ n, r = some n → L < n ∧ vE.ownBlock ≠ some n) : RefBase w B G gF L c F vE nE xs vI wx := by
  have h0 := h.o0
  have h1 := h.o1
  have h2 := h.o2
  have h3 := h.o3
  refine ⟨h.cells.grown hg (fun e => ?_), h.fld.grown hg (fun e => ?_), h.res.grown hg (fun e => ?_), h.box.grown hg (fun e => ?_), h.ents.kept hg ?_, grown_own h.grown hg (fun n e => ?_), h0, h1, h2, h3⟩
  · have := (hr _ e).1; omega
  · have := (hr _ e).1; omega
  · have := (hr _ e).1; omega
  · have := (hr _ e).1; omega
  · cases hv : vE.ownBlock with
    | none => exact .inl rfl
    | some n => exact .inr fun e => (hr n e.symm).2 hv
  · have := (hr _ e).1; omega

theorem RefBase.on {w : World} {B G gF L : Nat} {c F : Nat → Int} {vE : Value} {nE : Nat} {xs : List Value} {vI : Value} {wr wx : World} (h : RefBase w B G gF L c F vE nE xs vI wr) (hg : wr.grownBy wx none) : RefBase w B G gF L c F vE nE xs vI wx :=
  h.own hg (fun n e => by cases e)

theorem RefBase.setI {w : World} {B G gF L : Nat} {c F : Nat → Int} {vE : Value} {nE : Nat} {xs : List Value} {vI : Value} {wr : World} (h : RefBase w B G gF L c F vE nE xs vI wr) (vN : Value) : RefBase w B G gF L c F vE nE xs vN (wr.setCell ⟨L, 2, none⟩ vN) := by
  have h0 := h.o0
  have h1 := h.o1
  have h2 := h.o2
  have h3 := h.o3
  have hg := grown_put wr L 2 vN
  refine ⟨h.cells.grown hg (by simp; omega), h.fld.grown hg (by simp; omega), h.res.grown hg (by simp; omega), (h.box.store 2 vN).congr fun j hj => ?_, h.ents.kept hg ?_, grown_own h.grown hg (fun n e => by cases e; omega), h0, h1, h2, h3⟩
  · rcases (show j = 0 ∨ j = 1 ∨ j = 2 by omega) with rfl | rfl | rfl <;> rfl
  · cases hv : vE.ownBlock with
    | none => exact .inl rfl
    | some n => exact .inr fun e => by have := (h.ents.lt n hv).1; cases e; omega

theorem RefBase.setE {w : World} {B G gF L : Nat} {c F : Nat → Int} {vE : Value} {nE : Nat} {xs : List Value} {vI : Value} {wr wx : World} (h : RefBase w B G gF L c F vE nE xs vI wr) (hg : wr.grownBy wx vE.ownBlock) {vN : Value} {n' : Nat} {xs' : List Value} (hN : wx.ownsRow (L + 1) 36 11 vN n' xs') : RefBase w B G gF L c F vN n' xs' vI (wx.setCell ⟨L, 1, none⟩ vN) := by
  have h0 := h.o0
  have h1 := h.o1
  have h2 := h.o2
  have h3 := h.o3
  have hp := grown_put wx L 1 vN
  have hL : ∀ n, vE.ownBlock = some n → L < n := fun n e => (h.ents.lt n e).1
  refine ⟨(h.cells.grown hg (fun e => ?_)).grown hp (by simp; omega), (h.fld.grown hg (fun e => ?_)).grown hp (by simp; omega), (h.res.grown hg (fun e => ?_)).grown hp (by simp; omega), ((h.box.grown hg (fun e => ?_)).store 1 vN).congr fun j hj => ?_, hN.kept hp ?_, grown_own (grown_own h.grown hg (fun n e => ?_)) hp (fun n e => by cases e; omega), h0, h1, h2, h3⟩
  · have := hL _ e; omega
  · have := hL _ e; omega
  · have := hL _ e; omega
  · have := hL _ e; omega
  · rcases (show j = 0 ∨ j = 1 ∨ j = 2 by omega) with rfl | rfl | rfl <;> rfl
  · cases hv : vN.ownBlock with
    | none => exact .inl rfl
    | some n => exact .inr fun e => by have := (hN.lt n hv).1; cases e; omega
  · have := hL _ e; omega

structure RefItm (w : World) (B G gF L U bI : Nat) (c F : Nat → Int) (vE : Value) (nE : Nat) (xs : List Value) (vI : Value) (M : Nat → Bool) (acc : List Gn.Itm) (wr : World) : Prop where
  base : RefBase w B G gF L c F vE nE xs vI wr
  used : Arr wr U 4 384 (Bols M)
  items : wr.ownsRow bI 57 4 vI acc.length (Gn.flatI acc)
  sep : ∀ n, vE.ownBlock = some n → n < U
  o4 : L < U
  o5 : U < bI
  o6 : bI ≤ wr.heap.size

theorem RefItm.on {w : World} {B G gF L U bI : Nat} {c F : Nat → Int} {vE : Value} {nE : Nat} {xs : List Value} {vI : Value} {M : Nat → Bool} {acc : List Gn.Itm} {wr wx : World} (h : RefItm w B G gF L U bI c F vE nE xs vI M acc wr) (hg : wr.grownBy wx none) : RefItm w B G gF L U bI c F vE nE xs vI M acc wx :=
  ⟨h.base.on hg, h.used.grown hg (by simp), h.items.kept hg (by cases vI.ownBlock <;> simp), h.sep, h.o4, h.o5, Nat.le_trans h.o6 hg.size⟩

theorem RefItm.mark {w : World} {B G gF L U bI : Nat} {c F : Nat → Int} {vE : Value} {nE : Nat} {xs : List Value} {vI : Value} {M : Nat → Bool} {acc : List Gn.Itm} {wr : World} (h : RefItm w B G gF L U bI c F vE nE xs vI M acc wr) (k : Nat) : RefItm w B G gF L U bI c F vE nE xs vI (Gn.mark M k) acc (wr.setCell ⟨U, k, none⟩ (.bool true)) := by
  have hg := grown_put wr U k (.bool true)
  have h5 := h.o5
  refine ⟨h.base.own hg (fun n e => ?_), h.used.mark k, h.items.kept hg ?_, h.sep, h.o4, h.o5, Nat.le_trans h.o6 hg.size⟩
  · cases e
    exact ⟨h.o4, fun e => by have := h.sep _ e; omega⟩
  · cases hv : vI.ownBlock with
    | none => exact .inl rfl
    | some n => exact .inr fun e => by have := (h.items.lt n hv).1; cases e; omega

theorem RefItm.add {w : World} {B G gF L U bI : Nat} {c F : Nat → Int} {vE : Value} {nE : Nat} {xs : List Value} {vI vN : Value} {M : Nat → Bool} {acc : List Gn.Itm} {p : Gn.Itm} {wr wx : World} (h : RefItm w B G gF L U bI c F vE nE xs vI M acc wr) (hN : wx.ownsRow bI 57 4 vN (acc.length + 1) (Gn.flatI acc ++ Gn.itemCells p)) (hg : wr.grownBy wx vI.ownBlock) :
    RefItm w B G gF L U bI c F vE nE xs vN M (acc ++ [p]) (wx.setCell ⟨L, 2, none⟩ vN) := by
  have h4 := h.o4
  have h5 := h.o5
  have hp := grown_put wx L 2 vN
  have hb : RefBase w B G gF L c F vE nE xs vI wx := h.base.own hg (fun n e => by
    have := (h.items.lt n e).1
    refine ⟨by omega, fun e' => ?_⟩
    have := h.sep n e'
    omega)
  refine ⟨hb.setI vN, (h.used.grown hg (fun e => ?_)).grown hp (by simp; omega), ?_, h.sep, h.o4, h.o5, Nat.le_trans h.o6 (Nat.le_trans hg.size hp.size)⟩
  · have := (h.items.lt _ e).1; omega
  · rw [Gn.flatI_more, List.length_append]
    refine hN.kept hp ?_
    cases hv : vN.ownBlock with
    | none => exact .inl rfl
    | some n => exact .inr fun e => by have := (hN.lt n hv).1; cases e; omega

structure RefMon (w : World) (B G gF L U bE : Nat) (c F : Nat → Int) (vE : Value) (M : Nat → Bool) (acc : List (Int × Nat)) (wr : World) : Prop where
  base : RefBase w B G gF L c F vE acc.length (Gn.flat acc) (.slice none 0 0) wr
  used : Arr wr U 4 384 (Bols M)
  ents : wr.ownsRow bE 36 11 vE acc.length (Gn.flat acc)
  o4 : L < U
  o5 : U < bE
  o6 : bE ≤ wr.heap.size

theorem RefMon.own {w : World} {B G gF L U bE : Nat} {c F : Nat → Int} {vE : Value} {M : Nat → Bool} {acc : List (Int × Nat)} {wr wx : World} {r : Option Nat} (h : RefMon w B G gF L U bE c F vE M acc wr) (hg : wr.grownBy wx r) (hr : ∀ n, r = some n → U < n ∧ vE.ownBlock ≠ some n) : RefMon w B G gF L U bE c F vE M acc wx := by
  have h4 := h.o4
  refine ⟨h.base.own hg (fun n e => ⟨by have := (hr n e).1; omega, (hr n e).2⟩), h.used.grown hg (fun e => ?_), h.ents.kept hg ?_, h.o4, h.o5, Nat.le_trans h.o6 hg.size⟩
  · have := (hr _ e).1; omega
  · cases hv : vE.ownBlock with
    | none => exact .inl rfl
    | some n => exact .inr fun e => (hr n e.symm).2 hv

theorem RefMon.on {w : World} {B G gF L U bE : Nat} {c F : Nat → Int} {vE : Value} {M : Nat → Bool} {acc : List (Int × Nat)} {wr wx : World} (h : RefMon w B G gF L U bE c F vE M acc wr) (hg : wr.grownBy wx none) : RefMon w B G gF L U bE c F vE M acc wx :=
  h.own hg (fun n e => by cases e)

theorem RefMon.mark {w : World} {B G gF L U bE : Nat} {c F : Nat → Int} {vE : Value} {M : Nat → Bool} {acc : List (Int × Nat)} {wr : World} (h : RefMon w B G gF L U bE c F vE M acc wr) (k : Nat) : RefMon w B G gF L U bE c F vE (Gn.mark M k) acc (wr.setCell ⟨U, k, none⟩ (.bool true)) := by
  have hg := grown_put wr U k (.bool true)
  have h5 := h.o5
  have hE : ∀ n, vE.ownBlock = some n → U < n := fun n e => by have := (h.ents.lt n e).1; omega
  refine ⟨h.base.own hg (fun n e => ?_), h.used.mark k, h.ents.kept hg ?_, h.o4, h.o5, Nat.le_trans h.o6 hg.size⟩
  · cases e
    exact ⟨h.o4, fun e => by have := hE _ e; omega⟩
  · cases hv : vE.ownBlock with
    | none => exact .inl rfl
    | some n => exact .inr fun e => by have := hE n hv; cases e; omega

theorem RefMon.add {w : World} {B G gF L U bE : Nat} {c F : Nat → Int} {vE vN : Value} {M : Nat → Bool} {acc : List (Int × Nat)} {p : Int × Nat} {wr wx : World} (h : RefMon w B G gF L U bE c F vE M acc wr) (hN : wx.ownsRow bE 36 11 vN (acc.length + 1) (Gn.flat acc ++ Gn.entCells p)) (hg : wr.grownBy wx vE.ownBlock) :
    RefMon w B G gF L U bE c F vN M (acc ++ [p]) (wx.setCell ⟨L, 1, none⟩ vN) := by
  have h4 := h.o4
  have h5 := h.o5
  have hp := grown_put wx L 1 vN
  have hN' : wx.ownsRow bE 36 11 vN (acc ++ [p]).length (Gn.flat (acc ++ [p])) := by
    rw [Gn.flat_more, List.length_append]
    exact hN
  refine ⟨h.base.setE hg (owns_mono hN' (by omega)), (h.used.grown hg (fun e => ?_)).grown hp (by simp; omega), hN'.kept hp ?_, h.o4, h.o5, Nat.le_trans h.o6 (Nat.le_trans hg.size hp.size)⟩
  · have := (h.ents.lt _ e).1; omega
  · cases hv : vN.ownBlock with
    | none => exact .inl rfl
    | some n => exact .inr fun e => by have := (hN.lt n hv).1; cases e; omega

end Go.Proofs.Ytbploaihicakeaa
