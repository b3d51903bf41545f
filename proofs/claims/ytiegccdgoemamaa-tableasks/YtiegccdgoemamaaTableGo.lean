/-
  Add, of both packages.
-/
import Derived.Test.YtiegccdgoemamaaTableClone
namespace Go.Proofs.Ytiegccdgoemamaa
open Go.RowKit Go.WideShapes

/-- A new span. -/
def Tb.span (s f : Int) : Nat → Int := fun j => if j = 0 then s else if j = 1 then f else 0

/-- The table with a record. -/
def Tb.next (E : Nat → Nat → Int) (n : Nat) (k s f l : Int) : Nat × (Nat → Nat → Int) :=
  if k = 2 then (n + 1, Tb.put E n (Tb.span s f)) else (n, Tb.set (Tb.set E (Tb.at E s 9223372036854775807 n).toNat 2 f) (Tb.at E s 9223372036854775807 n).toNat 3 l)

/-- A table is handed back, or an error is; nothing that was there has turned. -/
def Tb.Adds (w : World) (N : Nat × (Nat → Nat → Int)) (er : Int) (e : Ending) (w' : World) : Prop :=
  w.grownBy w' none ∧ (er ≠ 0 → e = .returned (.tuple #[.slice none 0 0, .int .i64 er])) ∧ (er = 0 → ∃ a c, e = .returned (.tuple #[.slice a N.1 c, .int .i64 0]) ∧ Tb.Tab w' a N.1 c N.2)

theorem Tb.err_ret {E : Nat → Nat → Int} {n : Nat} {k s f l : Int} (h : Tb.err E n k s f l = 0) (hk : k ≠ 2) : k = 3 ∧ ∃ q : Nat, q < n ∧ Tb.at E s 9223372036854775807 n = (q : Int) := by
  unfold Tb.err at h
  by_cases h1 : k = 2 ∨ k = 3
  · have h3 : k = 3 := h1.resolve_left hk
    refine ⟨h3, ?_⟩
    rw [if_neg (fun h => h h1)] at h
    split at h
    · omega
    · split at h
      · omega
      · try rw [if_pos h3] at h
        unfold Tb.retErr at h
        rcases Tb.at_cases E s 9223372036854775807 n with ⟨hat, -⟩ | ⟨q, hq, hat, -, -⟩
        · rw [hat, if_pos (.inr (by omega))] at h
          omega
        · exact ⟨q, hq, hat⟩
  · rw [if_pos h1] at h
    omega

/-- 'append(l, Span{..})', behind a table of the call's own. -/
theorem wpList_append_span {w : World} {ops : Array Oper} {rest : List Oper} {o : Oper} {x : Act} {Q : Exit → Act → World → Prop} (hgd : o.guard = none) (s d : Operand)
    (ho : o.op = .call { callee := .builtin .append, args := #[s, d], argTypes := #[52, 52] }) (B : Nat) (v : Value) (n : Nat) (E : Nat → Nat → Int) (hs : x.eval s = v) (hown : w.ownsRow B 101 4 v n (Tb.list n E))
    (g : Nat) (e0 e1 : Int) (hx : x.eval d = .slice (some ⟨g, 0, none⟩) 1 1) (hc : w.cell? ⟨g, 0, none⟩ = some (.int .i64 e0) ∧ w.cell? ⟨g, 1, none⟩ = some (.int .i64 e1) ∧ w.cell? ⟨g, 2, none⟩ = some (.int .i64 0) ∧ w.cell? ⟨g, 3, none⟩ = some (.int .i64 0)) (hn : n ≤ 1000) (hbase : B ≤ w.heap.size)
    (hq : ∀ a c w', Tb.Tab w' a (n + 1) c (Tb.put E n (Tb.span e0 e1)) → w.grownBy w' v.ownBlock → wpList Try.prog ops Q rest (x.put o.dst (.slice a (n + 1) c)) w') : wpList Try.prog ops Q (o :: rest) x w := by
  obtain ⟨i0, hi, hz0, hz1, hz2⟩ := info_parts Tb.info_span
  refine wpList_append_own _ hgd s d 52 ho B 101 i0 _ 4 32 Try.underlying52 hi hz0 hz1 hz2 rfl (by decide) v n (Tb.list n E) hs hown ⟨g, 0, none⟩ 1 1 (Tb.cells (Tb.span e0 e1)).toList hx rfl (fun j u hj => ?_) (fun u hu => ?_) (by unfold maxLen; omega) (by omega) hbase ?_
  · rw [add_plain, Nat.zero_add]
    rcases (show j = 0 ∨ j = 1 ∨ j = 2 ∨ j = 3 ∨ 4 ≤ j by omega) with rfl | rfl | rfl | rfl | h
    · rw [← hj]; exact hc.1
    · rw [← hj]; exact hc.2.1
    · rw [← hj]; exact hc.2.2.1
    · rw [← hj]; exact hc.2.2.2
    · rw [List.getElem?_eq_none (by show 4 ≤ j; exact h)] at hj
      cases hj
  · simp only [Tb.cells, List.mem_cons, List.not_mem_nil, or_false] at hu
    rcases hu with rfl | rfl | rfl | rfl <;> rfl
  · intro v' w' ho' hg hnil
    rw [Tb.list_more] at ho'
    obtain ⟨a, c, rfl, ht⟩ := Tb.of_owns ho' (fun h => by omega)
    exact hq a c w' ht hg

set_option maxRecDepth 8000 in
set_option maxHeartbeats 6400000 in
theorem tbAdd_any (a : Option Addr) (n c : Nat) (E : Nat → Nat → Int) (k i s f l : Int) (w : World) (h : Tb.Tab w a n c E) (hn : n ≤ 1000) (hf : f ≤ 9223372036854775807) :
    Calls Try.prog 21 #[.slice a n c, .agg #[.int .i64 k, .int .i64 i, .int .i64 s, .int .i64 f, .int .i64 l]] w (Tb.Adds w (Tb.next E n k s f l) (Tb.err E n k s f l)) := by
  obtain ⟨W1, R, hW1, hR, hg1, hlt1, hB⟩ := Tb.boxedR w k i s f l
  have cr := hide (tbRefusal_any a n c E k i s f l W1 (h.2.2.1.on hg1) (by unfold maxLen; omega) hf)
  have cc := hide fun x (hg : w.grownBy x none) => tbClone_any a n c E x (h.on hg) hn
  have ct := hide fun x (hg : w.grownBy x none) => tbLast_any a n c E s x (h.2.2.1.on hg) (by unfold maxLen; omega)
  have HB := hide hB
  have HG := hide hg1
  have HLT := hide hlt1
  have HR0 := hide hR
  obtain ⟨b0, b1, b2, b3, b4⟩ := hB W1 (World.grownBy.refl _ _)
  obtain ⟨er, her⟩ : ∃ er, Tb.err E n k s f l = er := ⟨_, rfl⟩
  obtain ⟨N, hN⟩ : ∃ N, Tb.next E n k s f l = N := ⟨_, rfl⟩
  have HE := hide her
  have HN := hide hN
  rw [her] at cr ⊢
  rw [hN]
  clear h her hN hB hg1 hlt1
  by_cases h0 : er = 0
  · subst h0
    by_cases hk : k = 2
    · subst hk
      have HV := hide ((if_pos rfl).symm.trans (unhide HN) : (n + 1, Tb.put E n (Tb.span s f)) = N)
      clear HE HN ct
      go_enter Try.func21, Try.ntmps21
      go_upto_region 1 with fail
      rw [← hW1, ← hR]
      clear hW1 hR
      go_wp2_with fail
      refine (unhide cr).mono ?_
      rintro e y ⟨rfl, hy⟩
      have HY := hide (grown_trans (unhide HG) hy)
      clear b0 b1 b2 b3 b4
      obtain ⟨b0, b1, b2, b3, b4⟩ := unhide HB y hy
      have HYW := hide hy
      clear hy cr
      go_wp2_with fail
      refine (unhide cc y (unhide HY)).mono ?_
      rintro e z ⟨v, rfl, hown, hv, hz⟩
      have HZ := hide (grown_trans (unhide HY) hz)
      clear b0 b1 b2 b3 b4
      obtain ⟨b0, b1, b2, b3, b4⟩ := unhide HB z (grown_trans (unhide HYW) hz)
      have HO := hide (And.intro hown hz.size)
      clear hown hv hz cc
      have HC := hide fun (o : Obj) => (unhide HO).1.alloc o
      have hsz := hide (show ∀ o, y.heap.size ≤ (z.alloc o).heap.size from fun o => by have := (unhide HO).2; simp; omega)
      have hnew := hide (show _ from fun (e0 e1 e2 e3 : Int) => Arr.lit (heap_alloc_new z (.cells #[.int .i64 e0, .int .i64 e1, .int .i64 e2, .int .i64 e3] 101)))
      have hlo := hide (show v.ownBlock = none ∨ ∃ b, v.ownBlock = some b ∧ w.heap.size ≤ b from by
        cases hb : v.ownBlock with
        | none => exact .inl rfl
        | some b => exact .inr ⟨b, rfl, Nat.le_trans (unhide HY).size ((unhide HO).1.lt b hb).1⟩)
      go_wp2_with (at_builtin; refine wpList_append_span rfl _ _ rfl y.heap.size v n E rfl (unhide HC _) z.heap.size s f rfl ⟨(unhide hnew _ _ _ _).cell (i := 0) (by simp), (unhide hnew _ _ _ _).cell (i := 1) (by simp), (unhide hnew _ _ _ _).cell (i := 2) (by simp), (unhide hnew _ _ _ _).cell (i := 3) (by simp)⟩ hn (unhide hsz _) ?_)
      intro a2 c2 x ht hg
      have HT := hide ht
      have HX := hide (grown_own (grown_alloc (unhide HZ) _) hg (by
        intro m hm
        rcases unhide hlo with h | ⟨b, h, hb⟩
        · rw [h] at hm; cases hm
        · rw [h] at hm; cases hm; exact hb))
      clear ht hg HC hsz hnew hlo HO
      go_wp2
      go_ret2
      obtain rfl := unhide HV
      exact ⟨unhide HX, fun h => absurd rfl h, fun _ => ⟨a2, c2, rfl, unhide HT⟩⟩
    · obtain ⟨rfl, q, hq, hat⟩ := Tb.err_ret (unhide HE) hk
      have HV := hide ((if_neg (by decide)).symm.trans (unhide HN) : (n, Tb.set (Tb.set E (Tb.at E s 9223372036854775807 n).toNat 2 f) (Tb.at E s 9223372036854775807 n).toNat 3 l) = N)
      rw [hat, Int.toNat_natCast] at HV
      rw [hat] at ct
      have hq' : (q : Int) < (n : Int) := by omega
      have HQ := hide hq
      clear HE HN hk hat hq
      go_enter Try.func21, Try.ntmps21
      go_upto_region 1 with fail
      rw [← hW1, ← hR]
      clear hW1 hR
      go_wp2_with fail
      refine (unhide cr).mono ?_
      rintro e y ⟨rfl, hy⟩
      have HY := hide (grown_trans (unhide HG) hy)
      clear b0 b1 b2 b3 b4
      obtain ⟨b0, b1, b2, b3, b4⟩ := unhide HB y hy
      have HYW := hide hy
      clear hy cr
      go_wp2_with fail
      refine (unhide cc y (unhide HY)).mono ?_
      rintro e z ⟨v, rfl, hown, hv, hz⟩
      obtain ⟨g, cap, rfl, hlo, hnc, hcm, hO⟩ := Tb.Own.of_owns hown (fun h => by have := hv.1 h; have := unhide HQ; omega)
      have HZ := hide (grown_trans (unhide HY) hz)
      have HZW := hide (grown_trans (unhide HYW) hz)
      have HLO := hide (show w.heap.size ≤ g from Nat.le_trans (unhide HY).size hlo)
      have HO := hide hO
      have HRG := hide (show R ≠ g from by
        have h1 := unhide HLT
        have h2 := (unhide HYW).size
        omega)
      have HCAP := hide hnc
      have HCM := hide hcm
      clear b0 b1 b2 b3 b4
      obtain ⟨b0, b1, b2, b3, b4⟩ := unhide HB z (unhide HZW)
      clear hown hv hz cc hlo hnc hcm hO
      go_wp2_with fail
      refine (unhide ct z (unhide HZ)).mono ?_
      rintro e x ⟨rfl, hx⟩
      have HX := hide (grown_trans (unhide HZ) hx)
      clear b0 b1 b2 b3 b4
      obtain ⟨b0, b1, b2, b3, b4⟩ := unhide HB x (grown_trans (unhide HZW) hx)
      have HO2 := hide ((unhide HO).on hx)
      clear hx ct HO
      obtain ⟨_, hb', -, -, -, u2, u3⟩ := (unhide HO2).rows.row (unhide HQ)
      cases hb'
      have fr := fun i => (unhide HO2).free i
      go_upto_region 8 with fail
      have HF := hide (show w.grownBy ((x.setCell ⟨g, q * 4 + 2, none⟩ (.int .i64 f)).setCell ⟨g, q * 4 + 3, none⟩ (.int .i64 l)).drew none ∧ Tb.Tab ((x.setCell ⟨g, q * 4 + 2, none⟩ (.int .i64 f)).setCell ⟨g, q * 4 + 3, none⟩ (.int .i64 l)).drew (some ⟨g, 0, none⟩) n cap (Tb.set (Tb.set E q 2 f) q 3 l) from
        ⟨grown_drew (grown_store (grown_store (unhide HX) ⟨g, q * 4 + 2, none⟩ (unhide HLO) _) ⟨g, q * 4 + 3, none⟩ (unhide HLO) _) 1,
          unhide HCAP, unhide HCM, (((unhide HO2).set q 2 (by omega) f).set q 3 (by omega) l).rows.on (grown_drew (World.grownBy.refl _ _) 1), fun h => by have := unhide HQ; omega⟩)
      obtain rfl := unhide HV
      go_region_with (fail)
      all_goals
        go_wp2
        go_ret2
        exact ⟨(unhide HF).1, fun h => absurd rfl h, fun _ => ⟨_, cap, rfl, (unhide HF).2⟩⟩
  · have h0' : (er != 0) = true := by simp [h0]
    have H0 := hide h0
    clear HE HN cc ct h0
    go_enter Try.func21, Try.ntmps21
    go_upto_region 1 with fail
    rw [← hW1, ← hR]
    clear hW1 hR
    go_wp2_with fail
    refine (unhide cr).mono ?_
    rintro e y ⟨rfl, hy⟩
    have HY := hide (grown_trans (unhide HG) hy)
    clear b0 b1 b2 b3 b4 hy cr
    go_wp2
    go_ret2
    exact ⟨unhide HY, fun _ => rfl, fun h => absurd h (unhide H0)⟩

end Go.Proofs.Ytiegccdgoemamaa
