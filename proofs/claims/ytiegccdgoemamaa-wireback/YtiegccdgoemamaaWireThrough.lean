/-
  A kind's fields gone through with a side.
-/
import Derived.Test.YtiegccdgoemamaaWireDown
import Derived.Deep.MidRow
namespace Go.Proofs.Ytiegccdgoemamaa
open Go.RowKit

section
variable {T : TypeId} {v : Value} {f : FuncId} {σ : Type} {step : σ → Int → Int → Int → Int → σ × Int} {H : World → σ → (Nat → Prop) → Prop} {Lv : σ → Prop} {w x y : World} {s : σ} {B : Nat → Prop}

theorem Wr.Side.ok (h : Wr.Side T v f step H Lv) (s : σ) (n k lo hi : Int) (hn : -9223372036854775808 ≤ n ∧ n ≤ 9223372036854775807) (hl : -9223372036854775808 ≤ lo ∧ lo ≤ 0) (hh : 0 ≤ hi ∧ hi ≤ 9223372036854775807) : -9223372036854775808 ≤ (step s n k lo hi).2 ∧ (step s n k lo hi).2 ≤ 9223372036854775807 := by
  have := h.ans s n k lo hi
  omega

theorem Wr.G.num_ok {g : Wr.G} {k : Nat} {a : Int} (hr : ∀ k, -9223372036854775808 ≤ g.n k ∧ g.n k ≤ 9223372036854775807) (ha : -9223372036854775808 ≤ a ∧ a ≤ 9223372036854775807) : ∀ j, -9223372036854775808 ≤ (g.num k a).n j ∧ (g.num k a).n j ≤ 9223372036854775807 := fun j => by
  show -9223372036854775808 ≤ Wr.upd g.n k a j ∧ Wr.upd g.n k a j ≤ 9223372036854775807
  unfold Wr.upd
  by_cases q : j = k
  · rw [if_pos q]; exact ha
  · rw [if_neg q]; exact hr j

theorem Wr.In.congr {B' : Nat → Prop} {R M Z m : Nat} {ty : TypeId} {F G : Nat → Value} (h : Wr.In H w x B s B' T v R M Z ty m F) (he : ∀ i, i < m → F i = G i) : Wr.In H w x B s B' T v R M Z ty m G :=
  ⟨h.held, h.kept, h.away, h.row, h.box.congr he, h.res, h.low⟩

theorem Wr.In.putsFrom (hS : Wr.Side T v f step H Lv) {B' : Nat → Prop} {R M Z m : Nat} {ty : TypeId} : ∀ (vs : List Value) (o : Nat) (x : World) (F : Nat → Value), Wr.In H w x B s B' T v R M Z ty m F → Wr.In H w (x.setCells M o vs) B s B' T v R M Z ty m (fun j => if o ≤ j ∧ j < o + vs.length then vs.getD (j - o) undef else F j)
  | [], o, x, F, h => h.congr (fun i _ => (if_neg (by simp only [List.length_nil]; omega)).symm)
  | u :: vs, o, x, F, h => (Wr.In.putsFrom hS vs (o + 1) _ _ (h.put hS o u)).congr (fun i _ => by
      by_cases q : i = o
      · rw [if_neg (by omega), if_pos q, if_pos (by simp; omega), q, Nat.sub_self]; rfl
      · by_cases q2 : o + 1 ≤ i ∧ i < o + 1 + vs.length
        · rw [if_pos q2, if_pos (by simp; omega), show i - o = (i - (o + 1)) + 1 by omega]; rfl
        · rw [if_neg q2, if_neg q, if_neg (by simp; omega)])

theorem Wr.In.puts (hS : Wr.Side T v f step H Lv) {B' : Nat → Prop} {R M Z m : Nat} {ty : TypeId} {F G : Nat → Value} (h : Wr.In H w x B s B' T v R M Z ty m F) (vs : List Value) (hl : vs.length = m) (hG : ∀ j, j < m → vs[j]? = some (G j)) : Wr.In H w (x.setCells M 0 vs) B s B' T v R M Z ty m G :=
  (Wr.In.putsFrom hS vs 0 x F h).congr (fun i hi => by
    rw [if_pos (by omega), List.getD_eq_getElem?_getD, Nat.sub_zero, hG i hi]
    rfl)

theorem Wr.In.range {B' : Nat → Prop} {R M Z m : Nat} {ty : TypeId} {F : Nat → Value} (h : Wr.In H w x B s B' T v R M Z ty m F) (vs : List Value) (hl : vs.length = m) (hF : ∀ j, j < m → vs[j]? = some (F j)) : x.rangeAt M 0 vs := fun j u hj => by
  have hjm : j < m := by
    have := (List.getElem?_eq_some_iff.1 hj).1
    omega
  rw [hF j hjm] at hj
  rw [Nat.zero_add, h.box.cell hjm]
  exact hj

theorem Wr.In.there {B' : Nat → Prop} {R M Z m : Nat} {ty : TypeId} {F : Nat → Value} (h : Wr.In H w x B s B' T v R M Z ty m F) : x.there M 0 m := fun j hj => by
  rw [Nat.zero_add]
  exact ⟨by rw [h.box.cell hj]; rfl, h.box.free j⟩

theorem Wr.upS_back (h : Wr.Side T v f step H Lv) {g : Wr.G} {z : Nat → Int} (q : Lv (Wr.upS step s g z).1) : Lv s := by
  unfold Wr.upS at q
  dsimp only at q
  exact h.back _ _ _ _ _ (h.back _ _ _ _ _ (Wr.four_back h (i := 4) (j := 0) (by omega) (h.back _ _ _ _ _ (h.back _ _ _ _ _ (Wr.listS_back h (Wr.input_back h) _ _ _ _ q)))))

theorem Wr.chunkS_back (h : Wr.Side T v f step H Lv) {g : Wr.G} {z : Nat → Int} (q : Lv (Wr.chunkS step s g z).1) : Lv s := by
  unfold Wr.chunkS at q
  dsimp only at q
  exact h.back _ _ _ _ _ (h.back _ _ _ _ _ (h.back _ _ _ _ _ (Wr.listS_back h (Wr.datum_back h) _ _ _ _ q)))

theorem Wr.downS_back (h : Wr.Side T v f step H Lv) {g : Wr.G} {zr z : Nat → Nat → Int} (q : Lv (Wr.downS step s g zr z).1) : Lv s := by
  unfold Wr.downS at q
  dsimp only at q
  exact h.back _ _ _ _ _ (h.back _ _ _ _ _ (h.back _ _ _ _ _ (h.back _ _ _ _ _ (Wr.listR_back h (Wr.seatsT_back h 0 4 (by omega) (h.back _ _ _ _ _ q))))))

/-- The first kind's fields. -/
def Wr.joinS (step : σ → Int → Int → Int → Int → σ × Int) (s : σ) (g : Wr.G) : σ × Int × Int :=
  let p1 := step s (g.n 2) 4 0 1073741823
  let p2 := step p1.1 (Wr.bit g.watch) 1 0 1
  (p2.1, p1.2, p2.2)

def Wr.Joins (H : World → σ → (Nat → Prop) → Prop) (w : World) (B : Nat → Prop) (g : Wr.G) (r : σ × Int × Int) (e : Ending) (w' : World) : Prop :=
  ∃ B', e = .returned (.agg (((g.num 2 r.2.1).set3 (r.2.2 == 1)).cells)) ∧ H w' r.1 B' ∧ Wr.K w B w' B'

/-- The two fields that other kinds begin with. -/
def Wr.headS (step : σ → Int → Int → Int → Int → σ × Int) (s : σ) (g : Wr.G) : σ × Int × Int :=
  let p1 := step s (g.n 1) 4 0 1073741823
  let p2 := step p1.1 (g.n 2) 4 0 1073741823
  (p2.1, p1.2, p2.2)

def Wr.headG {α : Type} (g : Wr.G) (r : α × Int × Int) : Wr.G := (g.num 1 r.2.1).num 2 r.2.2

theorem Wr.upsG {g : Wr.G} {r : σ × Int × Int × (Nat → Int) × Int × Int × List Int} {e : Ending} {w' : World} (h : Wr.Ups H w B g r e w') : ∃ B' O G, G = (((((((g.set4 r.2.1).num 5 r.2.2.1).four 6 r.2.2.2.1 4).num 10 r.2.2.2.2.1).num 11 r.2.2.2.2.2.1).set12 (some ⟨O, 0, none⟩, r.2.2.2.2.2.2.length, r.2.2.2.2.2.2.length))) ∧ e = .returned (.agg G.cells) ∧ w.heap.size ≤ O ∧ ¬ B' O ∧ w'.heap[O]? = some (.cells (r.2.2.2.2.2.2.map (Value.int .i64)).toArray 3 (0, 0)) ∧ H w' r.1 B' ∧ Wr.K w B w' B' := by
  obtain ⟨B', O, h⟩ := h
  exact ⟨B', O, _, rfl, h⟩

theorem Wr.chunksG {g : Wr.G} {r : σ × Int × Int × Int × List Int} {e : Ending} {w' : World} (h : Wr.Chunks H w B g r e w') : ∃ B' O G, G = ((((g.num 15 r.2.1).num 27 r.2.2.1).num 28 r.2.2.2.1).set29 (some ⟨O, 0, none⟩, r.2.2.2.2.length, r.2.2.2.2.length)) ∧ e = .returned (.agg G.cells) ∧ w.heap.size ≤ O ∧ ¬ B' O ∧ w'.heap[O]? = some (.cells (r.2.2.2.2.map (Value.int .u8)).toArray 5 (0, 0)) ∧ H w' r.1 B' ∧ Wr.K w B w' B' := by
  obtain ⟨B', O, h⟩ := h
  exact ⟨B', O, _, rfl, h⟩

theorem Wr.downsG {g : Wr.G} {r : σ × Int × Int × Int × Int × (Nat × (Nat → Nat → Int)) × (Nat → Int × List Int) × Int} {e : Ending} {w' : World} (h : Wr.Downs H w B g r e w') : ∃ B' O Os G, G = Wr.downG g r O Os ∧ e = .returned (.agg G.cells) ∧ w.heap.size ≤ O ∧ ¬ B' O ∧ Wr.Bx w' O 50 (r.2.2.2.2.2.1.1 * 5) (Wr.flat r.2.2.2.2.2.1.2) ∧ (∀ j, j < 4 → w.heap.size ≤ Os j ∧ ¬ B' (Os j) ∧ w'.heap[Os j]? = some (Wr.rowObj (r.2.2.2.2.2.2.1 j).2)) ∧ H w' r.1 B' ∧ Wr.K w B w' B' := by
  obtain ⟨B', O, Os, h⟩ := h
  exact ⟨B', O, Os, _, rfl, h⟩

set_option maxRecDepth 16000 in
set_option maxHeartbeats 12800000 in
theorem wThrough_join (h : Wr.Side T v f step H Lv) (g : Wr.G) (hk0 : g.n 0 = 1) (hr : ∀ k, -9223372036854775808 ≤ g.n k ∧ g.n k ≤ 9223372036854775807) (hs : H w s B) (hl : Lv (Wr.joinS step s g).1) :
    Calls Try.prog 32 #[.agg #[.iface T v], .agg g.cells] w (Wr.Joins H w B g (Wr.joinS step s g)) := by
  have HK0 := hide hk0
  clear hk0
  have hm := h.meth
  have hc := h.call
  obtain ⟨x, hx⟩ : ∃ x, x = ((w.alloc (.cells #[.iface T v] 73)).alloc (.cells g.cells 29)).alloc (.cells Wr.G.zero.cells 29) := ⟨_, rfl⟩
  have I0 : Hid (Wr.In H w x B s B T v w.heap.size (w.heap.size + 1) (w.heap.size + 1 + 1) 29 30 g.box) := by
    show Wr.In H w x B s B T v _ _ _ _ _ _
    rw [hx]
    exact Wr.In.first h hs _ _ rfl (fun i hi => Wr.G.at g i hi) rfl
  have hg0 : Hid (w.grownBy x none) := by
    show w.grownBy x none
    rw [hx]
    exact grown_alloc (grown_alloc (World.grownBy_alloc _ _ _) _) _
  obtain ⟨R, hR⟩ : ∃ R, w.heap.size = R := ⟨_, rfl⟩
  rw [hR] at I0
  have HR := hide hR
  have HLV := hide hl
  clear hs hl
  unfold Wr.G.cells at hx
  unfold Wr.G.zero at hx
  go_enter Try.func32, Try.ntmps32
  unfold Wr.G.cells
  go_upto_region 1 with fail
  rw [← hx]
  clear hx hR
  obtain ⟨M, hM⟩ : ∃ M, R + 1 = M := ⟨_, rfl⟩
  rw [hM] at I0 ⊢
  obtain ⟨Z, hZ⟩ : ∃ Z, M + 1 = Z := ⟨_, rfl⟩
  rw [hZ] at I0 ⊢
  clear hM hZ

  have c0 : x.cell? ⟨M, 0, none⟩ = some (.int .i64 1) := (((unhide I0).box.cell (i := 0) (by omega)).trans (show some (Value.int .i64 (g.n 0)) = _ by rw [unhide HK0]))
  have c2 : x.cell? ⟨M, 2, none⟩ = some (.int .i64 (g.n 2)) := (unhide I0).box.cell (i := 2) (by omega)
  have u0 := (unhide I0).row
  have fM := (unhide I0).box.free
  obtain ⟨p1, hp1⟩ : ∃ p, step s (g.n 2) 4 0 1073741823 = p := ⟨_, rfl⟩
  obtain ⟨s1, a1⟩ := p1
  have cf := hide (wNumber_any h (g.n 2) (hr 2).1 (hr 2).2 (unhide I0).held (by have q := unhide HLV; unfold Wr.joinS at q; dsimp only at q; have q := q; first | exact q | exact h.back _ _ _ _ _ (q) | exact h.back _ _ _ _ _ (h.back _ _ _ _ _ (q)) | exact h.back _ _ _ _ _ (h.back _ _ _ _ _ (h.back _ _ _ _ _ (q))) | exact h.back _ _ _ _ _ (h.back _ _ _ _ _ (h.back _ _ _ _ _ (h.back _ _ _ _ _ (q)))) | exact h.back _ _ _ _ _ (h.back _ _ _ _ _ (h.back _ _ _ _ _ (h.back _ _ _ _ _ (h.back _ _ _ _ _ (q)))))))
  rw [hp1] at cf
  try dsimp only [Wr.num] at cf
  have HP1 := hide hp1
  clear hp1
  go_wp2_with fail
  refine (unhide cf).mono ?_
  rintro e y1 ⟨B1, rfl, hs2, hk2⟩
  have I0n := hide ((unhide I0).next hs2 hk2)
  have c2' : y1.cell? ⟨M, 2, none⟩ = some (.int .i64 (g.n 2)) := (unhide I0n).box.cell (i := 2) (by omega)
  have f2' := (unhide I0n).box.free
  have I1 := hide ((unhide I0n).put h 2 (.int .i64 a1))
  rw [Wr.G.num_box g 2 a1 ⟨by decide, by decide, by decide, by decide, by decide, by decide, by decide, by decide, by decide⟩] at I1
  clear cf hs2 hk2 I0 I0n c0 c2 u0 fM
  go_upto_region 8 with fail
  obtain ⟨y1s, hy1s⟩ : ∃ z, y1.setCell ⟨M, 2, none⟩ (.int .i64 a1) = z := ⟨_, rfl⟩
  rw [hy1s] at I1 ⊢
  clear hy1s c2' f2' y1

  have c0 : y1s.cell? ⟨M, 0, none⟩ = some (.int .i64 1) := (((unhide I1).box.cell (i := 0) (by omega)).trans (show some (Value.int .i64 (g.n 0)) = _ by rw [unhide HK0]))
  have c3 : y1s.cell? ⟨M, 3, none⟩ = some (.bool g.watch) := (unhide I1).box.cell (i := 3) (by omega)
  have u0 := (unhide I1).row
  have fM := (unhide I1).box.free
  obtain ⟨p2, hp2⟩ : ∃ p, step s1 (Wr.bit g.watch) 1 0 1 = p := ⟨_, rfl⟩
  obtain ⟨s2, a2⟩ := p2
  have cf := hide (wFlag_any h g.watch (unhide I1).held (by have q := unhide HLV; unfold Wr.joinS at q; simp only [unhide HP1] at q; have q := q; first | exact q | exact h.back _ _ _ _ _ (q) | exact h.back _ _ _ _ _ (h.back _ _ _ _ _ (q)) | exact h.back _ _ _ _ _ (h.back _ _ _ _ _ (h.back _ _ _ _ _ (q))) | exact h.back _ _ _ _ _ (h.back _ _ _ _ _ (h.back _ _ _ _ _ (h.back _ _ _ _ _ (q)))) | exact h.back _ _ _ _ _ (h.back _ _ _ _ _ (h.back _ _ _ _ _ (h.back _ _ _ _ _ (h.back _ _ _ _ _ (q)))))))
  rw [hp2] at cf
  try dsimp only [Wr.num] at cf
  have HP2 := hide hp2
  clear hp2
  go_wp2_with fail
  refine (unhide cf).mono ?_
  rintro e y2 ⟨B2, rfl, hs2, hk2⟩
  have I1n := hide ((unhide I1).next hs2 hk2)
  have c3' : y2.cell? ⟨M, 3, none⟩ = some (.bool g.watch) := (unhide I1n).box.cell (i := 3) (by omega)
  have f3' := (unhide I1n).box.free
  have I2 := hide ((unhide I1n).put h 3 (.bool (a2 == 1)))
  rw [Wr.G.set3_box (g.num 2 a1) (a2 == 1)] at I2
  clear cf hs2 hk2 I1 I1n c0 c3 u0 fM
  go_upto_region 17 with fail
  obtain ⟨y2s, hy2s⟩ : ∃ z, y2.setCell ⟨M, 3, none⟩ (.bool (a2 == 1)) = z := ⟨_, rfl⟩
  rw [hy2s] at I2 ⊢
  clear hy2s c3' f3' y2
  have he : Hid (Wr.joinS step s g = (s2, a1, a2)) := (show _ = _ by unfold Wr.joinS; rw [unhide HP1]; dsimp only; rw [unhide HP2])

  obtain ⟨C, hC⟩ : ∃ C, Wr.G.cells (((g.num 2 a1).set3 (a2 == 1))) = C := ⟨_, rfl⟩
  have hsz : C.size = 30 := by rw [← hC]; rfl
  have hrg : y2s.rangeAt M 0 C.toList := fun j u hj => by
    have hj30 : j < 30 := by
      have := (List.getElem?_eq_some_iff.1 hj).1
      simpa [hsz] using this
    have h1 := Wr.G.at (((g.num 2 a1).set3 (a2 == 1))) j hj30
    rw [hC] at h1
    rw [Array.getElem?_toList, h1] at hj
    rw [Nat.zero_add, (unhide I2).box.cell hj30]
    exact hj
  have hth : y2s.there Z 0 C.size := fun j hj => by
    obtain ⟨q, hq⟩ := (unhide I2).res
    rw [hsz] at hj
    rw [Nat.zero_add]
    exact ⟨by rw [hq.cell hj]; rfl, hq.free j⟩
  have hone : C.all (·.oneCell') = true := by rw [← hC]; exact Wr.G.one _
  have hi1 : (Try.prog.info? 29).map (·.size) = some C.toList.length := by
    rw [Array.length_toList, hsz]
    kernel_rfl
  have hld : (loadVar 29 ⟨Z, 0, none⟩).run Try.prog (y2s.setCells Z 0 C.toList) = .ok (.agg C) (y2s.setCells Z 0 C.toList) :=
    run_loadVar_mid (P := Try.prog) (y2s.setCells Z 0 C.toList) Z 0 29 C.toList _ (World.rangeAt_setCells_same y2s Z 0 C.toList (by rw [Array.length_toList]; exact hth)) Try.underlying29 rfl hi1
  have hi2 : (Try.prog.info? 29).map (·.size) = some C.size := by rw [hsz]; kernel_rfl
  have HC := hide hC
  have hfo := (unhide I2).fixed h C.toList
  have HFX := hide hfo
  clear hC hsz I2 hfo
  go_wp2_with (first | refine wpList_load_mid rfl 29 (.tmp 3) rfl M 0 rfl C.toList _ hrg Try.underlying29 rfl hi1 ?_ | refine wpList_store_mid rfl 29 (.tmp 4) (.tmp 47) rfl Z 0 C rfl rfl hth hi2 hone ?_)
  obtain ⟨W, hW⟩ : ∃ W, y2s.setCells Z 0 C.toList = W := ⟨_, rfl⟩
  have HW := hide hW
  rw [hW] at hld ⊢
  clear hrg hth hone hi1 hi2 hW
  go_wp2
  refine bodyPost_ret (v := .agg C) (by simp [results, Try.results32, Act.put, asAddr, hld]) rfl ?_
  have hW := unhide HW
  have hC := unhide HC

  obtain ⟨h1, h2⟩ := unhide HFX
  subst hW
  subst hC
  rw [unhide he]
  exact ⟨B2, rfl, h1, h2⟩

set_option maxRecDepth 16000 in
set_option maxHeartbeats 12800000 in
theorem wThrough_up (h : Wr.Side T v f step H Lv) (g : Wr.G) (z : Nat → Int) (hk0 : g.n 0 = 2) (hr : ∀ k, -9223372036854775808 ≤ g.n k ∧ g.n k ≤ 9223372036854775807) (hb : 0 ≤ g.bits ∧ g.bits ≤ 4294967295) (hn : (g.row 0).2.1 ≤ 1048576)
    (hz : ∀ i, i < (g.row 0).2.1 → ∃ b o, (g.row 0).1 = some ⟨b, o, none⟩ ∧ b < w.heap.size ∧ ¬ B b ∧ w.cell? ⟨b, o + i, none⟩ = some (.int .i64 (z i)) ∧ -9223372036854775808 ≤ z i ∧ z i ≤ 9223372036854775807) (hs : H w s B) (hl : Lv (Wr.upS step (Wr.headS step s g).1 (Wr.headG g (Wr.headS step s g)) z).1) :
    Calls Try.prog 32 #[.agg #[.iface T v], .agg g.cells] w (Wr.Ups H w B (Wr.headG g (Wr.headS step s g)) (Wr.upS step (Wr.headS step s g).1 (Wr.headG g (Wr.headS step s g)) z)) := by
  have HK0 := hide hk0
  have HLW := hide hl
  replace hl := Wr.upS_back h hl
  clear hk0
  have hm := h.meth
  have hc := h.call
  obtain ⟨x, hx⟩ : ∃ x, x = ((w.alloc (.cells #[.iface T v] 73)).alloc (.cells g.cells 29)).alloc (.cells Wr.G.zero.cells 29) := ⟨_, rfl⟩
  have I0 : Hid (Wr.In H w x B s B T v w.heap.size (w.heap.size + 1) (w.heap.size + 1 + 1) 29 30 g.box) := by
    show Wr.In H w x B s B T v _ _ _ _ _ _
    rw [hx]
    exact Wr.In.first h hs _ _ rfl (fun i hi => Wr.G.at g i hi) rfl
  have hg0 : Hid (w.grownBy x none) := by
    show w.grownBy x none
    rw [hx]
    exact grown_alloc (grown_alloc (World.grownBy_alloc _ _ _) _) _
  obtain ⟨R, hR⟩ : ∃ R, w.heap.size = R := ⟨_, rfl⟩
  rw [hR] at I0
  have HR := hide hR
  have HLV := hide hl
  clear hs hl
  unfold Wr.G.cells at hx
  unfold Wr.G.zero at hx
  go_enter Try.func32, Try.ntmps32
  unfold Wr.G.cells
  go_upto_region 1 with fail
  rw [← hx]
  clear hx hR
  obtain ⟨M, hM⟩ : ∃ M, R + 1 = M := ⟨_, rfl⟩
  rw [hM] at I0 ⊢
  obtain ⟨Z, hZ⟩ : ∃ Z, M + 1 = Z := ⟨_, rfl⟩
  rw [hZ] at I0 ⊢
  clear hM hZ

  have c0 : x.cell? ⟨M, 0, none⟩ = some (.int .i64 2) := (((unhide I0).box.cell (i := 0) (by omega)).trans (show some (Value.int .i64 (g.n 0)) = _ by rw [unhide HK0]))
  have c1 : x.cell? ⟨M, 1, none⟩ = some (.int .i64 (g.n 1)) := (unhide I0).box.cell (i := 1) (by omega)
  have u0 := (unhide I0).row
  have fM := (unhide I0).box.free
  obtain ⟨p1, hp1⟩ : ∃ p, step s (g.n 1) 4 0 1073741823 = p := ⟨_, rfl⟩
  obtain ⟨s1, a1⟩ := p1
  have cf := hide (wNumber_any h (g.n 1) (hr 1).1 (hr 1).2 (unhide I0).held (by have q := unhide HLV; unfold Wr.headS at q; dsimp only at q; have q := q; first | exact q | exact h.back _ _ _ _ _ (q) | exact h.back _ _ _ _ _ (h.back _ _ _ _ _ (q)) | exact h.back _ _ _ _ _ (h.back _ _ _ _ _ (h.back _ _ _ _ _ (q))) | exact h.back _ _ _ _ _ (h.back _ _ _ _ _ (h.back _ _ _ _ _ (h.back _ _ _ _ _ (q)))) | exact h.back _ _ _ _ _ (h.back _ _ _ _ _ (h.back _ _ _ _ _ (h.back _ _ _ _ _ (h.back _ _ _ _ _ (q)))))))
  rw [hp1] at cf
  try dsimp only [Wr.num] at cf
  have HP1 := hide hp1
  clear hp1
  go_wp2_with fail
  refine (unhide cf).mono ?_
  rintro e y1 ⟨B1, rfl, hs2, hk2⟩
  have I0n := hide ((unhide I0).next hs2 hk2)
  have c1' : y1.cell? ⟨M, 1, none⟩ = some (.int .i64 (g.n 1)) := (unhide I0n).box.cell (i := 1) (by omega)
  have f1' := (unhide I0n).box.free
  have I1 := hide ((unhide I0n).put h 1 (.int .i64 a1))
  rw [Wr.G.num_box g 1 a1 ⟨by decide, by decide, by decide, by decide, by decide, by decide, by decide, by decide, by decide⟩] at I1
  clear cf hs2 hk2 I0 I0n c0 c1 u0 fM
  go_upto_region 7 with fail
  obtain ⟨y1s, hy1s⟩ : ∃ z, y1.setCell ⟨M, 1, none⟩ (.int .i64 a1) = z := ⟨_, rfl⟩
  rw [hy1s] at I1 ⊢
  clear hy1s c1' f1' y1

  have c2 : y1s.cell? ⟨M, 2, none⟩ = some (.int .i64 (g.n 2)) := (unhide I1).box.cell (i := 2) (by omega)
  have u0 := (unhide I1).row
  have fM := (unhide I1).box.free
  obtain ⟨p2, hp2⟩ : ∃ p, step s1 (g.n 2) 4 0 1073741823 = p := ⟨_, rfl⟩
  obtain ⟨s2, a2⟩ := p2
  have cf := hide (wNumber_any h (g.n 2) (hr 2).1 (hr 2).2 (unhide I1).held (by have q := unhide HLV; unfold Wr.headS at q; simp only [unhide HP1] at q; have q := q; first | exact q | exact h.back _ _ _ _ _ (q) | exact h.back _ _ _ _ _ (h.back _ _ _ _ _ (q)) | exact h.back _ _ _ _ _ (h.back _ _ _ _ _ (h.back _ _ _ _ _ (q))) | exact h.back _ _ _ _ _ (h.back _ _ _ _ _ (h.back _ _ _ _ _ (h.back _ _ _ _ _ (q)))) | exact h.back _ _ _ _ _ (h.back _ _ _ _ _ (h.back _ _ _ _ _ (h.back _ _ _ _ _ (h.back _ _ _ _ _ (q)))))))
  rw [hp2] at cf
  try dsimp only [Wr.num] at cf
  have HP2 := hide hp2
  clear hp2
  go_wp2_with fail
  refine (unhide cf).mono ?_
  rintro e y2 ⟨B2, rfl, hs2, hk2⟩
  have I1n := hide ((unhide I1).next hs2 hk2)
  have c2' : y2.cell? ⟨M, 2, none⟩ = some (.int .i64 (g.n 2)) := (unhide I1n).box.cell (i := 2) (by omega)
  have f2' := (unhide I1n).box.free
  have I2 := hide ((unhide I1n).put h 2 (.int .i64 a2))
  rw [Wr.G.num_box (g.num 1 a1) 2 a2 ⟨by decide, by decide, by decide, by decide, by decide, by decide, by decide, by decide, by decide⟩] at I2
  clear cf hs2 hk2 I1 I1n c2 u0 fM
  go_upto_region 8 with fail
  obtain ⟨y2s, hy2s⟩ : ∃ z, y2.setCell ⟨M, 2, none⟩ (.int .i64 a2) = z := ⟨_, rfl⟩
  rw [hy2s] at I2 ⊢
  clear hy2s c2' f2' y2
  have he : Hid (Wr.headS step s g = (s2, a1, a2)) := (show _ = _ by unfold Wr.headS; rw [unhide HP1]; dsimp only; rw [unhide HP2])
  have hr2 : ∀ j, -9223372036854775808 ≤ ((g.num 1 a1).num 2 a2).n j ∧ ((g.num 1 a1).num 2 a2).n j ≤ 9223372036854775807 := Wr.G.num_ok (Wr.G.num_ok hr (by
    have q := h.ok s (g.n 1) 4 0 1073741823 (hr 1) (by decide) (by decide)
    rw [unhide HP1] at q
    exact q)) (by
    have q := h.ok s1 (g.n 2) 4 0 1073741823 (hr 2) (by decide) (by decide)
    rw [unhide HP2] at q
    exact q)
  have c0 : y2s.cell? ⟨M, 0, none⟩ = some (.int .i64 2) := (((unhide I2).box.cell (i := 0) (by omega)).trans (show some (Value.int .i64 (g.n 0)) = _ by rw [unhide HK0]))
  have u0 := (unhide I2).row
  have fM := (unhide I2).box.free
  obtain ⟨CM, hCM⟩ : ∃ q, Wr.G.cells (((g.num 1 a1).num 2 a2)) = q := ⟨_, rfl⟩
  have cf := hide (wUp_any h ((g.num 1 a1).num 2 a2) z hr2 hb hn (fun i hi => by
    obtain ⟨b, o, q1, q2, q3, q4, q5⟩ := hz i hi
    obtain ⟨r1, r2, r3⟩ := (unhide I2).src q2 q3
    exact ⟨b, o, q1, r1, r2, (r3 _).trans q4, q5⟩) (unhide I2).held (by have q := unhide HLW; rw [unhide he] at q; exact q))
  rw [hCM] at cf
  have hszM : CM.size = 30 := by rw [← hCM]; rfl
  have hrgM : y2s.rangeAt M 0 CM.toList := Wr.In.range (unhide I2) CM.toList (by rw [Array.length_toList]; exact hszM) (fun j hj => by
    rw [Array.getElem?_toList, ← hCM]
    exact Wr.G.at _ j hj)
  have hiM : (Try.prog.info? 29).map (·.size) = some CM.toList.length := by
    rw [Array.length_toList, hszM]
    kernel_rfl
  clear hCM hszM hr2
  go_wp2_with (refine wpList_load_mid rfl 29 (.tmp 3) rfl M 0 rfl CM.toList _ hrgM Try.underlying29 rfl hiM ?_)
  refine (unhide cf).mono ?_
  rintro e y3 hu
  obtain ⟨B3, O, G3, hG3, hee, hO, hBO, hrow, hs3, hk3⟩ := Wr.upsG hu
  have I3n := hide ((unhide I2).next hs3 hk3)

  obtain ⟨C3, hC3⟩ : ∃ q, Wr.G.cells G3 = q := ⟨_, rfl⟩
  have F0 := hide ((Wr.In.far (M := M) (Z := Z) (unhide I2) hO hBO hrow).turn (Wr.turn_cells M C3.toList 0 y3) (fun e => absurd e ((Wr.In.far (M := M) (Z := Z) (unhide I2) hO hBO hrow).2.1)))
  clear hO hBO hrow
  have hsz3 : C3.size = 30 := by rw [← hC3]; rfl
  have hth3 : y3.there M 0 C3.size := by rw [hsz3]; exact Wr.In.there (unhide I3n)
  have hone3 : C3.all (·.oneCell') = true := by rw [← hC3]; exact Wr.G.one _
  have hi3 : (Try.prog.info? 29).map (·.size) = some C3.size := by rw [hsz3]; kernel_rfl
  have I3 := hide (Wr.In.puts h (unhide I3n) C3.toList (G := G3.box) (by rw [Array.length_toList]; exact hsz3) (fun j hj => by
    rw [Array.getElem?_toList, ← hC3]
    exact Wr.G.at _ j hj))
  rw [hC3] at hee
  subst hee
  have HG3 := hide hG3
  clear cf hu I2 I3n c0 u0 fM hrgM hiM hs3 hk3 hG3 hC3 hsz3
  go_upto_region 17 with (refine wpList_store_mid rfl 29 (.tmp 3) (.tmp 36) rfl M 0 C3 rfl rfl hth3 hi3 hone3 ?_)
  obtain ⟨y3s, hy3s⟩ : ∃ q, y3.setCells M 0 C3.toList = q := ⟨_, rfl⟩
  rw [hy3s] at I3 F0 ⊢
  clear hy3s hth3 hi3 hone3 y3

  obtain ⟨C, hC⟩ : ∃ C, Wr.G.cells (G3) = C := ⟨_, rfl⟩
  have hsz : C.size = 30 := by rw [← hC]; rfl
  have hrg : y3s.rangeAt M 0 C.toList := fun j u hj => by
    have hj30 : j < 30 := by
      have := (List.getElem?_eq_some_iff.1 hj).1
      simpa [hsz] using this
    have h1 := Wr.G.at (G3) j hj30
    rw [hC] at h1
    rw [Array.getElem?_toList, h1] at hj
    rw [Nat.zero_add, (unhide I3).box.cell hj30]
    exact hj
  have hth : y3s.there Z 0 C.size := fun j hj => by
    obtain ⟨q, hq⟩ := (unhide I3).res
    rw [hsz] at hj
    rw [Nat.zero_add]
    exact ⟨by rw [hq.cell hj]; rfl, hq.free j⟩
  have hone : C.all (·.oneCell') = true := by rw [← hC]; exact Wr.G.one _
  have hi1 : (Try.prog.info? 29).map (·.size) = some C.toList.length := by
    rw [Array.length_toList, hsz]
    kernel_rfl
  have hld : (loadVar 29 ⟨Z, 0, none⟩).run Try.prog (y3s.setCells Z 0 C.toList) = .ok (.agg C) (y3s.setCells Z 0 C.toList) :=
    run_loadVar_mid (P := Try.prog) (y3s.setCells Z 0 C.toList) Z 0 29 C.toList _ (World.rangeAt_setCells_same y3s Z 0 C.toList (by rw [Array.length_toList]; exact hth)) Try.underlying29 rfl hi1
  have hi2 : (Try.prog.info? 29).map (·.size) = some C.size := by rw [hsz]; kernel_rfl
  have HC := hide hC
  have hfo := (unhide I3).fixed h C.toList
  have HFX := hide hfo
  clear hC hsz I3 hfo
  go_wp2_with (first | refine wpList_load_mid rfl 29 (.tmp 3) rfl M 0 rfl C.toList _ hrg Try.underlying29 rfl hi1 ?_ | refine wpList_store_mid rfl 29 (.tmp 4) (.tmp 47) rfl Z 0 C rfl rfl hth hi2 hone ?_)
  obtain ⟨W, hW⟩ : ∃ W, y3s.setCells Z 0 C.toList = W := ⟨_, rfl⟩
  have HW := hide hW
  rw [hW] at hld ⊢
  clear hrg hth hone hi1 hi2 hW
  go_wp2
  refine bodyPost_ret (v := .agg C) (by simp [results, Try.results32, Act.put, asAddr, hld]) rfl ?_
  have hW := unhide HW
  have hC := unhide HC

  obtain ⟨h1, h2⟩ := unhide HFX
  subst hW
  subst hC
  rw [unhide he]
  have hG3 := unhide HG3
  exact ⟨B3, O, by rw [hG3]; rfl, (unhide F0).1, (unhide F0).2.2.2.1, (unhide F0).last _, h1, h2⟩

set_option maxRecDepth 16000 in
set_option maxHeartbeats 12800000 in
theorem wThrough_down (h : Wr.Side T v f step H Lv) (g : Wr.G) (zr : Nat → Nat → Int) (z : Nat → Nat → Int) (hk0 : g.n 0 = 3) (hr : ∀ k, -9223372036854775808 ≤ g.n k ∧ g.n k ≤ 9223372036854775807) (hn : g.recs.2.1 ≤ 1048576) (ha : g.recs.1 = none → g.recs.2.1 = 0)
    (hzr : ∀ i, i < g.recs.2.1 → ∃ b o, g.recs.1 = some ⟨b, o, none⟩ ∧ b < w.heap.size ∧ ¬ B b ∧ ∀ j, j < 5 → w.cell? ⟨b, o + i * 5 + j, none⟩ = some (.int .i64 (zr i j))) (hrr : ∀ i j, i < g.recs.2.1 → -9223372036854775808 ≤ zr i j ∧ zr i j ≤ 9223372036854775807)
    (hni : ∀ i, i < 4 → (g.row (1 + i)).2.1 ≤ 1048576)
    (hz : ∀ i, i < 4 → ∀ j, j < (g.row (1 + i)).2.1 → ∃ b o, (g.row (1 + i)).1 = some ⟨b, o, none⟩ ∧ b < w.heap.size ∧ ¬ B b ∧ w.cell? ⟨b, o + j, none⟩ = some (.int .i64 (z i j)) ∧ -9223372036854775808 ≤ z i j ∧ z i j ≤ 9223372036854775807) (hs : H w s B) (hl : Lv (Wr.downS step (Wr.headS step s g).1 (Wr.headG g (Wr.headS step s g)) zr z).1) :
    Calls Try.prog 32 #[.agg #[.iface T v], .agg g.cells] w (Wr.Downs H w B (Wr.headG g (Wr.headS step s g)) (Wr.downS step (Wr.headS step s g).1 (Wr.headG g (Wr.headS step s g)) zr z)) := by
  have HK0 := hide hk0
  have HLW := hide hl
  replace hl := Wr.downS_back h hl
  clear hk0
  have hm := h.meth
  have hc := h.call
  obtain ⟨x, hx⟩ : ∃ x, x = ((w.alloc (.cells #[.iface T v] 73)).alloc (.cells g.cells 29)).alloc (.cells Wr.G.zero.cells 29) := ⟨_, rfl⟩
  have I0 : Hid (Wr.In H w x B s B T v w.heap.size (w.heap.size + 1) (w.heap.size + 1 + 1) 29 30 g.box) := by
    show Wr.In H w x B s B T v _ _ _ _ _ _
    rw [hx]
    exact Wr.In.first h hs _ _ rfl (fun i hi => Wr.G.at g i hi) rfl
  have hg0 : Hid (w.grownBy x none) := by
    show w.grownBy x none
    rw [hx]
    exact grown_alloc (grown_alloc (World.grownBy_alloc _ _ _) _) _
  obtain ⟨R, hR⟩ : ∃ R, w.heap.size = R := ⟨_, rfl⟩
  rw [hR] at I0
  have HR := hide hR
  have HLV := hide hl
  clear hs hl
  unfold Wr.G.cells at hx
  unfold Wr.G.zero at hx
  go_enter Try.func32, Try.ntmps32
  unfold Wr.G.cells
  go_upto_region 1 with fail
  rw [← hx]
  clear hx hR
  obtain ⟨M, hM⟩ : ∃ M, R + 1 = M := ⟨_, rfl⟩
  rw [hM] at I0 ⊢
  obtain ⟨Z, hZ⟩ : ∃ Z, M + 1 = Z := ⟨_, rfl⟩
  rw [hZ] at I0 ⊢
  clear hM hZ

  have c0 : x.cell? ⟨M, 0, none⟩ = some (.int .i64 3) := (((unhide I0).box.cell (i := 0) (by omega)).trans (show some (Value.int .i64 (g.n 0)) = _ by rw [unhide HK0]))
  have c1 : x.cell? ⟨M, 1, none⟩ = some (.int .i64 (g.n 1)) := (unhide I0).box.cell (i := 1) (by omega)
  have u0 := (unhide I0).row
  have fM := (unhide I0).box.free
  obtain ⟨p1, hp1⟩ : ∃ p, step s (g.n 1) 4 0 1073741823 = p := ⟨_, rfl⟩
  obtain ⟨s1, a1⟩ := p1
  have cf := hide (wNumber_any h (g.n 1) (hr 1).1 (hr 1).2 (unhide I0).held (by have q := unhide HLV; unfold Wr.headS at q; dsimp only at q; have q := q; first | exact q | exact h.back _ _ _ _ _ (q) | exact h.back _ _ _ _ _ (h.back _ _ _ _ _ (q)) | exact h.back _ _ _ _ _ (h.back _ _ _ _ _ (h.back _ _ _ _ _ (q))) | exact h.back _ _ _ _ _ (h.back _ _ _ _ _ (h.back _ _ _ _ _ (h.back _ _ _ _ _ (q)))) | exact h.back _ _ _ _ _ (h.back _ _ _ _ _ (h.back _ _ _ _ _ (h.back _ _ _ _ _ (h.back _ _ _ _ _ (q)))))))
  rw [hp1] at cf
  try dsimp only [Wr.num] at cf
  have HP1 := hide hp1
  clear hp1
  go_wp2_with fail
  refine (unhide cf).mono ?_
  rintro e y1 ⟨B1, rfl, hs2, hk2⟩
  have I0n := hide ((unhide I0).next hs2 hk2)
  have c1' : y1.cell? ⟨M, 1, none⟩ = some (.int .i64 (g.n 1)) := (unhide I0n).box.cell (i := 1) (by omega)
  have f1' := (unhide I0n).box.free
  have I1 := hide ((unhide I0n).put h 1 (.int .i64 a1))
  rw [Wr.G.num_box g 1 a1 ⟨by decide, by decide, by decide, by decide, by decide, by decide, by decide, by decide, by decide⟩] at I1
  clear cf hs2 hk2 I0 I0n c0 c1 u0 fM
  go_upto_region 7 with fail
  obtain ⟨y1s, hy1s⟩ : ∃ z, y1.setCell ⟨M, 1, none⟩ (.int .i64 a1) = z := ⟨_, rfl⟩
  rw [hy1s] at I1 ⊢
  clear hy1s c1' f1' y1

  have c2 : y1s.cell? ⟨M, 2, none⟩ = some (.int .i64 (g.n 2)) := (unhide I1).box.cell (i := 2) (by omega)
  have u0 := (unhide I1).row
  have fM := (unhide I1).box.free
  obtain ⟨p2, hp2⟩ : ∃ p, step s1 (g.n 2) 4 0 1073741823 = p := ⟨_, rfl⟩
  obtain ⟨s2, a2⟩ := p2
  have cf := hide (wNumber_any h (g.n 2) (hr 2).1 (hr 2).2 (unhide I1).held (by have q := unhide HLV; unfold Wr.headS at q; simp only [unhide HP1] at q; have q := q; first | exact q | exact h.back _ _ _ _ _ (q) | exact h.back _ _ _ _ _ (h.back _ _ _ _ _ (q)) | exact h.back _ _ _ _ _ (h.back _ _ _ _ _ (h.back _ _ _ _ _ (q))) | exact h.back _ _ _ _ _ (h.back _ _ _ _ _ (h.back _ _ _ _ _ (h.back _ _ _ _ _ (q)))) | exact h.back _ _ _ _ _ (h.back _ _ _ _ _ (h.back _ _ _ _ _ (h.back _ _ _ _ _ (h.back _ _ _ _ _ (q)))))))
  rw [hp2] at cf
  try dsimp only [Wr.num] at cf
  have HP2 := hide hp2
  clear hp2
  go_wp2_with fail
  refine (unhide cf).mono ?_
  rintro e y2 ⟨B2, rfl, hs2, hk2⟩
  have I1n := hide ((unhide I1).next hs2 hk2)
  have c2' : y2.cell? ⟨M, 2, none⟩ = some (.int .i64 (g.n 2)) := (unhide I1n).box.cell (i := 2) (by omega)
  have f2' := (unhide I1n).box.free
  have I2 := hide ((unhide I1n).put h 2 (.int .i64 a2))
  rw [Wr.G.num_box (g.num 1 a1) 2 a2 ⟨by decide, by decide, by decide, by decide, by decide, by decide, by decide, by decide, by decide⟩] at I2
  clear cf hs2 hk2 I1 I1n c2 u0 fM
  go_upto_region 8 with fail
  obtain ⟨y2s, hy2s⟩ : ∃ z, y2.setCell ⟨M, 2, none⟩ (.int .i64 a2) = z := ⟨_, rfl⟩
  rw [hy2s] at I2 ⊢
  clear hy2s c2' f2' y2
  have he : Hid (Wr.headS step s g = (s2, a1, a2)) := (show _ = _ by unfold Wr.headS; rw [unhide HP1]; dsimp only; rw [unhide HP2])
  have hr2 : ∀ j, -9223372036854775808 ≤ ((g.num 1 a1).num 2 a2).n j ∧ ((g.num 1 a1).num 2 a2).n j ≤ 9223372036854775807 := Wr.G.num_ok (Wr.G.num_ok hr (by
    have q := h.ok s (g.n 1) 4 0 1073741823 (hr 1) (by decide) (by decide)
    rw [unhide HP1] at q
    exact q)) (by
    have q := h.ok s1 (g.n 2) 4 0 1073741823 (hr 2) (by decide) (by decide)
    rw [unhide HP2] at q
    exact q)
  have c0 : y2s.cell? ⟨M, 0, none⟩ = some (.int .i64 3) := (((unhide I2).box.cell (i := 0) (by omega)).trans (show some (Value.int .i64 (g.n 0)) = _ by rw [unhide HK0]))
  have u0 := (unhide I2).row
  have fM := (unhide I2).box.free
  obtain ⟨CM, hCM⟩ : ∃ q, Wr.G.cells (((g.num 1 a1).num 2 a2)) = q := ⟨_, rfl⟩
  have cf := hide (wDown_any h ((g.num 1 a1).num 2 a2) zr z hr2 hn ha (fun i hi => by
    obtain ⟨b, o, q1, q2, q3, q4⟩ := hzr i hi
    obtain ⟨r1, r2, r3⟩ := (unhide I2).src q2 q3
    exact ⟨b, o, q1, r1, r2, fun j hj => (r3 _).trans (q4 j hj)⟩) hrr hni (fun i hi j hj => by
    obtain ⟨b, o, q1, q2, q3, q4, q5⟩ := hz i hi j hj
    obtain ⟨r1, r2, r3⟩ := (unhide I2).src q2 q3
    exact ⟨b, o, q1, r1, r2, (r3 _).trans q4, q5⟩) (unhide I2).held (by have q := unhide HLW; rw [unhide he] at q; exact q))
  rw [hCM] at cf
  have hszM : CM.size = 30 := by rw [← hCM]; rfl
  have hrgM : y2s.rangeAt M 0 CM.toList := Wr.In.range (unhide I2) CM.toList (by rw [Array.length_toList]; exact hszM) (fun j hj => by
    rw [Array.getElem?_toList, ← hCM]
    exact Wr.G.at _ j hj)
  have hiM : (Try.prog.info? 29).map (·.size) = some CM.toList.length := by
    rw [Array.length_toList, hszM]
    kernel_rfl
  clear hCM hszM hr2
  go_wp2_with (refine wpList_load_mid rfl 29 (.tmp 3) rfl M 0 rfl CM.toList _ hrgM Try.underlying29 rfl hiM ?_)
  refine (unhide cf).mono ?_
  rintro e y3 hu
  obtain ⟨B3, O, Os, G3, hG3, hee, hO, hBO, ⟨ra, hrow, hra⟩, hOs, hs3, hk3⟩ := Wr.downsG hu
  have I3n := hide ((unhide I2).next hs3 hk3)

  obtain ⟨C3, hC3⟩ : ∃ q, Wr.G.cells G3 = q := ⟨_, rfl⟩
  have F0 := hide ((Wr.In.far (M := M) (Z := Z) (unhide I2) hO hBO hrow).turn (Wr.turn_cells M C3.toList 0 y3) (fun e => absurd e ((Wr.In.far (M := M) (Z := Z) (unhide I2) hO hBO hrow).2.1)))
  have FS := hide (fun j hj => (Wr.In.far (M := M) (Z := Z) (unhide I2) (hOs j hj).1 (hOs j hj).2.1 (hOs j hj).2.2).turn (Wr.turn_cells M C3.toList 0 y3) (fun e => absurd e ((Wr.In.far (M := M) (Z := Z) (unhide I2) (hOs j hj).1 (hOs j hj).2.1 (hOs j hj).2.2).2.1)))
  have RA := hide hra
  clear hO hBO hrow hOs hra
  have hsz3 : C3.size = 30 := by rw [← hC3]; rfl
  have hth3 : y3.there M 0 C3.size := by rw [hsz3]; exact Wr.In.there (unhide I3n)
  have hone3 : C3.all (·.oneCell') = true := by rw [← hC3]; exact Wr.G.one _
  have hi3 : (Try.prog.info? 29).map (·.size) = some C3.size := by rw [hsz3]; kernel_rfl
  have I3 := hide (Wr.In.puts h (unhide I3n) C3.toList (G := G3.box) (by rw [Array.length_toList]; exact hsz3) (fun j hj => by
    rw [Array.getElem?_toList, ← hC3]
    exact Wr.G.at _ j hj))
  rw [hC3] at hee
  subst hee
  have HG3 := hide hG3
  clear cf hu I2 I3n c0 u0 fM hrgM hiM hs3 hk3 hG3 hC3 hsz3
  go_upto_region 17 with (refine wpList_store_mid rfl 29 (.tmp 3) (.tmp 41) rfl M 0 C3 rfl rfl hth3 hi3 hone3 ?_)
  obtain ⟨y3s, hy3s⟩ : ∃ q, y3.setCells M 0 C3.toList = q := ⟨_, rfl⟩
  rw [hy3s] at I3 F0 FS ⊢
  clear hy3s hth3 hi3 hone3 y3

  obtain ⟨C, hC⟩ : ∃ C, Wr.G.cells (G3) = C := ⟨_, rfl⟩
  have hsz : C.size = 30 := by rw [← hC]; rfl
  have hrg : y3s.rangeAt M 0 C.toList := fun j u hj => by
    have hj30 : j < 30 := by
      have := (List.getElem?_eq_some_iff.1 hj).1
      simpa [hsz] using this
    have h1 := Wr.G.at (G3) j hj30
    rw [hC] at h1
    rw [Array.getElem?_toList, h1] at hj
    rw [Nat.zero_add, (unhide I3).box.cell hj30]
    exact hj
  have hth : y3s.there Z 0 C.size := fun j hj => by
    obtain ⟨q, hq⟩ := (unhide I3).res
    rw [hsz] at hj
    rw [Nat.zero_add]
    exact ⟨by rw [hq.cell hj]; rfl, hq.free j⟩
  have hone : C.all (·.oneCell') = true := by rw [← hC]; exact Wr.G.one _
  have hi1 : (Try.prog.info? 29).map (·.size) = some C.toList.length := by
    rw [Array.length_toList, hsz]
    kernel_rfl
  have hld : (loadVar 29 ⟨Z, 0, none⟩).run Try.prog (y3s.setCells Z 0 C.toList) = .ok (.agg C) (y3s.setCells Z 0 C.toList) :=
    run_loadVar_mid (P := Try.prog) (y3s.setCells Z 0 C.toList) Z 0 29 C.toList _ (World.rangeAt_setCells_same y3s Z 0 C.toList (by rw [Array.length_toList]; exact hth)) Try.underlying29 rfl hi1
  have hi2 : (Try.prog.info? 29).map (·.size) = some C.size := by rw [hsz]; kernel_rfl
  have HC := hide hC
  have hfo := (unhide I3).fixed h C.toList
  have HFX := hide hfo
  clear hC hsz I3 hfo
  go_wp2_with (first | refine wpList_load_mid rfl 29 (.tmp 3) rfl M 0 rfl C.toList _ hrg Try.underlying29 rfl hi1 ?_ | refine wpList_store_mid rfl 29 (.tmp 4) (.tmp 47) rfl Z 0 C rfl rfl hth hi2 hone ?_)
  obtain ⟨W, hW⟩ : ∃ W, y3s.setCells Z 0 C.toList = W := ⟨_, rfl⟩
  have HW := hide hW
  rw [hW] at hld ⊢
  clear hrg hth hone hi1 hi2 hW
  go_wp2
  refine bodyPost_ret (v := .agg C) (by simp [results, Try.results32, Act.put, asAddr, hld]) rfl ?_
  have hW := unhide HW
  have hC := unhide HC

  obtain ⟨h1, h2⟩ := unhide HFX
  subst hW
  subst hC
  rw [unhide he]
  have hG3 := unhide HG3
  exact ⟨B3, O, Os, by rw [hG3]; rfl, (unhide F0).1, (unhide F0).2.2.2.1, ⟨ra, (unhide F0).last _, (unhide RA).1, (unhide RA).2⟩, fun j hj => ⟨(unhide FS j hj).1, (unhide FS j hj).2.2.2.1, (unhide FS j hj).last _⟩, h1, h2⟩

set_option maxRecDepth 16000 in
set_option maxHeartbeats 12800000 in
theorem wThrough_chunk (h : Wr.Side T v f step H Lv) (g : Wr.G) (z : Nat → Int) (hk0 : g.n 0 = 4) (hr : ∀ k, -9223372036854775808 ≤ g.n k ∧ g.n k ≤ 9223372036854775807) (hn : g.data.2.1 ≤ 1048576)
    (hz : ∀ i, i < g.data.2.1 → ∃ b o, g.data.1 = some ⟨b, o, none⟩ ∧ b < w.heap.size ∧ ¬ B b ∧ w.cell? ⟨b, o + i, none⟩ = some (.int .u8 (z i)) ∧ 0 ≤ z i ∧ z i ≤ 255) (hs : H w s B) (hl : Lv (Wr.chunkS step (Wr.headS step s g).1 (Wr.headG g (Wr.headS step s g)) z).1) :
    Calls Try.prog 32 #[.agg #[.iface T v], .agg g.cells] w (Wr.Chunks H w B (Wr.headG g (Wr.headS step s g)) (Wr.chunkS step (Wr.headS step s g).1 (Wr.headG g (Wr.headS step s g)) z)) := by
  have HK0 := hide hk0
  have HLW := hide hl
  replace hl := Wr.chunkS_back h hl
  clear hk0
  have hm := h.meth
  have hc := h.call
  obtain ⟨x, hx⟩ : ∃ x, x = ((w.alloc (.cells #[.iface T v] 73)).alloc (.cells g.cells 29)).alloc (.cells Wr.G.zero.cells 29) := ⟨_, rfl⟩
  have I0 : Hid (Wr.In H w x B s B T v w.heap.size (w.heap.size + 1) (w.heap.size + 1 + 1) 29 30 g.box) := by
    show Wr.In H w x B s B T v _ _ _ _ _ _
    rw [hx]
    exact Wr.In.first h hs _ _ rfl (fun i hi => Wr.G.at g i hi) rfl
  have hg0 : Hid (w.grownBy x none) := by
    show w.grownBy x none
    rw [hx]
    exact grown_alloc (grown_alloc (World.grownBy_alloc _ _ _) _) _
  obtain ⟨R, hR⟩ : ∃ R, w.heap.size = R := ⟨_, rfl⟩
  rw [hR] at I0
  have HR := hide hR
  have HLV := hide hl
  clear hs hl
  unfold Wr.G.cells at hx
  unfold Wr.G.zero at hx
  go_enter Try.func32, Try.ntmps32
  unfold Wr.G.cells
  go_upto_region 1 with fail
  rw [← hx]
  clear hx hR
  obtain ⟨M, hM⟩ : ∃ M, R + 1 = M := ⟨_, rfl⟩
  rw [hM] at I0 ⊢
  obtain ⟨Z, hZ⟩ : ∃ Z, M + 1 = Z := ⟨_, rfl⟩
  rw [hZ] at I0 ⊢
  clear hM hZ

  have c0 : x.cell? ⟨M, 0, none⟩ = some (.int .i64 4) := (((unhide I0).box.cell (i := 0) (by omega)).trans (show some (Value.int .i64 (g.n 0)) = _ by rw [unhide HK0]))
  have c1 : x.cell? ⟨M, 1, none⟩ = some (.int .i64 (g.n 1)) := (unhide I0).box.cell (i := 1) (by omega)
  have u0 := (unhide I0).row
  have fM := (unhide I0).box.free
  obtain ⟨p1, hp1⟩ : ∃ p, step s (g.n 1) 4 0 1073741823 = p := ⟨_, rfl⟩
  obtain ⟨s1, a1⟩ := p1
  have cf := hide (wNumber_any h (g.n 1) (hr 1).1 (hr 1).2 (unhide I0).held (by have q := unhide HLV; unfold Wr.headS at q; dsimp only at q; have q := q; first | exact q | exact h.back _ _ _ _ _ (q) | exact h.back _ _ _ _ _ (h.back _ _ _ _ _ (q)) | exact h.back _ _ _ _ _ (h.back _ _ _ _ _ (h.back _ _ _ _ _ (q))) | exact h.back _ _ _ _ _ (h.back _ _ _ _ _ (h.back _ _ _ _ _ (h.back _ _ _ _ _ (q)))) | exact h.back _ _ _ _ _ (h.back _ _ _ _ _ (h.back _ _ _ _ _ (h.back _ _ _ _ _ (h.back _ _ _ _ _ (q)))))))
  rw [hp1] at cf
  try dsimp only [Wr.num] at cf
  have HP1 := hide hp1
  clear hp1
  go_wp2_with fail
  refine (unhide cf).mono ?_
  rintro e y1 ⟨B1, rfl, hs2, hk2⟩
  have I0n := hide ((unhide I0).next hs2 hk2)
  have c1' : y1.cell? ⟨M, 1, none⟩ = some (.int .i64 (g.n 1)) := (unhide I0n).box.cell (i := 1) (by omega)
  have f1' := (unhide I0n).box.free
  have I1 := hide ((unhide I0n).put h 1 (.int .i64 a1))
  rw [Wr.G.num_box g 1 a1 ⟨by decide, by decide, by decide, by decide, by decide, by decide, by decide, by decide, by decide⟩] at I1
  clear cf hs2 hk2 I0 I0n c0 c1 u0 fM
  go_upto_region 7 with fail
  obtain ⟨y1s, hy1s⟩ : ∃ z, y1.setCell ⟨M, 1, none⟩ (.int .i64 a1) = z := ⟨_, rfl⟩
  rw [hy1s] at I1 ⊢
  clear hy1s c1' f1' y1

  have c2 : y1s.cell? ⟨M, 2, none⟩ = some (.int .i64 (g.n 2)) := (unhide I1).box.cell (i := 2) (by omega)
  have u0 := (unhide I1).row
  have fM := (unhide I1).box.free
  obtain ⟨p2, hp2⟩ : ∃ p, step s1 (g.n 2) 4 0 1073741823 = p := ⟨_, rfl⟩
  obtain ⟨s2, a2⟩ := p2
  have cf := hide (wNumber_any h (g.n 2) (hr 2).1 (hr 2).2 (unhide I1).held (by have q := unhide HLV; unfold Wr.headS at q; simp only [unhide HP1] at q; have q := q; first | exact q | exact h.back _ _ _ _ _ (q) | exact h.back _ _ _ _ _ (h.back _ _ _ _ _ (q)) | exact h.back _ _ _ _ _ (h.back _ _ _ _ _ (h.back _ _ _ _ _ (q))) | exact h.back _ _ _ _ _ (h.back _ _ _ _ _ (h.back _ _ _ _ _ (h.back _ _ _ _ _ (q)))) | exact h.back _ _ _ _ _ (h.back _ _ _ _ _ (h.back _ _ _ _ _ (h.back _ _ _ _ _ (h.back _ _ _ _ _ (q)))))))
  rw [hp2] at cf
  try dsimp only [Wr.num] at cf
  have HP2 := hide hp2
  clear hp2
  go_wp2_with fail
  refine (unhide cf).mono ?_
  rintro e y2 ⟨B2, rfl, hs2, hk2⟩
  have I1n := hide ((unhide I1).next hs2 hk2)
  have c2' : y2.cell? ⟨M, 2, none⟩ = some (.int .i64 (g.n 2)) := (unhide I1n).box.cell (i := 2) (by omega)
  have f2' := (unhide I1n).box.free
  have I2 := hide ((unhide I1n).put h 2 (.int .i64 a2))
  rw [Wr.G.num_box (g.num 1 a1) 2 a2 ⟨by decide, by decide, by decide, by decide, by decide, by decide, by decide, by decide, by decide⟩] at I2
  clear cf hs2 hk2 I1 I1n c2 u0 fM
  go_upto_region 8 with fail
  obtain ⟨y2s, hy2s⟩ : ∃ z, y2.setCell ⟨M, 2, none⟩ (.int .i64 a2) = z := ⟨_, rfl⟩
  rw [hy2s] at I2 ⊢
  clear hy2s c2' f2' y2
  have he : Hid (Wr.headS step s g = (s2, a1, a2)) := (show _ = _ by unfold Wr.headS; rw [unhide HP1]; dsimp only; rw [unhide HP2])
  have hr2 : ∀ j, -9223372036854775808 ≤ ((g.num 1 a1).num 2 a2).n j ∧ ((g.num 1 a1).num 2 a2).n j ≤ 9223372036854775807 := Wr.G.num_ok (Wr.G.num_ok hr (by
    have q := h.ok s (g.n 1) 4 0 1073741823 (hr 1) (by decide) (by decide)
    rw [unhide HP1] at q
    exact q)) (by
    have q := h.ok s1 (g.n 2) 4 0 1073741823 (hr 2) (by decide) (by decide)
    rw [unhide HP2] at q
    exact q)
  have c0 : y2s.cell? ⟨M, 0, none⟩ = some (.int .i64 4) := (((unhide I2).box.cell (i := 0) (by omega)).trans (show some (Value.int .i64 (g.n 0)) = _ by rw [unhide HK0]))
  have u0 := (unhide I2).row
  have fM := (unhide I2).box.free
  obtain ⟨CM, hCM⟩ : ∃ q, Wr.G.cells (((g.num 1 a1).num 2 a2)) = q := ⟨_, rfl⟩
  have cf := hide (wChunk_any h ((g.num 1 a1).num 2 a2) z hr2 hn (fun i hi => by
    obtain ⟨b, o, q1, q2, q3, q4, q5⟩ := hz i hi
    obtain ⟨r1, r2, r3⟩ := (unhide I2).src q2 q3
    exact ⟨b, o, q1, r1, r2, (r3 _).trans q4, q5⟩) (unhide I2).held (by have q := unhide HLW; rw [unhide he] at q; exact q))
  rw [hCM] at cf
  have hszM : CM.size = 30 := by rw [← hCM]; rfl
  have hrgM : y2s.rangeAt M 0 CM.toList := Wr.In.range (unhide I2) CM.toList (by rw [Array.length_toList]; exact hszM) (fun j hj => by
    rw [Array.getElem?_toList, ← hCM]
    exact Wr.G.at _ j hj)
  have hiM : (Try.prog.info? 29).map (·.size) = some CM.toList.length := by
    rw [Array.length_toList, hszM]
    kernel_rfl
  clear hCM hszM hr2
  go_wp2_with (refine wpList_load_mid rfl 29 (.tmp 3) rfl M 0 rfl CM.toList _ hrgM Try.underlying29 rfl hiM ?_)
  refine (unhide cf).mono ?_
  rintro e y3 hu
  obtain ⟨B3, O, G3, hG3, hee, hO, hBO, hrow, hs3, hk3⟩ := Wr.chunksG hu
  have I3n := hide ((unhide I2).next hs3 hk3)

  obtain ⟨C3, hC3⟩ : ∃ q, Wr.G.cells G3 = q := ⟨_, rfl⟩
  have F0 := hide ((Wr.In.far (M := M) (Z := Z) (unhide I2) hO hBO hrow).turn (Wr.turn_cells M C3.toList 0 y3) (fun e => absurd e ((Wr.In.far (M := M) (Z := Z) (unhide I2) hO hBO hrow).2.1)))
  clear hO hBO hrow
  have hsz3 : C3.size = 30 := by rw [← hC3]; rfl
  have hth3 : y3.there M 0 C3.size := by rw [hsz3]; exact Wr.In.there (unhide I3n)
  have hone3 : C3.all (·.oneCell') = true := by rw [← hC3]; exact Wr.G.one _
  have hi3 : (Try.prog.info? 29).map (·.size) = some C3.size := by rw [hsz3]; kernel_rfl
  have I3 := hide (Wr.In.puts h (unhide I3n) C3.toList (G := G3.box) (by rw [Array.length_toList]; exact hsz3) (fun j hj => by
    rw [Array.getElem?_toList, ← hC3]
    exact Wr.G.at _ j hj))
  rw [hC3] at hee
  subst hee
  have HG3 := hide hG3
  clear cf hu I2 I3n c0 u0 fM hrgM hiM hs3 hk3 hG3 hC3 hsz3
  go_upto_region 17 with (refine wpList_store_mid rfl 29 (.tmp 3) (.tmp 46) rfl M 0 C3 rfl rfl hth3 hi3 hone3 ?_)
  obtain ⟨y3s, hy3s⟩ : ∃ q, y3.setCells M 0 C3.toList = q := ⟨_, rfl⟩
  rw [hy3s] at I3 F0 ⊢
  clear hy3s hth3 hi3 hone3 y3

  obtain ⟨C, hC⟩ : ∃ C, Wr.G.cells (G3) = C := ⟨_, rfl⟩
  have hsz : C.size = 30 := by rw [← hC]; rfl
  have hrg : y3s.rangeAt M 0 C.toList := fun j u hj => by
    have hj30 : j < 30 := by
      have := (List.getElem?_eq_some_iff.1 hj).1
      simpa [hsz] using this
    have h1 := Wr.G.at (G3) j hj30
    rw [hC] at h1
    rw [Array.getElem?_toList, h1] at hj
    rw [Nat.zero_add, (unhide I3).box.cell hj30]
    exact hj
  have hth : y3s.there Z 0 C.size := fun j hj => by
    obtain ⟨q, hq⟩ := (unhide I3).res
    rw [hsz] at hj
    rw [Nat.zero_add]
    exact ⟨by rw [hq.cell hj]; rfl, hq.free j⟩
  have hone : C.all (·.oneCell') = true := by rw [← hC]; exact Wr.G.one _
  have hi1 : (Try.prog.info? 29).map (·.size) = some C.toList.length := by
    rw [Array.length_toList, hsz]
    kernel_rfl
  have hld : (loadVar 29 ⟨Z, 0, none⟩).run Try.prog (y3s.setCells Z 0 C.toList) = .ok (.agg C) (y3s.setCells Z 0 C.toList) :=
    run_loadVar_mid (P := Try.prog) (y3s.setCells Z 0 C.toList) Z 0 29 C.toList _ (World.rangeAt_setCells_same y3s Z 0 C.toList (by rw [Array.length_toList]; exact hth)) Try.underlying29 rfl hi1
  have hi2 : (Try.prog.info? 29).map (·.size) = some C.size := by rw [hsz]; kernel_rfl
  have HC := hide hC
  have hfo := (unhide I3).fixed h C.toList
  have HFX := hide hfo
  clear hC hsz I3 hfo
  go_wp2_with (first | refine wpList_load_mid rfl 29 (.tmp 3) rfl M 0 rfl C.toList _ hrg Try.underlying29 rfl hi1 ?_ | refine wpList_store_mid rfl 29 (.tmp 4) (.tmp 47) rfl Z 0 C rfl rfl hth hi2 hone ?_)
  obtain ⟨W, hW⟩ : ∃ W, y3s.setCells Z 0 C.toList = W := ⟨_, rfl⟩
  have HW := hide hW
  rw [hW] at hld ⊢
  clear hrg hth hone hi1 hi2 hW
  go_wp2
  refine bodyPost_ret (v := .agg C) (by simp [results, Try.results32, Act.put, asAddr, hld]) rfl ?_
  have hW := unhide HW
  have hC := unhide HC

  obtain ⟨h1, h2⟩ := unhide HFX
  subst hW
  subst hC
  rw [unhide he]
  have hG3 := unhide HG3
  exact ⟨B3, O, by rw [hG3]; rfl, (unhide F0).1, (unhide F0).2.2.2.1, (unhide F0).last _, h1, h2⟩

end

end Go.Proofs.Ytiegccdgoemamaa
