import Derived.Test.YtldgbkjceildfaaGreatBy22
namespace Go.Proofs.YtldgbkjceildfaaGreat
open Go.RowKit

theorem Row.four (w:World) (a b c d:Int) (T:TypeId):Row (w.alloc (.cells #[.int .i64 a,.int .i64 b,.int .i64 c,.int .i64 d] T)) (some ⟨w.heap.size,0,none⟩) 4 [a,b,c,d]:=by
 refine ⟨rfl,by unfold maxLen;omega,.inr ⟨w.heap.size,0,rfl,fun i hi=>?_⟩⟩;have h:=Arr.lit (heap_alloc_new w (.cells #[.int .i64 a,.int .i64 b,.int .i64 c,.int .i64 d] T));rw [Nat.zero_add,h.cell (i:=i) hi];rcases (show i=0∨i=1∨i=2∨i=3 by omega) with rfl|rfl|rfl|rfl <;> rfl


open Go.RowKit

theorem Gd.Boxed.over {w x x':World} {B gC gE gI cC cE cI jC jE jI dC dE dI:Nat} {s g c s' g' c':Nat→Int} {E I F J:Nat→Nat→Int} (h:Gd.Boxed w x B gC gE gI cC cE cI s g c E I) (hcap:32≤dE) (l1:x.heap.size≤jC) (l2:x.heap.size≤jE) (l3:x.heap.size≤jI) (n1:jC≠jE) (n2:jC≠jI) (n3:jE≠jI) (hL:Gd.Lists x' jC jE jI c' F J) (hg:x.grownBy x' none) :
  Gd.Boxed w (x'.setCells B 0 (Gd.world s' jC jE jI dC dE dI g').toList) B jC jE jI dC dE dI s' g' c' F J:=by
 have h1:=h.hold.box.lt;have h2:=h.grown.size;have h3:=h.at_;have h4:=h.res.lt;have r:=gss (g:=B) (Gd.world s' jC jE jI dC dE dI g').toList 0 x' (World.grownBy.refl _ _);exact ⟨⟨(h.hold.box.on hg).whole s' g' jC jE jI dC dE dI,⟨hL.cells.grown r (by simp;omega),hL.ents.grown r (by simp;omega),hL.items.grown r (by simp;omega)⟩,by omega,by omega,by omega,n1,n2,n3⟩,h.at_,by omega,by omega,by omega,hcap,(h.res.on hg).grown r (by simp),own_sets (by omega) _ 0 x' (gtr h.grown hg)⟩

theorem Gd.Boxed.folk {w x x':World} {B gC gE gI cC cE cI jE dE:Nat} {s g c:Nat→Int} {E I F:Nat→Nat→Int} (h:Gd.Boxed w x B gC gE gI cC cE cI s g c E I) (hcap:32≤dE) (l2:x.heap.size≤jE) (hO:Own x' jE 32 F) (hg:x.grownBy x' none) :
  Gd.Boxed w (x'.setCell ⟨B,5,none⟩ (.slice (some ⟨jE,0,none⟩) 32 dE)) B gC jE gI cC dE cI s g c F I:=by
 have h1:=h.hold.box.lt;have h2:=h.hold.lists.cells.lt;have h3:=h.hold.lists.items.lt;have h4:=h.at_;have h5:=h.res.lt;have r:=gs0 x' B 5 (.slice (some ⟨jE,0,none⟩) 32 dE);have hb:=((h.hold.box.on hg).store 5 (.slice (some ⟨jE,0,none⟩) 32 dE)).congr (Gd.box_5 s g gC gE gI cC cE cI jE dE);exact ⟨⟨hb,⟨(h.hold.lists.cells.on hg).grown r (by simpa using h.hold.bC),(hO.lie (m:=352) (by omega)).grown r (by simp;omega),(h.hold.lists.items.on hg).grown r (by simpa using h.hold.bI)⟩,h.hold.bC,by omega,h.hold.bI,by omega,h.hold.cI,by omega⟩,h4,h.lC,by omega,h.lI,hcap,(h.res.on hg).grown r (by simp),gsr (gtr h.grown hg) ⟨B,5,none⟩ (by show w.heap.size≤B;omega) _⟩


open Go.RowKit

set_option maxHeartbeats 1600000 in
theorem refThere8_any (s g c:Nat→Int) (E I:Nat→Nat→Int) (gC gE gI cC cE cI:Nat) (row:Int) (w:World) (hL:Gd.Lists w gC gE gI c E I) :
  Calls Tryz.prog 82 #[.agg (Gd.world s gC gE gI cC cE cI g),.int .i64 row] w (Says w (.bool (Ft.there E row))):=by
 have hg0:=hide (World.grownBy_alloc w (.cells (Gd.world s gC gE gI cC cE cI g) 30) none);have hbox:=(Arr.world (heap_alloc_new w (.cells (Gd.world s gC gE gI cC cE cI g) 30))).lie;have hL0:=hL.on (uh hg0);obtain ⟨b0,b1,b2,b3,b4,b5,b6,b7,b8,b9,b10⟩:=hbox.eleven;clear b0 b1 b2 b3 b4 b6 b7 b8 b9 b10 hbox hL;unfold Gd.world at hg0 b5 hL0 ⊢;by_cases h0:0≤row
 ·by_cases h1:row<32
  ·obtain ⟨k,rfl⟩:∃k:Nat,row=(k:Int):=⟨row.toNat,by omega⟩;have hk:k<32:=by omega
   have u0:=(hL0.own.ents.row hk).1;have hr:=hide (Ft.there_at (E:=E) hk);clear hL0 h0;by_cases hz:E k 0=0
   ·rw [hz] at u0;have hr2:Hid (Ft.there E (k:Int)=false):=(uh hr).trans (by simp [hz]);clear hz hr;go_enter Tryz.func82,Tryz.ntmps82;go_wp2;go_ret;exact ⟨ret_bool (uh hr2).symm,uh hg0⟩
   ·have hr2:Hid (Ft.there E (k:Int)=true):=(uh hr).trans (by simp [hz]);have hz':(E k 0 == 0)=false:=by simpa using hz
    have hz2:Hid ((E k 0 != 0)=true):=(show (E k 0 != 0)=true by simpa using hz);clear hr;go_enter Tryz.func82,Tryz.ntmps82;go_wp2;go_ret;exact ⟨ret_bool ((uh hz2).trans (uh hr2).symm),uh hg0⟩
  ·have hr2:Hid (Ft.there E row=false):=by
    show Ft.there E row=false;unfold Ft.there;rw [decide_eq_false (by omega)];rfl
   clear hL0;go_enter Tryz.func82,Tryz.ntmps82;go_wp2;go_ret;exact ⟨ret_bool (uh hr2).symm,uh hg0⟩
 ·have hr2:Hid (Ft.there E row=false):=by
   show Ft.there E row=false;unfold Ft.there;rw [decide_eq_false (by omega)];rfl
  clear hL0;go_enter Tryz.func82,Tryz.ntmps82;go_wp2;go_ret;exact ⟨ret_bool (uh hr2).symm,uh hg0⟩

end Go.Proofs.YtldgbkjceildfaaGreat
