import Derived.Test.YtepppmepilffcaaGreatPart28
import Derived.Test.YtepppmepilffcaaGreatPart32
import Derived.RowKit
namespace Go.Proofs.YtepppmepilffcaaGreat
open Go.RowKit

theorem Sn.placed_small {c r:Nat→Int} (h:Gd.Placed c r):(0≤r 0∧r 0≤255)∧(0≤r 1∧r 1≤255)∧(0≤r 2∧r 2≤255)∧0≤r 3∧r 3≤255:=by
 obtain ⟨h1,h2,h | h | h | h⟩:=h
 ·have:=(Gr.inB_iff _ _).1 h.2.1
  omega
 ·omega
 ·omega
 ·omega

theorem Sn.small {c:Nat→Int} {E I:Nat→Nat→Int} (hS:Cr.Sane c E I):(∀i j,i<32→j<11→0≤E i j∧E i j≤255)∧(∀i j,i<40→j<4→0≤I i j∧I i j≤255):=by
 refine ⟨fun i j hi hj=>?_,fun i j hi hj=>?_⟩
 ·have hr:=hS.fit.rows i hi
  by_cases h0:E i 0=0
  ·by_cases h1:j=1
   ·subst h1
    exact ⟨hr.1,hr.2.1⟩
   ·rcases hr.2.2 with hz | ht
    ·rw [hz j hj h1]
     omega
    ·omega
  ·have ht:=hr.taken h0
   obtain ⟨p1,p2,p3,p4,-⟩:=hS.set.stands.on i hi h0
   have hs:0≤E i 2∧E i 2≤3:=by
    by_cases k1:E i 0=1
    ·have:=hS.seats.seat i hi k1
     omega
    ·have:=hS.seats.none i hi h0 k1
     omega
   have g0:=hr.1
   have g1:=hr.2.1
   rcases (show j=0∨j=1∨j=2∨j=3∨j=4∨j=5∨j=6∨j=7∨j=8∨j=9∨j=10 by omega) with rfl | rfl | rfl | rfl | rfl | rfl | rfl | rfl | rfl | rfl | rfl <;> omega
 ·rcases hS.fit.ok.each i hi with hz | hp
  ·obtain ⟨z0,z1,z2,z3⟩:=hz
   rcases (show j=0∨j=1∨j=2∨j=3 by omega) with rfl | rfl | rfl | rfl <;> omega
  ·obtain ⟨q1,q2,q3,q4⟩:=Sn.placed_small hp
   rcases (show j=0∨j=1∨j=2∨j=3 by omega) with rfl | rfl | rfl | rfl <;> omega

theorem Sn.Bytes.src {w:World} {base:Nat} {v:Value} {l:List Int} (h:Sn.Bytes w base v l) (hl:l.length=918) (hb:∀b∈l,0≤b∧b≤255):∃G cap,v=.slice (some ⟨G,0,none⟩) 918 cap∧918≤cap∧cap≤9223372036854775807∧Sn.Src w G (Sn.fn l):=by
 have h':=h
 unfold Sn.Bytes at h
 rw [hl] at h
 rcases h.2 with ⟨_,h0⟩ | ⟨G,cap,cur,rfl,_,hg,h1,h2,h3,h4⟩
 ·omega
 ·refine ⟨G,cap,rfl,h1,h2,⟨lt_of_block hg,fun i hi=>?_,fun i=>?_⟩⟩
  ·rw [h.cellAt i (by omega),List.getElem?_map,Sn.fn_at (by omega)]
   rfl
  ·unfold Sn.fn
   by_cases hi:i<l.length
   ·rw [List.getElem?_eq_getElem hi]
    exact hb _ (List.getElem_mem hi)
   ·rw [List.getElem?_eq_none (by omega)]
    exact ⟨by decide,by decide⟩


open Go.RowKit

def Ck.bys (l:List Int):List Value:=l.map (Value.int .u8)

theorem info_by:(Tryz.prog.info? 5).map (fun i=>(i.zero,i.size,i.bytes))=some (some (.int .u8 0),1,1):=by kernel_rfl

end Go.Proofs.YtepppmepilffcaaGreat
