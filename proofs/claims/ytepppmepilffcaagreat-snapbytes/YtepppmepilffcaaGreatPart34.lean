import Derived.Test.YtepppmepilffcaaGreatPart33
import Derived.Laws.OwnMore
import Derived.Laws.BytesString
namespace Go.Proofs.YtepppmepilffcaaGreat
open Go.RowKit

def Ck.Src (x:World) (v:Value) (l:List Int):Prop :=
 (v=.slice none 0 0∧l=[])∨∃ad cap,v=.slice (some ad) l.length cap∧∀j u,(Ck.bys l)[j]?=some u→x.cell? (ad.add j)=some u

theorem Ck.Src.on {x y:World} {v:Value} {l:List Int} (h:Ck.Src x v l) (hc:∀a u,x.cell? a=some u→y.cell? a=some u):Ck.Src y v l:=by
 rcases h with h | ⟨ad,cap,h1,h2⟩
 ·exact .inl h
 ·exact .inr ⟨ad,cap,h1,fun j u q=>hc _ _ (h2 j u q)⟩


open Go.RowKit

theorem Ck.Src.text {w:World} {v:Value} {l:List Int} (hs:Ck.Src w v l):(convert 26 9 v).run Tryz.prog w=.ok (.string (strOfNums l)) w:=by
 rcases hs with ⟨rfl,rfl⟩ | ⟨ad,cap,rfl,h2⟩
 ·rw [run_convert_bytes_nil w 26 5 Tryz.underlying26 Tryz.underlying5 0 0 9 Tryz.underlying9]
  rfl
 ·by_cases h0:l=[]
  ·subst h0
   rw [run_convert_bytes_string w 26 9 5 (some ad) _ cap Tryz.underlying26 Tryz.underlying5 Tryz.underlying9]
   simp [Conv.bytesToString,loadCells,loadCellsFrom]
   rfl
  ·have hp:0<l.length:=List.length_pos_iff.2 h0
   have hat:∀j,j<l.length→w.cell? (ad.add j)=some (.int .u8 (l.getD j 0)):=fun j hj=>h2 j _ (by
    unfold Ck.bys
    rw [List.getElem?_map,List.getElem?_eq_getElem hj,List.getD,List.getElem?_eq_getElem hj]
    rfl)
   obtain ⟨b,off,spot⟩:=ad
   have hspot:spot=none:=by simpa [Addr.add] using World.cell?_spot (hat 0 hp)
   subst hspot
   exact run_convert_bytes_arg w 26 5 Tryz.underlying26 Tryz.underlying5 b off l.length cap l rfl (fun j hj=>by have:=hat j hj;rwa [Go.WideShapes.add_plain] at this) 9 Tryz.underlying9

theorem Ck.Src.grown {x y:World} {v:Value} {l:List Int} (h:Ck.Src x v l) (hg:x.grownBy y none):Ck.Src y v l :=
 h.on fun ad u q=>(World.cell?_of_block (hg.block _ (Go.block_lt_of_cell q) (by simp))).trans q

end Go.Proofs.YtepppmepilffcaaGreat
