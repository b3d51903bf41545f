import Derived.Test.YtapgkgbpekkdjabGreatPart07
import Derived.ScopeJumps
import Derived.WalkMore
namespace Go.Proofs.YtapgkgbpekkdjabGreat
open Go.RowKit

theorem gpt (w:World) (g i:Nat) (u:Value):w.grownBy (w.setCell ⟨g,i,none⟩ u) (some g):=gst (World.grownBy.refl _ _) i u

theorem Gn.steps_0 {x y tx ty:Int} (hx:x=tx) (hy:y=ty):Gn.steps x y tx ty=0:=by
 unfold Gn.steps;omega

theorem Gn.run_on {tx ty x y:Int} {first:Bool} {st:(Nat→Int) × Bool} {c:Nat} (h:¬(x=tx∧y=ty)) (hc:y*24+x=(c:Int)) :
  Gn.digRun tx ty first (Gn.steps x y tx ty) st x y=Gn.digRun tx ty first (Gn.steps (Gn.stepX x y tx ty first) (Gn.stepY x y tx ty first) tx ty) (Gn.digAt st c) (Gn.stepX x y tx ty first) (Gn.stepY x y tx ty first):=by
 rw [←Gn.step_less x y tx ty first h,Gn.digRun,hc,Int.toNat_natCast]

theorem Gn.run_end {tx ty x y:Int} {first:Bool} {st:(Nat→Int) × Bool} {c:Nat} (hx:x=tx) (hy:y=ty) (hc:y*24+x=(c:Int)) :
  Gn.digRun tx ty first (Gn.steps x y tx ty) st x y=Gn.digAt st c:=by
 rw [Gn.steps_0 hx hy,Gn.digRun,hc,Int.toNat_natCast]

theorem Gn.at_wall {st:(Nat→Int) × Bool} {c:Nat} (h:st.1 c=0):Gn.digAt st c=(Gr.upd st.1 c (if st.2 then 1 else 2),true):=if_pos h

theorem Gn.at_free {st:(Nat→Int) × Bool} {c:Nat} (h:¬st.1 c=0):Gn.digAt st c=st:=if_neg h

theorem Arr.byte {w:World} {g n:Nat} {T:TypeId} {F:Nat→Int} (h:Arr w g T n (Byts F)) (i:Nat) (v:Int):Arr (w.setCell ⟨g,i,none⟩ (.int .u8 v)) g T n (Byts (Gr.upd F i v)):=by
 refine (h.store i _).congr fun j _=>?_
 show (if j=i then Value.int .u8 v else .int .u8 (F j))=.int .u8 (if j=i then v else F j)
 split <;> rfl

end Go.Proofs.YtapgkgbpekkdjabGreat
