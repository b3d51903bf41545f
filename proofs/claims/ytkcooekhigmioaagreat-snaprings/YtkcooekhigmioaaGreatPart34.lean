import Derived.Test.YtkcooekhigmioaaGreatPart33
namespace Go.Proofs.YtkcooekhigmioaaGreat
open Go.RowKit

theorem refMake10_any (seed f:Int) (h1:1≤f) (h3:f≤3) (w:World):Calls Tryz.prog 52 #[.int .i64 seed,.int .i64 f] w (Cr.Made seed f w):=by
 obtain ⟨d,hd,hF⟩:=dice_of seed f
 refine (refMake_any seed f d hd hF h1 h3 w).mono ?_
 rintro e w' ⟨c,F,G,nE,nI,cE,cI,aE,aI,hlev,rfl,hG,hA,hnE,hnI,hE,hI,hg⟩
 have hl:Cr.Lev seed f c (Gn.ents d f c F) (Gn.items d c):=⟨d,F,hd,hF,hlev,rfl,rfl⟩
 have hE40:nE≤40:=by
  rw [hnE]
  have:=Gn.mons_len d f (f+2).toNat 0 ((Gn.those (fun i=>c i == 1) 384).filter (Gn.afar F))
  unfold Gn.ents
  omega
 have hI100:nI≤100:=by
  have:=Gn.items_len d c
  rw [hnI,this.1]
  split <;> omega
 exact ⟨c,_,_,G,nE,nI,cE,cI,aE,aI,hl,rfl,hG,hA.lie,Cr.mons_of hE hnE hE40 (fun p hp=>⟨(hl.mons h1 p hp).1,(hl.mons h1 p hp).2.1,(hl.mons h1 p hp).2.2.1⟩),Cr.goods_of hI hnI hI100,hnI,hg,fun z hz=>⟨Cr.mons_of (hz.owns hE) hnE hE40 (fun p hp=>⟨(hl.mons h1 p hp).1,(hl.mons h1 p hp).2.1,(hl.mons h1 p hp).2.2.1⟩),Cr.goods_of (hz.owns hI) hnI hI100⟩⟩

end Go.Proofs.YtkcooekhigmioaaGreat
