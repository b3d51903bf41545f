import Derived.Test.YtbanjoflgoiegaaGreatPs52
namespace Go.Proofs.YtbanjoflgoiegaaGreat
open Go.RowKit

theorem Cr.Scene.put {w x:World} {T A gC gE gI cC cE cI:Nat} {how inp how' inp':Nat→Int} {sp sp':Nat→Bool} {S:Cr.W} (h:Cr.Scene w x T A gC gE gI cC cE cI how inp sp S) (j:Nat) (u:Value) (he:∀c,c<12→(if c=j then u else Cr.actF how inp sp c)=Cr.actF how' inp' sp' c):Cr.Scene w (x.setCell ⟨A,j,none⟩ u) T A gC gE gI cC cE cI how' inp' sp' S:=by
 obtain ⟨n0,n1,n2,n3⟩:=h.apart
 have hh:=h.law.hold
 exact ⟨⟨⟨hh.box.other n0 _ _,⟨hh.lists.cells.other n1 _ _,hh.lists.ents.other n2 _ _,hh.lists.items.other n3 _ _⟩,hh.bC,hh.bE,hh.bI,hh.cE,hh.cI,hh.eI⟩,h.law.lT,h.law.lE,h.law.lI,h.law.cap,gsr h.law.grown ⟨A,j,none⟩ h.lA _⟩,(h.acts.store j u).congr he,h.lA⟩

theorem Cr.Scene.how {w x:World} {T A gC gE gI cC cE cI:Nat} {how inp:Nat→Int} {sp:Nat→Bool} {S:Cr.W} (h:Cr.Scene w x T A gC gE gI cC cE cI how inp sp S) (t:Nat) (u:Int):Cr.Scene w (x.setCell ⟨A,t*3,none⟩ (.int .i64 u)) T A gC gE gI cC cE cI (fun k=>if k=t then u else how k) inp sp S :=
 h.put (t*3) _ fun c _=>by
  unfold Cr.actF
  dsimp only
  by_cases e:c=t*3
  ·rw [if_pos e,if_pos (by omega),if_pos (by omega)]
  ·rw [if_neg e]
   by_cases e3:c % 3=0
   ·rw [if_pos e3,if_pos e3,if_neg (by omega)]
   ·rw [if_neg e3,if_neg e3]

theorem Cr.Scene.how_at {w x:World} {T A gC gE gI cC cE cI:Nat} {how inp:Nat→Int} {sp:Nat→Bool} {S:Cr.W} (h:Cr.Scene w x T A gC gE gI cC cE cI how inp sp S) {t:Nat} (ht:t<4):x.cell? ⟨A,t*3,none⟩=some (.int .i64 (how t)):=by
 rcases (show t=0∨t=1∨t=2∨t=3 by omega) with rfl | rfl | rfl | rfl
 ·exact h.acts.cell (c:=0) (by omega)
 ·exact h.acts.cell (c:=3) (by omega)
 ·exact h.acts.cell (c:=6) (by omega)
 ·exact h.acts.cell (c:=9) (by omega)

theorem Cr.Scene.comes {w x:World} {T A gC gE gI cC cE cI:Nat} {how inp:Nat→Int} {sp:Nat→Bool} {S:Cr.W} (h:Cr.Scene w x T A gC gE gI cC cE cI how inp sp S):Cr.Scene w (x.setCell ⟨A,2,none⟩ (.bool true)) T A gC gE gI cC cE cI how inp (fun k=>if k=0 then true else sp k) S :=
 h.put 2 _ fun c _=>by
  unfold Cr.actF
  dsimp only
  by_cases e:c=2
  ·rw [if_pos e,if_neg (by omega),if_neg (by omega),if_pos (by omega)]
  ·rw [if_neg e]
   by_cases e3:c % 3=0
   ·rw [if_pos e3,if_pos e3]
   ·rw [if_neg e3,if_neg e3]
    by_cases e1:c % 3=1
    ·rw [if_pos e1,if_pos e1]
    ·rw [if_neg e1,if_neg e1,if_neg (by omega)]

theorem Cr.Scene.copied {w x x':World} {T A Q gC gE gI cC cE cI jC jE jI dC dE dI:Nat} {how inp:Nat→Int} {sp:Nat→Bool} {S U:Cr.W} (h:Cr.Scene w x T A gC gE gI cC cE cI how inp sp S) (hQ:Lie x Q 30 11 (Gd.box S.s gC gE gI cC cE cI S.g)) (n:T≠Q) (hg:x.grownBy x' none) :
  Lie (x'.setCells T 0 (Gd.world U.s jC jE jI dC dE dI U.g).toList) Q 30 11 (Gd.box S.s gC gE gI cC cE cI S.g)∧Gd.Lists (x'.setCells T 0 (Gd.world U.s jC jE jI dC dE dI U.g).toList) gC gE gI S.c S.E S.I:=by
 have hh:=h.law.hold
 exact ⟨(hQ.on hg).others n _ _,(hh.lists.cells.on hg).others hh.bC _ _,(hh.lists.ents.on hg).others hh.bE _ _,(hh.lists.items.on hg).others hh.bI _ _⟩

end Go.Proofs.YtbanjoflgoiegaaGreat

namespace Go.Proofs.YtbanjoflgoiegaaGreat
open Go.RowKit Go.ChangeShapes Go.WideShapes

theorem Cr.wf_bound {n:Int} (h:(Lit.int .i64 n).wf=true):-9223372036854775808≤n∧n≤9223372036854775807:=by
 simp only [Lit.wf,Bool.and_eq_true,decide_eq_true_eq,show IntKind.i64.min=-9223372036854775808 from by decide,show IntKind.i64.max=9223372036854775807 from by decide] at h
 exact h

theorem open_row {H:Type} {enc:TypeId × Value→H} {w:World} {base:Nat} {sp:Nat→Bool} {held:Bool} {fuel:Nat} {a:Option Addr} {len cap:Nat} {x:DataW H × List MemPlace} (h:DataW.trod enc Tryz.prog w base sp held fuel 38 [.slice a len cap]=some x):∃z,len≤maxLen∧Cr.Nums w a len z:=by
 rcases Go.Deep.open_slice Tryz.underlying38 h with ⟨hcs,_⟩ | ⟨a',len',cap',m,n,D,Pl,hcs,_,hl,hm,hmm,_,hx⟩
 ·simp only [List.cons.injEq,Value.slice.injEq,and_true] at hcs
  obtain ⟨rfl,rfl,rfl⟩:=hcs
  exact ⟨fun _=>0,Nat.zero_le _,fun i hi=>absurd hi (Nat.not_lt_zero i)⟩
 ·simp only [List.cons.injEq,Value.slice.injEq,and_true] at hcs
  obtain ⟨rfl,rfl,rfl⟩:=hcs
  have hc1:Tryz.prog.cellsOf 3=1:=by kernel_rfl
  rw [hc1] at hx
  have hlm:len≤m:=by rw [hmm];split <;> omega
  obtain ⟨z,hz⟩:∃z:Nat→Int,∀i,i<len→w.cell? (a'.add (i*1))=some (.int .i64 (z i))∧(Lit.int .i64 (z i)).wf=true:=by
   refine Go.Deep.choose_lt (α:=Int) (p:=fun i e=>w.cell? (a'.add (i*1))=some (.int .i64 e)∧(Lit.int .i64 e).wf=true) fun i hi=>?_
   obtain ⟨cs',h1,h2⟩:=hx i (by omega)
   obtain ⟨_,hlen,hcell⟩:=World.cells?_some h1
   obtain ⟨e,rfl,_,hw⟩:=DataW.trod_int Tryz.underlying3 h2
   have h0:=hcell 0 (by omega)
   exact ⟨e,by simpa [Addr.add] using h0,hw⟩
  refine ⟨z,Nat.le_trans hl hm,fun i hi=>?_⟩
  obtain ⟨b,off,spot⟩:=a'
  have hc0:=(hz i hi).1
  have hspot:spot=none:=by simpa [Addr.add] using World.cell?_spot (hz 0 (by omega)).1
  subst hspot
  rw [add_plain,Nat.mul_one] at hc0
  have hb:=Go.block_lt_of_cell hc0
  exact ⟨b,off,rfl,hb,hc0,Cr.wf_bound (hz i hi).2⟩

def Cr.Came (w:World) (a:Option Addr) (len:Nat) (V:Nat→Option Addr × Nat × Nat) (z:Nat→Nat→Int):Prop :=
 len≤maxLen∧∀i,i<len→∃b o,a=some ⟨b,o,none⟩∧b<w.heap.size∧w.cell? ⟨b,o+i,none⟩=some (.slice (V i).1 (V i).2.1 (V i).2.2)∧(V i).2.1≤maxLen∧Cr.Nums w (V i).1 (V i).2.1 (z i)

theorem Cr.Came.on {w w':World} {a:Option Addr} {len:Nat} {V:Nat→Option Addr × Nat × Nat} {z:Nat→Nat→Int} (h:Cr.Came w a len V z) (hg:w.grownBy w' none):Cr.Came w' a len V z :=
 ⟨h.1,fun i hi=>by
  obtain ⟨b,o,ha,hb,hc,hn,hz⟩:=h.2 i hi
  exact ⟨b,o,ha,Nat.lt_of_lt_of_le hb hg.size,(gce hg b _ hb (by simp)).trans hc,hn,hz.on hg⟩⟩

theorem open_rows {H:Type} {enc:TypeId × Value→H} {w:World} {base:Nat} {sp:Nat→Bool} {held:Bool} {fuel:Nat} {a:Option Addr} {len cap:Nat} {x:DataW H × List MemPlace} (h:DataW.trod enc Tryz.prog w base sp held fuel 22 [.slice a len cap]=some x):∃V z,Cr.Came w a len V z:=by
 rcases Go.Deep.open_slice Tryz.underlying22 h with ⟨hcs,_⟩ | ⟨a',len',cap',m,n,D,Pl,hcs,_,hl,hm,hmm,_,hx⟩
 ·simp only [List.cons.injEq,Value.slice.injEq,and_true] at hcs
  obtain ⟨rfl,rfl,rfl⟩:=hcs
  exact ⟨fun _=>(none,0,0),fun _ _=>0,Nat.zero_le _,fun i hi=>absurd hi (Nat.not_lt_zero i)⟩
 ·simp only [List.cons.injEq,Value.slice.injEq,and_true] at hcs
  obtain ⟨rfl,rfl,rfl⟩:=hcs
  have hc1:Tryz.prog.cellsOf 38=1:=by kernel_rfl
  rw [hc1] at hx
  have hlm:len≤m:=by rw [hmm];split <;> omega
  obtain ⟨q,hq⟩:∃q:Nat→(Option Addr × Nat × Nat) × (Nat→Int),∀i,i<len→w.cell? (a'.add (i*1))=some (.slice (q i).1.1 (q i).1.2.1 (q i).1.2.2)∧(q i).1.2.1≤maxLen∧Cr.Nums w (q i).1.1 (q i).1.2.1 (q i).2:=by
   refine Go.Deep.choose_lt (α:=(Option Addr × Nat × Nat) × (Nat→Int)) (p:=fun i e=>w.cell? (a'.add (i*1))=some (.slice e.1.1 e.1.2.1 e.1.2.2)∧e.1.2.1≤maxLen∧Cr.Nums w e.1.1 e.1.2.1 e.2) fun i hi=>?_
   obtain ⟨cs',h1,h2⟩:=hx i (by omega)
   obtain ⟨_,hlen,hcell⟩:=World.cells?_some h1
   have h0:=hcell 0 (by omega)
   obtain ⟨r,l,k,rfl⟩:∃r l k,cs'=[.slice r l k]:=by
    rcases Go.Deep.open_slice Tryz.underlying38 h2 with ⟨hcs,_⟩ | ⟨a2,len2,cap2,_,_,_,_,hcs,_⟩
    ·exact ⟨none,0,0,hcs⟩
    ·exact ⟨some a2,len2,cap2,hcs⟩
   obtain ⟨z,hz1,hz2⟩:=open_row h2
   exact ⟨((r,l,k),z),by simpa [Addr.add] using h0,hz1,hz2⟩
  refine ⟨fun i=>(q i).1,fun i=>(q i).2,Nat.le_trans hl hm,fun i hi=>?_⟩
  obtain ⟨b,off,spot⟩:=a'
  have hc0:=(hq i hi).1
  have hspot:spot=none:=by simpa [Addr.add] using World.cell?_spot (hq 0 (by omega)).1
  subst hspot
  rw [add_plain,Nat.mul_one] at hc0
  exact ⟨b,off,rfl,Go.block_lt_of_cell hc0,hc0,(hq i hi).2.1,(hq i hi).2.2⟩

end Go.Proofs.YtbanjoflgoiegaaGreat
