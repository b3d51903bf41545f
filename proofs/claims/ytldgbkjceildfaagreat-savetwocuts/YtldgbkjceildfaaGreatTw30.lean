import Derived.Test.YtldgbkjceildfaaGreatTw22
namespace Go.Proofs.YtldgbkjceildfaaGreat
open Go.RowKit

structure Cr.W where
 s:Nat→Int
 g:Nat→Int
 c:Nat→Int
 E:Nat→Nat→Int
 I:Nat→Nat→Int

def Cr.num (s:Nat→Int) (k:Nat) (v:Int):Nat→Int:=fun j=>if j=k then v else s j

def Cr.Below (s g:Nat→Int) (E I:Nat→Nat→Int) (T:Cr.W):Prop :=
 ∃(c:Nat→Int) (es:List (Int × Nat)) (is:List Gn.Itm) (F:Nat→Nat→Int),Cr.Lev (s 0) (s 2+1) c es is∧Cr.LandTo c E 4 (Cr.bare E) F∧T=⟨Cr.num s 2 (s 2+1),g,c,Cr.stockE F es,Cr.stockI (Cr.kept I) is⟩

def Cr.Ends (s g c:Nat→Int) (E I:Nat→Nat→Int) (had left:Bool) (T:Cr.W):Prop :=
 if Cr.manned E=false then T=⟨if had=true then Cr.num s 3 2 else s,g,c,E,I⟩
 else if left=true then (if s 2=3 then T=⟨Cr.num s 3 1,g,c,E,I⟩ else Cr.Below s g E I T) else T=⟨s,g,c,E,I⟩

def Cr.IsStep (how input:Nat→Int) (sp:Nat→Bool) (S T:Cr.W):Prop :=
 if S.s 3≠0 then T=⟨Cr.num S.s 1 (S.s 1+1),S.g,S.c,S.E,S.I⟩
 else ∃(A:Nat→Nat→Int) (m:Cr.M) (F J:Nat→Nat→Int),Cr.ComesTo S.c sp 4 S.E A∧Cr.MovedTo (Cr.num S.s 1 (S.s 1+1)) S.c how input 4 ⟨S.g,A,S.I,false⟩ m∧Cr.ProwlTo (Cr.num S.s 1 (S.s 1+1)) S.c 32 m.E m.I F J ∧
  Cr.Ends (Cr.num S.s 1 (S.s 1+1)) m.g S.c (Cr.rats (Cr.num S.s 1 (S.s 1+1)) S.c (Ft.ailE F J 32).1) (Ft.ailE F J 32).2 (Cr.manned S.E || Cr.manned A) m.left T

structure Cr.Good (S:Cr.W):Prop where
 sane:Cr.Sane S.c S.E S.I
 floor:Nv.Floor S.c
 gold:Cr.Gold S.g
 f1:1≤S.s 2
 f3:S.s 2≤3
 s0:0≤S.s 3
 s2:S.s 3≤2

theorem Cr.num_at (s:Nat→Int) (k:Nat) (v:Int):Cr.num s k v k=v:=if_pos rfl

theorem Cr.num_else (s:Nat→Int) {k j:Nat} (v:Int) (h:j≠k):Cr.num s k v j=s j:=if_neg h

theorem Cr.IsStep.good {how input:Nat→Int} {sp:Nat→Bool} {S T:Cr.W} (h:Cr.IsStep how input sp S T) (hS:Cr.Good S):Cr.Good T∧T.s 0=S.s 0∧T.s 1=S.s 1+1∧(T.s 2=S.s 2∨T.s 2=S.s 2+1)∧(S.s 3≠0→T=⟨Cr.num S.s 1 (S.s 1+1),S.g,S.c,S.E,S.I⟩):=by
 unfold Cr.IsStep at h
 have n0:Cr.num S.s 1 (S.s 1+1) 0=S.s 0:=Cr.num_else _ _ (by omega)
 have n1:Cr.num S.s 1 (S.s 1+1) 1=S.s 1+1:=Cr.num_at _ _ _
 have n2:Cr.num S.s 1 (S.s 1+1) 2=S.s 2:=Cr.num_else _ _ (by omega)
 have n3:Cr.num S.s 1 (S.s 1+1) 3=S.s 3:=Cr.num_else _ _ (by omega)
 split at h
 ·rename_i hc
  rw [h]
  exact ⟨⟨hS.sane,hS.floor,hS.gold,by show 1≤Cr.num S.s 1 (S.s 1+1) 2;rw [n2];exact hS.f1,by show Cr.num S.s 1 (S.s 1+1) 2≤3;rw [n2];exact hS.f3,by show 0≤Cr.num S.s 1 (S.s 1+1) 3;rw [n3];exact hS.s0,by show Cr.num S.s 1 (S.s 1+1) 3≤2;rw [n3];exact hS.s2⟩,n0,n1,.inl n2,fun _=>rfl⟩
 rename_i hc
 obtain ⟨A,m,F,J,hA,hm,hF,hE⟩:=h
 have sA:=hS.sane.comesTo (by omega) hA
 have sm:Cr.MFit S.c m:=Cr.MFit.movedTo (m:=⟨S.g,A,S.I,false⟩) ⟨sA,hS.gold⟩ hm
 have sF:=sm.1.prowlTo (by omega) hF
 have sR:=(sF.ail).rats (s:=Cr.num S.s 1 (S.s 1+1)) hS.floor
 generalize Cr.rats (Cr.num S.s 1 (S.s 1+1)) S.c (Ft.ailE F J 32).1=E2 at hE sR
 generalize (Ft.ailE F J 32).2=I2 at hE sR
 generalize Cr.num S.s 1 (S.s 1+1)=s1 at *
 have hz:S.s 3=0:=by
  by_cases e:S.s 3=0
  ·exact e
  ·exact absurd e hc
 have d0:∀v,Cr.num s1 3 v 0=s1 0:=fun v=>Cr.num_else _ _ (by omega)
 have d1:∀v,Cr.num s1 3 v 1=s1 1:=fun v=>Cr.num_else _ _ (by omega)
 have d2:∀v,Cr.num s1 3 v 2=s1 2:=fun v=>Cr.num_else _ _ (by omega)
 have d3:∀v,Cr.num s1 3 v 3=v:=fun v=>Cr.num_at _ _ _
 have f1:=hS.f1
 have f3:=hS.f3
 unfold Cr.Ends at hE
 split at hE
 ·rw [hE]
  cases Cr.manned S.E || Cr.manned A
  ·exact ⟨⟨sR,hS.floor,sm.2,by show 1≤s1 2;omega,by show s1 2≤3;omega,by show 0≤s1 3;omega,by show s1 3≤2;omega⟩,n0,n1,.inl n2,fun h=>absurd hz h⟩
  ·exact ⟨⟨sR,hS.floor,sm.2,by show 1≤Cr.num s1 3 2 2;rw [d2];omega,by show Cr.num s1 3 2 2≤3;rw [d2];omega,by show 0≤Cr.num s1 3 2 3;rw [d3];omega,by show Cr.num s1 3 2 3≤2;rw [d3];omega⟩,by show Cr.num s1 3 2 0=_;rw [d0];exact n0,by show Cr.num s1 3 2 1=_;rw [d1];exact n1,.inl (by show Cr.num s1 3 2 2=_;rw [d2];exact n2),fun h=>absurd hz h⟩
 ·split at hE
  ·split at hE
   ·rw [hE]
    exact ⟨⟨sR,hS.floor,sm.2,by show 1≤Cr.num s1 3 1 2;rw [d2];omega,by show Cr.num s1 3 1 2≤3;rw [d2];omega,by show 0≤Cr.num s1 3 1 3;rw [d3];omega,by show Cr.num s1 3 1 3≤2;rw [d3];omega⟩,by show Cr.num s1 3 1 0=_;rw [d0];exact n0,by show Cr.num s1 3 1 1=_;rw [d1];exact n1,.inl (by show Cr.num s1 3 1 2=_;rw [d2];exact n2),fun h=>absurd hz h⟩
   ·rename_i h3
    obtain ⟨c,es,is,G,hl,hG,rfl⟩:=hE
    have hc8:∀i,0≤c i∧c i≤255:=fun i=>⟨(hl.floor.five i).1,by have:=(hl.floor.five i).2;omega⟩
    obtain ⟨hk,hk1⟩:=Cr.kept_ok (c':=c) sR.fit.ok
    have hI:=hl.lay hk hk1
    have hb:=Cr.bare_sane (c:=c) (E:=E2) hc8 hI sR.good.gens
    have hland:=(Cr.landing sR hl.floor hl.four (by omega) hb (fun k _ k0=>absurd rfl k0) hG).1
    have hst:=hland.stockE es (hl.mons (by omega))
    have e0:Cr.num s1 2 (s1 2+1) 0=s1 0:=Cr.num_else _ _ (by omega)
    have e1:Cr.num s1 2 (s1 2+1) 1=s1 1:=Cr.num_else _ _ (by omega)
    have e2:Cr.num s1 2 (s1 2+1) 2=s1 2+1:=Cr.num_at _ _ _
    have e3:Cr.num s1 2 (s1 2+1) 3=s1 3:=Cr.num_else _ _ (by omega)
    exact ⟨⟨hst,hl.floor,sm.2,by show 1≤Cr.num s1 2 (s1 2+1) 2;rw [e2];omega,by show Cr.num s1 2 (s1 2+1) 2≤3;rw [e2];omega,by show 0≤Cr.num s1 2 (s1 2+1) 3;rw [e3];omega,by show Cr.num s1 2 (s1 2+1) 3≤2;rw [e3];omega⟩,by show Cr.num s1 2 (s1 2+1) 0=_;rw [e0];exact n0,by show Cr.num s1 2 (s1 2+1) 1=_;rw [e1];exact n1,.inr (by show Cr.num s1 2 (s1 2+1) 2=_;rw [e2];omega),fun h=>absurd hz h⟩
  ·rw [hE]
   exact ⟨⟨sR,hS.floor,sm.2,by show 1≤s1 2;omega,by show s1 2≤3;omega,by show 0≤s1 3;omega,by show s1 3≤2;omega⟩,n0,n1,.inl n2,fun h=>absurd hz h⟩

def Cr.first (seed:Int):Nat→Int
 | 0=>seed
 | 2=>1
 | _=>0

def Cr.IsNew (seed:Int) (T:Cr.W):Prop :=
 ∃(c:Nat→Int) (es:List (Int × Nat)) (is:List Gn.Itm),Cr.Lev seed 1 c es is∧T=⟨Cr.first seed,fun _=>0,c,Cr.stockE (fun _ _=>0) es,Cr.stockI (fun _ _=>0) is⟩

theorem Cr.IsNew.good {seed:Int} {T:Cr.W} (h:Cr.IsNew seed T):Cr.Good T:=by
 obtain ⟨c,es,is,hl,rfl⟩:=h
 have hc8:∀i,0≤c i∧c i≤255:=fun i=>⟨(hl.floor.five i).1,by have:=(hl.floor.five i).2;omega⟩
 have hI:=hl.lay (Md.ok_none c) (fun k _=>⟨by show ¬(0:Int)=1;omega,by show ¬(0:Int)=4;omega⟩)
 have hb:Cr.Sane c (fun _ _=>0) (Cr.stockI (fun _ _=>0) is):=by
  refine ⟨⟨hc8,hI,fun k _=>⟨by show (0:Int)≤0;omega,by show (0:Int)≤255;omega,.inl fun _ _ _=>rfl⟩⟩,⟨fun k _ k0=>absurd rfl k0,⟨fun k _ k0=>absurd rfl k0,fun j k _ _ j0=>absurd rfl j0⟩⟩,⟨fun k _ k1=>?_,fun j k _ _ j1=>?_,fun k _ k0=>absurd rfl k0⟩⟩
  ·exact absurd k1 (by show ¬(0:Int)=1;omega)
  ·exact absurd j1 (by show ¬(0:Int)=1;omega)
 exact ⟨hb.stockE es (hl.mons (by omega)),hl.floor,fun t _=>⟨by show (0:Int)≤0;omega,by show (0:Int)≤999;omega⟩,by show (1:Int)≤1;omega,by show (1:Int)≤3;omega,by show (0:Int)≤0;omega,by show (0:Int)≤2;omega⟩


open Go.RowKit

theorem Cr.ent_cells {p:Int × Nat} (h1:2≤p.1) (h4:p.1≤4):Gn.ent p.1 ((p.2:Int) % 24) ((p.2:Int) / 24)=En.cells (Cr.one p.1 0 p.2):=by
 obtain ⟨k,q⟩:=p
 rcases (show k=2∨k=3∨k=4 by have h1':2≤k:=h1;have h4':k≤4:=h4;omega) with rfl | rfl | rfl <;> rfl

def Cr.Mons (w:World) (a:Option Addr) (n:Nat) (es:List (Int × Nat)):Prop:=n=es.length∧n≤40∧∀i p,es[i]?=some p→(2≤p.1∧p.1≤4∧p.2<384)∧∃b,a=some ⟨b,0,none⟩∧b<w.heap.size∧∀j,j<11→w.cell? ⟨b,i*11+j,none⟩=some (.int .i64 (Cr.one p.1 0 p.2 j))

theorem Cr.Mons.on {w w':World} {a:Option Addr} {n:Nat} {es:List (Int × Nat)} (h:Cr.Mons w a n es) (hg:w.grownBy w' none):Cr.Mons w' a n es :=
 ⟨h.1,h.2.1,fun i p hp=>by
  obtain ⟨hk,b,ha,hb,hc⟩:=h.2.2 i p hp
  exact ⟨hk,b,ha,Nat.lt_of_lt_of_le hb hg.size,fun j hj=>(gce hg b _ hb (by simp)).trans (hc j hj)⟩⟩

theorem Cr.mons_of {w:World} {b nE cE:Nat} {aE:Option Addr} {es:List (Int × Nat)} (h:w.ownsRow b 70 11 (.slice aE nE cE) nE (Gn.flat es)) (hn:nE=es.length) (h40:nE≤40) (hk:∀p,p∈es→2≤p.1∧p.1≤4∧p.2<384):Cr.Mons w aE nE es :=
 ⟨hn,h40,fun i p hp=>by
  have hlt:i<nE:=by
   rw [hn]
   exact (List.getElem?_eq_some_iff.1 hp).1
  obtain ⟨g,ha,hg,hc⟩:=ents_cells h hp hlt
  have hk':=hk p (List.mem_of_getElem? hp)
  refine ⟨hk',g,ha,hg,fun j hj=>?_⟩
  rw [hc j hj]
  have e:Gn.entCells p=(En.cells (Cr.one p.1 0 p.2)).toList:=by
   rw [←Cr.ent_cells hk'.1 hk'.2.1]
   rfl
  rw [e]
  rcases (show j=0∨j=1∨j=2∨j=3∨j=4∨j=5∨j=6∨j=7∨j=8∨j=9∨j=10 by omega) with rfl | rfl | rfl | rfl | rfl | rfl | rfl | rfl | rfl | rfl | rfl <;> rfl⟩

theorem Cr.goods_of {w:World} {b nI cI:Nat} {aI:Option Addr} {is:List Gn.Itm} (h:w.ownsRow b 72 4 (.slice aI nI cI) nI (Gn.flatI is)) (hn:nI=is.length) (h100:nI≤100):Gd.Some w aI nI (Cr.itemOf is):=by
 refine ⟨h100,?_⟩
 by_cases h0:nI=0
 ·exact .inl h0
 ·have hat:∀i,i<nI→∃p,is[i]?=some p:=fun i hi=>⟨is[i]'(by omega),List.getElem?_eq_getElem _⟩
  obtain ⟨p0,hp0⟩:=hat 0 (by omega)
  obtain ⟨g,ha,hg,-⟩:=items_cells h hp0 (by omega)
  refine .inr ⟨g,0,ha,h100,hg,fun i j hi hj=>?_⟩
  obtain ⟨p,hp⟩:=hat i hi
  obtain ⟨g',ha',_,hc⟩:=items_cells h hp hi
  obtain rfl:g=g':=by
   rw [ha] at ha'
   simpa using ha'
  rw [Nat.zero_add,hc j hj]
  obtain ⟨e0,e1,e2,e3⟩:=Cr.item_at hp
  rcases (show j=0∨j=1∨j=2∨j=3 by omega) with rfl | rfl | rfl | rfl
  ·rw [e0];rfl
  ·rw [e1];rfl
  ·rw [e2];rfl
  ·rw [e3];rfl

def Cr.Same (lo:Nat) (x y:World):Prop:=x.heap.size≤y.heap.size∧∀k,lo≤k→k<x.heap.size→y.heap[k]?=x.heap[k]?

theorem Cr.Same.on {lo:Nat} {x y z:World} (h:Cr.Same lo x y) (hg:y.grownBy z none):Cr.Same lo x z :=
 ⟨Nat.le_trans h.1 hg.size,fun k h1 h2=>(hg.block k (Nat.lt_of_lt_of_le h2 h.1) (by simp)).trans (h.2 k h1 h2)⟩

theorem Cr.Same.sets {lo:Nat} {x:World} {b:Nat} (hb:b<lo∨x.heap.size≤b):∀(vs:List Value) (o:Nat) {y:World},Cr.Same lo x y→Cr.Same lo x (y.setCells b o vs):=fun vs o y h=>by
 have r:=gss (g:=b) vs o y (World.grownBy.refl _ _)
 exact ⟨Nat.le_trans h.1 r.size,fun k h1 h2=>(r.block k (Nat.lt_of_lt_of_le h2 h.1) (by simp;omega)).trans (h.2 k h1 h2)⟩

theorem Cr.Same.set {lo:Nat} {x y:World} {b:Nat} (hb:b<lo∨x.heap.size≤b) (h:Cr.Same lo x y) (o:Nat) (u:Value):Cr.Same lo x (y.setCell ⟨b,o,none⟩ u):=by
 have r:=gs0 y b o u
 exact ⟨Nat.le_trans h.1 r.size,fun k h1 h2=>(r.block k (Nat.lt_of_lt_of_le h2 h.1) (by simp;omega)).trans (h.2 k h1 h2)⟩

theorem Cr.Same.owns {lo:Nat} {x y:World} {e:TypeId} {z n:Nat} {v:Value} {xs:List Value} (h:Cr.Same lo x y) (ho:x.ownsRow lo e z v n xs):y.ownsRow lo e z v n xs:=by
 obtain ⟨h1,h2 | ⟨g,cap,cur,h3,h4,h5,h6⟩⟩:=ho
 ·exact ⟨h1,.inl h2⟩
 ·exact ⟨h1,.inr ⟨g,cap,cur,h3,h4,(h.2 g h4 (lt_of_block h5)).trans h5,h6⟩⟩

def Cr.Made (seed f:Int) (w:World) (e:Ending) (w':World):Prop :=
 ∃(c:Nat→Int) (es:List (Int × Nat)) (is:List Gn.Itm) (G nE nI kE kI:Nat) (aE aI:Option Addr),Cr.Lev seed f c es is∧e=.returned (.agg #[.slice (some ⟨G,0,none⟩) 384 384,.slice aE nE kE,.slice aI nI kI])∧w.heap.size≤G∧Lie w' G 5 384 (Byts c)∧Cr.Mons w' aE nE es∧Gd.Some w' aI nI (Cr.itemOf is)∧nI=is.length∧w.grownBy w' none∧∀z,Cr.Same w.heap.size w' z→Cr.Mons z aE nE es∧Gd.Some z aI nI (Cr.itemOf is)

def Cr.keptTo (I:Nat→Nat→Int) (n:Nat):Nat→Nat→Int:=fun k=>if k<n then Cr.kept I k else I k

theorem Cr.keptTo_zero (I:Nat→Nat→Int):Cr.keptTo I 0=I:=by funext k;unfold Cr.keptTo;rw [if_neg (by omega)]

theorem Cr.keptTo_at (I:Nat→Nat→Int) (n:Nat):Cr.keptTo I n n=I n:=by unfold Cr.keptTo;rw [if_neg (by omega)]

theorem Cr.keptTo_go {I:Nat→Nat→Int} {n:Nat} (h:I n 1=1∨I n 1=4):En.put (Cr.keptTo I n) n (fun _=>0)=Cr.keptTo I (n+1):=by
 funext k
 by_cases e:k=n
 ·subst e;rw [En.put_same];unfold Cr.keptTo Cr.kept;rw [if_pos (by omega),if_pos h]
 ·rw [En.put_other e];unfold Cr.keptTo
  by_cases hk:k<n
  ·rw [if_pos hk,if_pos (by omega)]
  ·rw [if_neg hk,if_neg (by omega)]

theorem Cr.keptTo_stay {I:Nat→Nat→Int} {n:Nat} (h:¬(I n 1=1∨I n 1=4)):Cr.keptTo I n=Cr.keptTo I (n+1):=by
 funext k
 unfold Cr.keptTo
 by_cases e:k=n
 ·subst e;rw [if_neg (by omega),if_pos (by omega)];unfold Cr.kept;rw [if_neg h]
 ·by_cases hk:k<n
  ·rw [if_pos hk,if_pos (by omega)]
  ·rw [if_neg hk,if_neg (by omega)]


open Go.RowKit

structure Cr.Hand (w x:World) (B gC gE gI cC cE cI:Nat) (s g c:Nat→Int) (E I:Nat→Nat→Int):Prop where
 hold:Gd.Hold x B gC gE gI cC cE cI s g c E I
 lB:w.heap.size≤B
 cap:32≤cE
 grown:w.grownBy x none

theorem Cr.Hand.on {w x y:World} {B gC gE gI cC cE cI:Nat} {s g c:Nat→Int} {E I:Nat→Nat→Int} (h:Cr.Hand w x B gC gE gI cC cE cI s g c E I) (hg:x.grownBy y none):Cr.Hand w y B gC gE gI cC cE cI s g c E I :=
 ⟨h.hold.on hg,h.lB,h.cap,gtr h.grown hg⟩

theorem Cr.Hand.folk {w x x':World} {B gC gE gI cC cE cI jE dE:Nat} {s g c:Nat→Int} {E I F:Nat→Nat→Int} (h:Cr.Hand w x B gC gE gI cC cE cI s g c E I) (hcap:32≤dE) (hj:jE=gE∨x.heap.size≤jE) (hO:Own x' jE 32 F) (hg:x.grownBy x' none) :
  Cr.Hand w (x'.setCell ⟨B,5,none⟩ (.slice (some ⟨jE,0,none⟩) 32 dE)) B gC jE gI cC dE cI s g c F I:=by
 have h1:=h.hold.box.lt
 have h2:=h.hold.lists.cells.lt
 have h3:=h.hold.lists.items.lt
 have h5:=h.hold.bE
 have h6:=h.hold.cE
 have h7:=h.hold.eI
 have nB:B≠jE:=by omega
 have nC:gC≠jE:=by omega
 have nI:jE≠gI:=by omega
 have r:=gs0 x' B 5 (.slice (some ⟨jE,0,none⟩) 32 dE)
 have hb:=((h.hold.box.on hg).store 5 (.slice (some ⟨jE,0,none⟩) 32 dE)).congr (Gd.box_5 s g gC gE gI cC cE cI jE dE)
 exact ⟨⟨hb,⟨(h.hold.lists.cells.on hg).grown r (by simpa using h.hold.bC),(hO.lie (m:=352) (by omega)).grown r (by simpa using nB),(h.hold.lists.items.on hg).grown r (by simpa using h.hold.bI)⟩,h.hold.bC,nB,h.hold.bI,nC,h.hold.cI,nI⟩,h.lB,hcap,gsr (gtr h.grown hg) ⟨B,5,none⟩ h.lB _⟩

theorem Cr.box_6 (s g:Nat→Int) (gC gE gI cC cE cI jI dI:Nat):∀c,c<11→(if c=6 then Value.slice (some ⟨jI,0,none⟩) 40 dI else Gd.box s gC gE gI cC cE cI g c)=Gd.box s gC gE jI cC cE dI g c:=fun c hc=>by
 rcases (show c=0∨c=1∨c=2∨c=3∨c=4∨c=5∨c=6∨c=7∨c=8∨c=9∨c=10 by omega) with rfl | rfl | rfl | rfl | rfl | rfl | rfl | rfl | rfl | rfl | rfl <;> rfl

theorem Cr.Hand.goods {w x x':World} {B gC gE gI cC cE cI jI dI:Nat} {s g c:Nat→Int} {E I J:Nat→Nat→Int} (h:Cr.Hand w x B gC gE gI cC cE cI s g c E I) (hj:x.heap.size≤jI) (hJ:Lie x' jI 72 160 (Gd.flat J)) (hg:x.grownBy x' none) :
  Cr.Hand w (x'.setCell ⟨B,6,none⟩ (.slice (some ⟨jI,0,none⟩) 40 dI)) B gC gE jI cC cE dI s g c E J:=by
 have h1:=h.hold.box.lt
 have h2:=h.hold.lists.cells.lt
 have h3:=h.hold.lists.ents.lt
 have nB:B≠jI:=by omega
 have r:=gs0 x' B 6 (.slice (some ⟨jI,0,none⟩) 40 dI)
 have hb:=((h.hold.box.on hg).store 6 (.slice (some ⟨jI,0,none⟩) 40 dI)).congr (Cr.box_6 s g gC gE gI cC cE cI jI dI)
 exact ⟨⟨hb,⟨(h.hold.lists.cells.on hg).grown r (by simpa using h.hold.bC),(h.hold.lists.ents.on hg).grown r (by simpa using h.hold.bE),hJ.grown r (by simpa using nB)⟩,h.hold.bC,h.hold.bE,nB,h.hold.cE,by omega,by omega⟩,h.lB,h.cap,gsr (gtr h.grown hg) ⟨B,6,none⟩ h.lB _⟩

theorem Cr.Hand.num {v x:World} {B gC gE gI cC cE cI:Nat} {s g c:Nat→Int} {E I:Nat→Nat→Int} (h:Cr.Hand v x B gC gE gI cC cE cI s g c E I) (k:Nat) (hk:k<4) (u:Int):Cr.Hand v (x.setCell ⟨B,k,none⟩ (.int .i64 u)) B gC gE gI cC cE cI (Cr.num s k u) g c E I:=by
 have hh:=h.hold
 refine ⟨⟨(hh.box.store k (.int .i64 u)).congr fun j hj=>?_,⟨hh.lists.cells.other hh.bC _ _,hh.lists.ents.other hh.bE _ _,hh.lists.items.other hh.bI _ _⟩,hh.bC,hh.bE,hh.bI,hh.cE,hh.cI,hh.eI⟩,h.lB,h.cap,gsr h.grown ⟨B,k,none⟩ h.lB _⟩
 rcases (show k=0∨k=1∨k=2∨k=3 by omega) with rfl | rfl | rfl | rfl <;> rcases (show j=0∨j=1∨j=2∨j=3∨j=4∨j=5∨j=6∨j=7∨j=8∨j=9∨j=10 by omega) with rfl | rfl | rfl | rfl | rfl | rfl | rfl | rfl | rfl | rfl | rfl <;> rfl

theorem Cr.Hand.ground {v x x':World} {B gC gE gI cC cE cI G dC:Nat} {s g c c':Nat→Int} {E I:Nat→Nat→Int} (h:Cr.Hand v x B gC gE gI cC cE cI s g c E I) (hG:x.heap.size≤G) (hA:Lie x' G 5 384 (Byts c')) (hg:x.grownBy x' none) :
  Cr.Hand v (x'.setCell ⟨B,4,none⟩ (.slice (some ⟨G,0,none⟩) 384 dC)) B G gE gI dC cE cI s g c' E I:=by
 have hh:=(h.on hg).hold
 have q1:=h.hold.box.lt
 have q2:=h.hold.lists.ents.lt
 have q3:=h.hold.lists.items.lt
 refine ⟨⟨(hh.box.store 4 _).congr fun j hj=>?_,⟨hA.other (by omega) _ _,hh.lists.ents.other hh.bE _ _,hh.lists.items.other hh.bI _ _⟩,by omega,hh.bE,hh.bI,by omega,by omega,hh.eI⟩,h.lB,h.cap,gsr (gtr h.grown hg) ⟨B,4,none⟩ h.lB _⟩
 rcases (show j=0∨j=1∨j=2∨j=3∨j=4∨j=5∨j=6∨j=7∨j=8∨j=9∨j=10 by omega) with rfl | rfl | rfl | rfl | rfl | rfl | rfl | rfl | rfl | rfl | rfl <;> rfl


open Go.RowKit

def Cr.acts (h i:Nat→Int) (b:Nat→Bool):Array Value:=#[.int .i64 (h 0),.int .i64 (i 0),.bool (b 0),.int .i64 (h 1),.int .i64 (i 1),.bool (b 1),.int .i64 (h 2),.int .i64 (i 2),.bool (b 2),.int .i64 (h 3),.int .i64 (i 3),.bool (b 3)]

def Cr.actF (h i:Nat→Int) (b:Nat→Bool) (j:Nat):Value:=if j % 3=0 then .int .i64 (h (j / 3)) else if j % 3=1 then .int .i64 (i (j / 3)) else .bool (b (j / 3))

theorem Cr.acts_lie {x:World} {A:Nat} {T:TypeId} {h i:Nat→Int} {b:Nat→Bool} (hA:x.heap[A]?=some (.cells (Cr.acts h i b) T (0,0))):Lie x A T 12 (Cr.actF h i b) :=
 Lie.congr (m:=12) (Arr.lit hA).lie fun j hj=>by
  rcases (show j=0∨j=1∨j=2∨j=3∨j=4∨j=5∨j=6∨j=7∨j=8∨j=9∨j=10∨j=11 by omega) with rfl | rfl | rfl | rfl | rfl | rfl | rfl | rfl | rfl | rfl | rfl | rfl <;> rfl

theorem Cr.acts_put {x:World} {A t:Nat} {T:TypeId} {h i:Nat→Int} {b:Nat→Bool} (hA:Lie x A T 12 (Cr.actF h i b)) (u v:Int) (c:Bool) :
  Lie (((x.setCell ⟨A,t*3,none⟩ (.int .i64 u)).setCell ⟨A,t*3+1,none⟩ (.int .i64 v)).setCell ⟨A,t*3+2,none⟩ (.bool c)) A T 12 (Cr.actF (fun k=>if k=t then u else h k) (fun k=>if k=t then v else i k) (fun k=>if k=t then c else b k)):=by
 refine (((hA.store _ _).store _ _).store _ _).congr fun j _=>?_
 unfold Cr.actF
 by_cases e:j / 3=t
 ·rcases (show j=t*3∨j=t*3+1∨j=t*3+2 by omega) with hj | hj | hj
  ·have h0:j % 3=0:=by omega
   rw [if_neg (by omega),if_neg (by omega),if_pos hj,if_pos h0]
   simp only [e,if_true]
  ·have h0:j % 3=1:=by omega
   rw [if_neg (by omega),if_pos hj,if_neg (by omega),if_pos h0]
   simp only [e,if_true]
  ·have h0:j % 3=2:=by omega
   rw [if_pos hj,if_neg (by omega),if_neg (by omega)]
   simp only [e,if_true]
 ·rw [if_neg (by omega),if_neg (by omega),if_neg (by omega)]
  simp only [e,if_false]

def Cr.Nums (w:World) (a:Option Addr) (n:Nat) (z:Nat→Int):Prop:=∀i,i<n→∃b o,a=some ⟨b,o,none⟩∧b<w.heap.size∧w.cell? ⟨b,o+i,none⟩=some (.int .i64 (z i))∧-9223372036854775808≤z i∧z i≤9223372036854775807

theorem Cr.Nums.on {w w':World} {a:Option Addr} {n:Nat} {z:Nat→Int} (h:Cr.Nums w a n z) (hg:w.grownBy w' none):Cr.Nums w' a n z:=fun i hi=>by
 obtain ⟨b,o,ha,hb,hc,h1,h2⟩:=h i hi
 exact ⟨b,o,ha,Nat.lt_of_lt_of_le hb hg.size,(gce hg b _ hb (by simp)).trans hc,h1,h2⟩

theorem Cr.quo_wrap {u n:Int} (h1:-9223372036854775808≤u) (h2:u≤9223372036854775807) (hn:2≤n):IntKind.i64.wrap (u.tdiv n)=u.tdiv n:=by
 have key:∀v:Int,0≤v→0≤v.tdiv n∧v.tdiv n*2≤v:=fun v hv=>by
  rw [Int.tdiv_eq_ediv_of_nonneg hv]
  have a1:=Int.ediv_nonneg hv (show 0≤n by omega)
  have a2:=Int.ediv_mul_le v (show n≠0 by omega)
  refine ⟨a1,Int.le_trans ?_ a2⟩
  exact Int.mul_le_mul_of_nonneg_left hn a1
 rw [IntKind.wrap_i64]
 by_cases h0:0≤u
 ·have:=key u h0
  omega
 ·have h3:=key (-u) (by omega)
  rw [Int.neg_tdiv] at h3
  omega

theorem Cr.acts_cells {x:World} {A:Nat} {T:TypeId} {h i:Nat→Int} {b:Nat→Bool} (hA:Lie x A T 12 (Cr.actF h i b)) :
  x.cell? ⟨A,0,none⟩=some (.int .i64 (h 0))∧x.cell? ⟨A,1,none⟩=some (.int .i64 (i 0))∧x.cell? ⟨A,2,none⟩=some (.bool (b 0))∧x.cell? ⟨A,3,none⟩=some (.int .i64 (h 1))∧x.cell? ⟨A,4,none⟩=some (.int .i64 (i 1))∧x.cell? ⟨A,5,none⟩=some (.bool (b 1))∧x.cell? ⟨A,6,none⟩=some (.int .i64 (h 2))∧x.cell? ⟨A,7,none⟩=some (.int .i64 (i 2))∧x.cell? ⟨A,8,none⟩=some (.bool (b 2))∧x.cell? ⟨A,9,none⟩=some (.int .i64 (h 3))∧x.cell? ⟨A,10,none⟩=some (.int .i64 (i 3))∧x.cell? ⟨A,11,none⟩=some (.bool (b 3)) :=
 ⟨hA.cell (c:=0) (by omega),hA.cell (c:=1) (by omega),hA.cell (c:=2) (by omega),hA.cell (c:=3) (by omega),hA.cell (c:=4) (by omega),hA.cell (c:=5) (by omega),hA.cell (c:=6) (by omega),hA.cell (c:=7) (by omega),hA.cell (c:=8) (by omega),hA.cell (c:=9) (by omega),hA.cell (c:=10) (by omega),hA.cell (c:=11) (by omega)⟩

end Go.Proofs.YtldgbkjceildfaaGreat
