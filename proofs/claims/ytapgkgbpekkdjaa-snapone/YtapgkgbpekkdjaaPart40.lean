import Derived.Test.YtapgkgbpekkdjaaPart39
namespace Go.Proofs.Ytapgkgbpekkdjaa
open Go.RowKit

def Cr.Lev (seed f:Int) (c:Nat→Int) (es:List (Int × Nat)) (is:List Gn.Itm):Prop :=
 ∃(d:Gn.Dice) (F:Nat→Int),(∀a b n,Gn.D seed f a b n=d a b n)∧Gn.Fair d∧Gn.IsLevel d c F∧es=Gn.ents d f c F∧is=Gn.items d c

theorem Cr.Lev.floor {seed f:Int} {c:Nat→Int} {es:List (Int × Nat)} {is:List Gn.Itm} (h:Cr.Lev seed f c es is):Nv.Floor c:=by
 obtain ⟨d,F,_,hF,hL,_⟩:=h
 exact Nv.floor_of hF hL

def Cr.stockE (E:Nat→Nat→Int) (es:List (Int × Nat)):Nat→Nat→Int :=
 es.foldl (fun E p=>if En.first (En.atQ E ((p.2:Int) % 24) ((p.2:Int) / 24)) 32<0 then Cr.join E (Cr.one p.1 0 p.2) else E) E

def Cr.itemOf (is:List Gn.Itm) (i j:Nat):Int :=
 match is[i]? with
 | some p=>Gd.row p.1 p.2.1 p.2.2.1 p.2.2.2 j
 | none=>0

def Cr.stockI (I:Nat→Nat→Int) (is:List Gn.Itm):Nat→Nat→Int:=Gd.lay I (Cr.itemOf is) is.length

theorem Cr.Sane.stockE {c:Nat→Int} {I:Nat→Nat→Int}:∀(es:List (Int × Nat)) {E:Nat→Nat→Int},Cr.Sane c E I→(∀p,p∈es→2≤p.1∧p.1≤4∧p.2<384∧Gr.walkB (c p.2)=true)→Cr.Sane c (Cr.stockE E es) I
 | [],_,h,_=>h
 | p :: es,E,h,hp=>by
  obtain ⟨k2,k4,hq,hw⟩:=hp p (List.mem_cons_self ..)
  refine Cr.Sane.stockE es (E:=if En.first (En.atQ E ((p.2:Int) % 24) ((p.2:Int) / 24)) 32<0 then Cr.join E (Cr.one p.1 0 p.2) else E) ?_ (fun q hq=>hp q (List.mem_cons_of_mem _ hq))
  split
  ·rename_i hr
   exact h.join (by omega) (by omega) hq ⟨hw,hr⟩ (.inr ⟨by omega,rfl⟩)
  ·exact h

theorem Cr.Lev.mons {seed f:Int} {c:Nat→Int} {es:List (Int × Nat)} {is:List Gn.Itm} (h:Cr.Lev seed f c es is) (hf:1≤f) (p:Int × Nat) (hp:p∈es):2≤p.1∧p.1≤4∧p.2<384∧Gr.walkB (c p.2)=true:=by
 obtain ⟨d,F,_,hF,hL,rfl,_⟩:=h
 obtain ⟨i,hi⟩:=List.mem_iff_getElem?.1 hp
 obtain ⟨k2,k4,hq,hc,_⟩:=Gn.ents_at hF hf hi
 exact ⟨k2,k4,hq,by rw [hc];rfl⟩

theorem Cr.ok_lay {c:Nat→Int} {I M:Nat→Nat→Int}:∀(n:Nat),Gd.Ok c 40 I→(∀i,i<n→Gd.Placed c (Gd.row (M i 0) (M i 1) (M i 2) (M i 3)))→(∀i k,i<n→k<40→I k 1≠0→¬Gd.Share (I k) (Gd.row (M i 0) (M i 1) (M i 2) (M i 3)))→(∀i j,i<j→j<n→¬Gd.Share (Gd.row (M i 0) (M i 1) (M i 2) (M i 3)) (Gd.row (M j 0) (M j 1) (M j 2) (M j 3))) →
  Gd.Ok c 40 (Gd.lay I M n)∧∀k,k<40→(Gd.lay I M n k=I k∨∃i,i<n∧Gd.lay I M n k=Gd.row (M i 0) (M i 1) (M i 2) (M i 3))
 | 0,h,_,_,_=>⟨h,fun k _=>.inl rfl⟩
 | n+1,h,hp,hi,hm=>by
  obtain ⟨ho,hk⟩:=Cr.ok_lay n h (fun i hi'=>hp i (by omega)) (fun i k hi'=>hi i k (by omega)) (fun i j hij hj=>hm i j hij (by omega))
  unfold Gd.lay
  split
  ·rename_i hpos
   generalize (En.first (Gd.goneQ (Gd.lay I M n)) 40).toNat=r
   have hpn:=hp n (by omega)
   refine ⟨ho.put (.inr ⟨hpn,fun k hk40 _ hs=>?_⟩),fun k hk40=>?_⟩
   ·rcases hk k hk40 with e | ⟨i,hin,e⟩
    ·rw [e] at hs
     have h0:I k 1≠0:=by
      have h1:=hs.1
      rw [h1]
      exact hpn.where_ne
     exact hi n k (by omega) hk40 h0 hs
    ·rw [e] at hs
     exact hm i n hin (by omega) hs
   ·by_cases e:k=r
    ·rw [e,En.put_same];exact .inr ⟨n,by omega,rfl⟩
    ·rw [En.put_other e]
     rcases hk k hk40 with e' | ⟨i,hin,e'⟩
     ·exact .inl e'
     ·exact .inr ⟨i,by omega,e'⟩
  ·exact ⟨ho,fun k hk40=>(hk k hk40).imp id fun ⟨i,hin,e⟩=>⟨i,by omega,e⟩⟩

theorem Cr.item_at {is:List Gn.Itm} {i:Nat} {p:Gn.Itm} (h:is[i]?=some p):Cr.itemOf is i 0=p.1∧Cr.itemOf is i 1=p.2.1∧Cr.itemOf is i 2=p.2.2.1∧Cr.itemOf is i 3=p.2.2.2:=by
 unfold Cr.itemOf
 rw [h]
 exact ⟨rfl,rfl,rfl,rfl⟩

theorem Cr.Lev.items {seed f:Int} {c:Nat→Int} {es:List (Int × Nat)} {is:List Gn.Itm} (h:Cr.Lev seed f c es is):(∀(i:Nat) (p:Gn.Itm),is[i]?=some p→Gd.Placed c (Gd.row p.1 p.2.1 p.2.2.1 p.2.2.2)∧(p.2.1=1∨p.2.1=4))∧(∀(i j:Nat) (p q:Gn.Itm),i<j→is[i]?=some p→is[j]?=some q→¬(p.2.1=q.2.1∧p.2.2.1=q.2.2.1∧p.2.2.2=q.2.2.2)):=by
 obtain ⟨d,F,_,hF,hL,_,rfl⟩:=h
 have hw:∀i p,Gn.lying d c≤i→(Gn.items d c)[i]?=some p→∃j:Nat,j=i - Gn.lying d c∧j<3∧p=(1+d (50+(j:Int)) 1 3,4,(j:Int),0):=fun i p hi hp=>by
  have e:Gn.items d c=Gn.lie d 4 0 (Gn.those (fun i=>c i == 1) 384) ++ if Gr.find 384 c 5<0 then [] else Gn.wares d 3:=rfl
  rw [e,List.getElem?_append_right hi] at hp
  split at hp
  ·simp at hp
  ·unfold Gn.wares at hp
   rw [List.getElem?_map] at hp
   simp only [Option.map_eq_some_iff] at hp
   obtain ⟨j,hj,rfl⟩:=hp
   by_cases hb:i - (Gn.lie d 4 0 (Gn.those (fun i=>c i == 1) 384)).length<3
   ·rw [List.getElem?_range hb] at hj
    have hj':=Option.some.inj hj
    exact ⟨j,hj'.symm,by rw [←hj'];exact hb,rfl⟩
   ·rw [List.getElem?_eq_none (by simp;omega)] at hj
    cases hj
 refine ⟨fun i p hp=>?_,fun i j p q hij hp hq he=>?_⟩
 ·by_cases hi:i<Gn.lying d c
  ·obtain ⟨K,cl,rfl,hcl,hc1,k1,k4⟩:=Gn.items_lie hF hi hp
   refine ⟨⟨k1,k4,.inl ⟨rfl,(Gr.inB_iff _ _).2 (by show 0≤(cl:Int) % 24∧(cl:Int) % 24<24∧0≤(cl:Int) / 24∧(cl:Int) / 24<16;omega),?_⟩⟩,.inl rfl⟩
   show Gr.walkB (Gr.at 384 c ((cl:Int) % 24) ((cl:Int) / 24))=true
   rw [Gr.at_in (k:=cl) ((Gr.inB_iff _ _).2 (by omega)) (by omega),hc1]
   rfl
  ·obtain ⟨j,_,hj3,rfl⟩:=hw i p (by omega) hp
   have hd:=hF (50+(j:Int)) 1 3 (by omega)
   refine ⟨⟨?_,?_,.inr (.inr (.inr ⟨rfl,?_,?_,rfl,?_⟩))⟩,.inr rfl⟩
   ·show 1≤1+d (50+(j:Int)) 1 3;omega
   ·show 1+d (50+(j:Int)) 1 3≤4;omega
   ·show 0≤(j:Int);omega
   ·show (j:Int)<3;omega
   ·show ¬1+d (50+(j:Int)) 1 3=4;omega
 ·by_cases hj:j<Gn.lying d c
  ·exact Gn.items_apart hF hij hj hp hq he.2
  ·obtain ⟨b,hb,_,rfl⟩:=hw j q (by omega) hq
   by_cases hi:i<Gn.lying d c
   ·obtain ⟨K,cl,rfl,_⟩:=Gn.items_lie hF hi hp
    exact absurd he.1 (by show ¬(1:Int)=4;omega)
   ·obtain ⟨a,ha,_,rfl⟩:=hw i p (by omega) hp
    have h2:(a:Int)=(b:Int):=he.2.1
    omega

theorem Cr.Lev.lay {seed f:Int} {c:Nat→Int} {es:List (Int × Nat)} {is:List Gn.Itm} (h:Cr.Lev seed f c es is) {I:Nat→Nat→Int} (hI:Gd.Ok c 40 I) (hk:∀k,k<40→I k 1≠1∧I k 1≠4):Gd.Ok c 40 (Cr.stockI I is):=by
 obtain ⟨h1,h2⟩:=h.items
 have hat:∀i,i<is.length→∃p,is[i]?=some p:=fun i hi=>⟨is[i],List.getElem?_eq_getElem hi⟩
 refine (Cr.ok_lay is.length hI (fun i hi=>?_) (fun i k hi hk40 _ hs=>?_) (fun i j hij hj hs=>?_)).1
 ·obtain ⟨p,hp⟩:=hat i hi
  obtain ⟨e0,e1,e2,e3⟩:=Cr.item_at hp
  rw [e0,e1,e2,e3]
  exact (h1 i p hp).1
 ·obtain ⟨p,hp⟩:=hat i hi
  obtain ⟨e0,e1,e2,e3⟩:=Cr.item_at hp
  rw [e0,e1,e2,e3] at hs
  have hs1:I k 1=p.2.1:=hs.1
  have:=hk k hk40
  rcases (h1 i p hp).2 with h | h <;> omega
 ·obtain ⟨p,hp⟩:=hat i (by omega)
  obtain ⟨q,hq⟩:=hat j hj
  obtain ⟨e0,e1,e2,e3⟩:=Cr.item_at hp
  obtain ⟨f0,f1,f2,f3⟩:=Cr.item_at hq
  rw [e0,e1,e2,e3,f0,f1,f2,f3] at hs
  exact h2 i j p q hij hp hq hs


open Go.RowKit

structure Cr.W where
 s:Nat→Int
 g:Nat→Int
 c:Nat→Int
 E:Nat→Nat→Int
 I:Nat→Nat→Int

def Cr.num (s:Nat→Int) (k:Nat) (v:Int):Nat→Int:=fun j=>if j=k then v else s j

structure Cr.Good (S:Cr.W):Prop where
 sane:Cr.Sane S.c S.E S.I
 floor:Nv.Floor S.c
 gold:Cr.Gold S.g
 f1:1≤S.s 2
 f3:S.s 2≤3
 s0:0≤S.s 3
 s2:S.s 3≤2

theorem Cr.num_at (s:Nat→Int) (k:Nat) (v:Int):Cr.num s k v k=v:=if_pos rfl

def Cr.first (seed:Int):Nat→Int
 | 0=>seed
 | 2=>1
 | _=>0

def Cr.IsNew (seed:Int) (T:Cr.W):Prop :=
 ∃(c:Nat→Int) (es:List (Int × Nat)) (is:List Gn.Itm),Cr.Lev seed 1 c es is∧T=⟨Cr.first seed,fun _=>0,c,Cr.stockE (fun _ _=>0) es,Cr.stockI (fun _ _=>0) is⟩

theorem Cr.IsNew.good {seed:Int} {T:Cr.W} (h:Cr.IsNew seed T):Cr.Good T:=by
 obtain ⟨c,es,is,hl,rfl⟩:=h
 have hc8:∀i,0≤c i∧c i≤255:=fun i=>⟨(hl.floor.five i).1,by have:=(hl.floor.five i).2;omega⟩
 have hI:=hl.lay (Md.ok_none c) (fun k _=>⟨by show ¬(0:Int)=1;omega,by show ¬(0:Int)=4;omega⟩)
 have hb:Cr.Sane c (fun _ _=>0) (Cr.stockI (fun _ _=>0) is):=by
  refine ⟨⟨hc8,hI,fun k _=>⟨by show (0:Int)≤0;omega,by show (0:Int)≤255;omega,.inl fun _ _ _=>rfl⟩⟩,⟨fun k _ k0=>absurd rfl k0,⟨fun k _ k0=>absurd rfl k0,fun j k _ _ j0=>absurd rfl j0⟩⟩,⟨fun k _ k1=>?_,fun j k _ _ j1=>?_,fun k _ k0=>absurd rfl k0⟩⟩
  ·exact absurd k1 (by show ¬(0:Int)=1;omega)
  ·exact absurd j1 (by show ¬(0:Int)=1;omega)
 exact ⟨hb.stockE es (hl.mons (by omega)),hl.floor,fun t _=>⟨by show (0:Int)≤0;omega,by show (0:Int)≤999;omega⟩,by show (1:Int)≤1;omega,by show (1:Int)≤3;omega,by show (0:Int)≤0;omega,by show (0:Int)≤2;omega⟩


open Go.RowKit

theorem Cr.ent_cells {p:Int × Nat} (h1:2≤p.1) (h4:p.1≤4):Gn.ent p.1 ((p.2:Int) % 24) ((p.2:Int) / 24)=En.cells (Cr.one p.1 0 p.2):=by
 obtain ⟨k,q⟩:=p
 rcases (show k=2∨k=3∨k=4 by have h1':2≤k:=h1;have h4':k≤4:=h4;omega) with rfl | rfl | rfl <;> rfl

def Cr.Mons (w:World) (a:Option Addr) (n:Nat) (es:List (Int × Nat)):Prop:=n=es.length∧n≤40∧∀i p,es[i]?=some p→(2≤p.1∧p.1≤4∧p.2<384)∧∃b,a=some ⟨b,0,none⟩∧b<w.heap.size∧∀j,j<11→w.cell? ⟨b,i*11+j,none⟩=some (.int .i64 (Cr.one p.1 0 p.2 j))

theorem Cr.Mons.on {w w':World} {a:Option Addr} {n:Nat} {es:List (Int × Nat)} (h:Cr.Mons w a n es) (hg:w.grownBy w' none):Cr.Mons w' a n es :=
 ⟨h.1,h.2.1,fun i p hp=>by
  obtain ⟨hk,b,ha,hb,hc⟩:=h.2.2 i p hp
  exact ⟨hk,b,ha,Nat.lt_of_lt_of_le hb hg.size,fun j hj=>(gce hg b _ hb (by simp)).trans (hc j hj)⟩⟩

theorem Cr.mons_of {w:World} {b nE cE:Nat} {aE:Option Addr} {es:List (Int × Nat)} (h:w.ownsRow b 45 11 (.slice aE nE cE) nE (Gn.flat es)) (hn:nE=es.length) (h40:nE≤40) (hk:∀p,p∈es→2≤p.1∧p.1≤4∧p.2<384):Cr.Mons w aE nE es :=
 ⟨hn,h40,fun i p hp=>by
  have hlt:i<nE:=by
   rw [hn]
   exact (List.getElem?_eq_some_iff.1 hp).1
  obtain ⟨g,ha,hg,hc⟩:=ents_cells h hp hlt
  have hk':=hk p (List.mem_of_getElem? hp)
  refine ⟨hk',g,ha,hg,fun j hj=>?_⟩
  rw [hc j hj]
  have e:Gn.entCells p=(En.cells (Cr.one p.1 0 p.2)).toList:=by
   rw [←Cr.ent_cells hk'.1 hk'.2.1]
   rfl
  rw [e]
  rcases (show j=0∨j=1∨j=2∨j=3∨j=4∨j=5∨j=6∨j=7∨j=8∨j=9∨j=10 by omega) with rfl | rfl | rfl | rfl | rfl | rfl | rfl | rfl | rfl | rfl | rfl <;> rfl⟩

theorem Cr.goods_of {w:World} {b nI cI:Nat} {aI:Option Addr} {is:List Gn.Itm} (h:w.ownsRow b 47 4 (.slice aI nI cI) nI (Gn.flatI is)) (hn:nI=is.length) (h100:nI≤100):Gd.Some w aI nI (Cr.itemOf is):=by
 refine ⟨h100,?_⟩
 by_cases h0:nI=0
 ·exact .inl h0
 ·have hat:∀i,i<nI→∃p,is[i]?=some p:=fun i hi=>⟨is[i]'(by omega),List.getElem?_eq_getElem _⟩
  obtain ⟨p0,hp0⟩:=hat 0 (by omega)
  obtain ⟨g,ha,hg,-⟩:=items_cells h hp0 (by omega)
  refine .inr ⟨g,0,ha,h100,hg,fun i j hi hj=>?_⟩
  obtain ⟨p,hp⟩:=hat i hi
  obtain ⟨g',ha',_,hc⟩:=items_cells h hp hi
  obtain rfl:g=g':=by
   rw [ha] at ha'
   simpa using ha'
  rw [Nat.zero_add,hc j hj]
  obtain ⟨e0,e1,e2,e3⟩:=Cr.item_at hp
  rcases (show j=0∨j=1∨j=2∨j=3 by omega) with rfl | rfl | rfl | rfl
  ·rw [e0];rfl
  ·rw [e1];rfl
  ·rw [e2];rfl
  ·rw [e3];rfl

def Cr.Same (lo:Nat) (x y:World):Prop:=x.heap.size≤y.heap.size∧∀k,lo≤k→k<x.heap.size→y.heap[k]?=x.heap[k]?

theorem Cr.Same.owns {lo:Nat} {x y:World} {e:TypeId} {z n:Nat} {v:Value} {xs:List Value} (h:Cr.Same lo x y) (ho:x.ownsRow lo e z v n xs):y.ownsRow lo e z v n xs:=by
 obtain ⟨h1,h2 | ⟨g,cap,cur,h3,h4,h5,h6⟩⟩:=ho
 ·exact ⟨h1,.inl h2⟩
 ·exact ⟨h1,.inr ⟨g,cap,cur,h3,h4,(h.2 g h4 (lt_of_block h5)).trans h5,h6⟩⟩

def Cr.Made (seed f:Int) (w:World) (e:Ending) (w':World):Prop :=
 ∃(c:Nat→Int) (es:List (Int × Nat)) (is:List Gn.Itm) (G nE nI kE kI:Nat) (aE aI:Option Addr),Cr.Lev seed f c es is∧e=.returned (.agg #[.slice (some ⟨G,0,none⟩) 384 384,.slice aE nE kE,.slice aI nI kI])∧w.heap.size≤G∧Lie w' G 5 384 (Byts c)∧Cr.Mons w' aE nE es∧Gd.Some w' aI nI (Cr.itemOf is)∧nI=is.length∧w.grownBy w' none∧∀z,Cr.Same w.heap.size w' z→Cr.Mons z aE nE es∧Gd.Some z aI nI (Cr.itemOf is)


open Go.RowKit

structure Cr.Hand (w x:World) (B gC gE gI cC cE cI:Nat) (s g c:Nat→Int) (E I:Nat→Nat→Int):Prop where
 hold:Gd.Hold x B gC gE gI cC cE cI s g c E I
 lB:w.heap.size≤B
 cap:32≤cE
 grown:w.grownBy x none

theorem Cr.Hand.on {w x y:World} {B gC gE gI cC cE cI:Nat} {s g c:Nat→Int} {E I:Nat→Nat→Int} (h:Cr.Hand w x B gC gE gI cC cE cI s g c E I) (hg:x.grownBy y none):Cr.Hand w y B gC gE gI cC cE cI s g c E I :=
 ⟨h.hold.on hg,h.lB,h.cap,gtr h.grown hg⟩

theorem Cr.Hand.folk {w x x':World} {B gC gE gI cC cE cI jE dE:Nat} {s g c:Nat→Int} {E I F:Nat→Nat→Int} (h:Cr.Hand w x B gC gE gI cC cE cI s g c E I) (hcap:32≤dE) (hj:jE=gE∨x.heap.size≤jE) (hO:Own x' jE 32 F) (hg:x.grownBy x' none) :
  Cr.Hand w (x'.setCell ⟨B,5,none⟩ (.slice (some ⟨jE,0,none⟩) 32 dE)) B gC jE gI cC dE cI s g c F I:=by
 have h1:=h.hold.box.lt
 have h2:=h.hold.lists.cells.lt
 have h3:=h.hold.lists.items.lt
 have h5:=h.hold.bE
 have h6:=h.hold.cE
 have h7:=h.hold.eI
 have nB:B≠jE:=by omega
 have nC:gC≠jE:=by omega
 have nI:jE≠gI:=by omega
 have r:=gs0 x' B 5 (.slice (some ⟨jE,0,none⟩) 32 dE)
 have hb:=((h.hold.box.on hg).store 5 (.slice (some ⟨jE,0,none⟩) 32 dE)).congr (Gd.box_5 s g gC gE gI cC cE cI jE dE)
 exact ⟨⟨hb,⟨(h.hold.lists.cells.on hg).grown r (by simpa using h.hold.bC),(hO.lie (m:=352) (by omega)).grown r (by simpa using nB),(h.hold.lists.items.on hg).grown r (by simpa using h.hold.bI)⟩,h.hold.bC,nB,h.hold.bI,nC,h.hold.cI,nI⟩,h.lB,hcap,gsr (gtr h.grown hg) ⟨B,5,none⟩ h.lB _⟩

theorem Cr.box_6 (s g:Nat→Int) (gC gE gI cC cE cI jI dI:Nat):∀c,c<11→(if c=6 then Value.slice (some ⟨jI,0,none⟩) 40 dI else Gd.box s gC gE gI cC cE cI g c)=Gd.box s gC gE jI cC cE dI g c:=fun c hc=>by
 rcases (show c=0∨c=1∨c=2∨c=3∨c=4∨c=5∨c=6∨c=7∨c=8∨c=9∨c=10 by omega) with rfl | rfl | rfl | rfl | rfl | rfl | rfl | rfl | rfl | rfl | rfl <;> rfl

theorem Cr.Hand.goods {w x x':World} {B gC gE gI cC cE cI jI dI:Nat} {s g c:Nat→Int} {E I J:Nat→Nat→Int} (h:Cr.Hand w x B gC gE gI cC cE cI s g c E I) (hj:x.heap.size≤jI) (hJ:Lie x' jI 47 160 (Gd.flat J)) (hg:x.grownBy x' none) :
  Cr.Hand w (x'.setCell ⟨B,6,none⟩ (.slice (some ⟨jI,0,none⟩) 40 dI)) B gC gE jI cC cE dI s g c E J:=by
 have h1:=h.hold.box.lt
 have h2:=h.hold.lists.cells.lt
 have h3:=h.hold.lists.ents.lt
 have nB:B≠jI:=by omega
 have r:=gs0 x' B 6 (.slice (some ⟨jI,0,none⟩) 40 dI)
 have hb:=((h.hold.box.on hg).store 6 (.slice (some ⟨jI,0,none⟩) 40 dI)).congr (Cr.box_6 s g gC gE gI cC cE cI jI dI)
 exact ⟨⟨hb,⟨(h.hold.lists.cells.on hg).grown r (by simpa using h.hold.bC),(h.hold.lists.ents.on hg).grown r (by simpa using h.hold.bE),hJ.grown r (by simpa using nB)⟩,h.hold.bC,h.hold.bE,nB,h.hold.cE,by omega,by omega⟩,h.lB,h.cap,gsr (gtr h.grown hg) ⟨B,6,none⟩ h.lB _⟩

end Go.Proofs.Ytapgkgbpekkdjaa
