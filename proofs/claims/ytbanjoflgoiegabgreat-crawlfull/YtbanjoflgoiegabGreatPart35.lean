/-
  CrawlStep MindsWander CrawlKept
-/
import Derived.Test.YtbanjoflgoiegabGreatPart34
import Derived.Test.YtbanjoflgoiegabGreatPart28
import Derived.Test.YtbanjoflgoiegabGreatPart33
import Derived.Test.YtbanjoflgoiegabGreatPart04
import Derived.Test.YtbanjoflgoiegabGreatPart23
namespace Go.Proofs.YtbanjoflgoiegabGreat
open Go.RowKit

structure Cr.W where
 s:Nat→Int
 g:Nat→Int
 c:Nat→Int
 E:Nat→Nat→Int
 I:Nat→Nat→Int

def Cr.num (s:Nat→Int) (k:Nat) (v:Int):Nat→Int:=fun j=>if j=k then v else s j

def Cr.Below (s g:Nat→Int) (E I:Nat→Nat→Int) (T:Cr.W):Prop :=
 ∃(c:Nat→Int) (es:List (Int × Nat)) (is:List Gn.Itm) (F:Nat→Nat→Int),Cr.Lev (s 0) (s 2+1) c es is∧Cr.LandTo c E 4 (Cr.bare E) F∧T=⟨Cr.num s 2 (s 2+1),g,c,Cr.stockE F es,Cr.stockI (Cr.kept I) is⟩

def Cr.Ends (s g c:Nat→Int) (E I:Nat→Nat→Int) (had left:Bool) (T:Cr.W):Prop :=
 if Cr.manned E=false then T=⟨if had=true then Cr.num s 3 2 else s,g,c,E,I⟩
 else if left=true then (if s 2=3 then T=⟨Cr.num s 3 1,g,c,E,I⟩ else Cr.Below s g E I T) else T=⟨s,g,c,E,I⟩

def Cr.IsStep (how input:Nat→Int) (sp:Nat→Bool) (S T:Cr.W):Prop :=
 if S.s 3≠0 then T=⟨Cr.num S.s 1 (S.s 1+1),S.g,S.c,S.E,S.I⟩
 else ∃(A:Nat→Nat→Int) (m:Cr.M) (F J:Nat→Nat→Int),Cr.ComesTo S.c sp 4 S.E A∧Cr.MovedTo (Cr.num S.s 1 (S.s 1+1)) S.c how input 4 ⟨S.g,A,S.I,false⟩ m∧Cr.ProwlTo (Cr.num S.s 1 (S.s 1+1)) S.c 32 m.E m.I F J ∧
  Cr.Ends (Cr.num S.s 1 (S.s 1+1)) m.g S.c (Cr.rats (Cr.num S.s 1 (S.s 1+1)) S.c (Ft.ailE F J 32).1) (Ft.ailE F J 32).2 (Cr.manned S.E || Cr.manned A) m.left T

structure Cr.Good (S:Cr.W):Prop where
 sane:Cr.Sane S.c S.E S.I
 floor:Nv.Floor S.c
 gold:Cr.Gold S.g
 f1:1≤S.s 2
 f3:S.s 2≤3
 s0:0≤S.s 3
 s2:S.s 3≤2

theorem Cr.num_at (s:Nat→Int) (k:Nat) (v:Int):Cr.num s k v k=v:=if_pos rfl

theorem Cr.num_else (s:Nat→Int) {k j:Nat} (v:Int) (h:j≠k):Cr.num s k v j=s j:=if_neg h

theorem Cr.IsStep.good {how input:Nat→Int} {sp:Nat→Bool} {S T:Cr.W} (h:Cr.IsStep how input sp S T) (hS:Cr.Good S):Cr.Good T∧T.s 0=S.s 0∧T.s 1=S.s 1+1∧(T.s 2=S.s 2∨T.s 2=S.s 2+1)∧(S.s 3≠0→T=⟨Cr.num S.s 1 (S.s 1+1),S.g,S.c,S.E,S.I⟩):=by
 unfold Cr.IsStep at h
 have n0:Cr.num S.s 1 (S.s 1+1) 0=S.s 0:=Cr.num_else _ _ (by omega)
 have n1:Cr.num S.s 1 (S.s 1+1) 1=S.s 1+1:=Cr.num_at _ _ _
 have n2:Cr.num S.s 1 (S.s 1+1) 2=S.s 2:=Cr.num_else _ _ (by omega)
 have n3:Cr.num S.s 1 (S.s 1+1) 3=S.s 3:=Cr.num_else _ _ (by omega)
 split at h
 ·rename_i hc
  rw [h]
  exact ⟨⟨hS.sane,hS.floor,hS.gold,by show 1≤Cr.num S.s 1 (S.s 1+1) 2;rw [n2];exact hS.f1,by show Cr.num S.s 1 (S.s 1+1) 2≤3;rw [n2];exact hS.f3,by show 0≤Cr.num S.s 1 (S.s 1+1) 3;rw [n3];exact hS.s0,by show Cr.num S.s 1 (S.s 1+1) 3≤2;rw [n3];exact hS.s2⟩,n0,n1,.inl n2,fun _=>rfl⟩
 rename_i hc
 obtain ⟨A,m,F,J,hA,hm,hF,hE⟩:=h
 have sA:=hS.sane.comesTo (by omega) hA
 have sm:Cr.MFit S.c m:=Cr.MFit.movedTo (m:=⟨S.g,A,S.I,false⟩) ⟨sA,hS.gold⟩ hm
 have sF:=sm.1.prowlTo (by omega) hF
 have sR:=(sF.ail).rats (s:=Cr.num S.s 1 (S.s 1+1)) hS.floor
 generalize Cr.rats (Cr.num S.s 1 (S.s 1+1)) S.c (Ft.ailE F J 32).1=E2 at hE sR
 generalize (Ft.ailE F J 32).2=I2 at hE sR
 generalize Cr.num S.s 1 (S.s 1+1)=s1 at *
 have hz:S.s 3=0:=by
  by_cases e:S.s 3=0
  ·exact e
  ·exact absurd e hc
 have d0:∀v,Cr.num s1 3 v 0=s1 0:=fun v=>Cr.num_else _ _ (by omega)
 have d1:∀v,Cr.num s1 3 v 1=s1 1:=fun v=>Cr.num_else _ _ (by omega)
 have d2:∀v,Cr.num s1 3 v 2=s1 2:=fun v=>Cr.num_else _ _ (by omega)
 have d3:∀v,Cr.num s1 3 v 3=v:=fun v=>Cr.num_at _ _ _
 have f1:=hS.f1
 have f3:=hS.f3
 unfold Cr.Ends at hE
 split at hE
 ·rw [hE]
  cases Cr.manned S.E || Cr.manned A
  ·exact ⟨⟨sR,hS.floor,sm.2,by show 1≤s1 2;omega,by show s1 2≤3;omega,by show 0≤s1 3;omega,by show s1 3≤2;omega⟩,n0,n1,.inl n2,fun h=>absurd hz h⟩
  ·exact ⟨⟨sR,hS.floor,sm.2,by show 1≤Cr.num s1 3 2 2;rw [d2];omega,by show Cr.num s1 3 2 2≤3;rw [d2];omega,by show 0≤Cr.num s1 3 2 3;rw [d3];omega,by show Cr.num s1 3 2 3≤2;rw [d3];omega⟩,by show Cr.num s1 3 2 0=_;rw [d0];exact n0,by show Cr.num s1 3 2 1=_;rw [d1];exact n1,.inl (by show Cr.num s1 3 2 2=_;rw [d2];exact n2),fun h=>absurd hz h⟩
 ·split at hE
  ·split at hE
   ·rw [hE]
    exact ⟨⟨sR,hS.floor,sm.2,by show 1≤Cr.num s1 3 1 2;rw [d2];omega,by show Cr.num s1 3 1 2≤3;rw [d2];omega,by show 0≤Cr.num s1 3 1 3;rw [d3];omega,by show Cr.num s1 3 1 3≤2;rw [d3];omega⟩,by show Cr.num s1 3 1 0=_;rw [d0];exact n0,by show Cr.num s1 3 1 1=_;rw [d1];exact n1,.inl (by show Cr.num s1 3 1 2=_;rw [d2];exact n2),fun h=>absurd hz h⟩
   ·rename_i h3
    obtain ⟨c,es,is,G,hl,hG,rfl⟩:=hE
    have hc8:∀i,0≤c i∧c i≤255:=fun i=>⟨(hl.floor.five i).1,by have:=(hl.floor.five i).2;omega⟩
    obtain ⟨hk,hk1⟩:=Cr.kept_ok (c':=c) sR.fit.ok
    have hI:=hl.lay hk hk1
    have hb:=Cr.bare_sane (c:=c) (E:=E2) hc8 hI sR.good.gens
    have hland:=(Cr.landing sR hl.floor hl.four (by omega) hb (fun k _ k0=>absurd rfl k0) hG).1
    have hst:=hland.stockE es (hl.mons (by omega))
    have e0:Cr.num s1 2 (s1 2+1) 0=s1 0:=Cr.num_else _ _ (by omega)
    have e1:Cr.num s1 2 (s1 2+1) 1=s1 1:=Cr.num_else _ _ (by omega)
    have e2:Cr.num s1 2 (s1 2+1) 2=s1 2+1:=Cr.num_at _ _ _
    have e3:Cr.num s1 2 (s1 2+1) 3=s1 3:=Cr.num_else _ _ (by omega)
    exact ⟨⟨hst,hl.floor,sm.2,by show 1≤Cr.num s1 2 (s1 2+1) 2;rw [e2];omega,by show Cr.num s1 2 (s1 2+1) 2≤3;rw [e2];omega,by show 0≤Cr.num s1 2 (s1 2+1) 3;rw [e3];omega,by show Cr.num s1 2 (s1 2+1) 3≤2;rw [e3];omega⟩,by show Cr.num s1 2 (s1 2+1) 0=_;rw [e0];exact n0,by show Cr.num s1 2 (s1 2+1) 1=_;rw [e1];exact n1,.inr (by show Cr.num s1 2 (s1 2+1) 2=_;rw [e2];omega),fun h=>absurd hz h⟩
  ·rw [hE]
   exact ⟨⟨sR,hS.floor,sm.2,by show 1≤s1 2;omega,by show s1 2≤3;omega,by show 0≤s1 3;omega,by show s1 3≤2;omega⟩,n0,n1,.inl n2,fun h=>absurd hz h⟩

def Cr.first (seed:Int):Nat→Int
 | 0=>seed
 | 2=>1
 | _=>0

def Cr.IsNew (seed:Int) (T:Cr.W):Prop :=
 ∃(c:Nat→Int) (es:List (Int × Nat)) (is:List Gn.Itm),Cr.Lev seed 1 c es is∧T=⟨Cr.first seed,fun _=>0,c,Cr.stockE (fun _ _=>0) es,Cr.stockI (fun _ _=>0) is⟩

theorem Cr.IsNew.good {seed:Int} {T:Cr.W} (h:Cr.IsNew seed T):Cr.Good T:=by
 obtain ⟨c,es,is,hl,rfl⟩:=h
 have hc8:∀i,0≤c i∧c i≤255:=fun i=>⟨(hl.floor.five i).1,by have:=(hl.floor.five i).2;omega⟩
 have hI:=hl.lay (Md.ok_none c) (fun k _=>⟨by show ¬(0:Int)=1;omega,by show ¬(0:Int)=4;omega⟩)
 have hb:Cr.Sane c (fun _ _=>0) (Cr.stockI (fun _ _=>0) is):=by
  refine ⟨⟨hc8,hI,fun k _=>⟨by show (0:Int)≤0;omega,by show (0:Int)≤255;omega,.inl fun _ _ _=>rfl⟩⟩,⟨fun k _ k0=>absurd rfl k0,⟨fun k _ k0=>absurd rfl k0,fun j k _ _ j0=>absurd rfl j0⟩⟩,⟨fun k _ k1=>?_,fun j k _ _ j1=>?_,fun k _ k0=>absurd rfl k0⟩⟩
  ·exact absurd k1 (by show ¬(0:Int)=1;omega)
  ·exact absurd j1 (by show ¬(0:Int)=1;omega)
 exact ⟨hb.stockE es (hl.mons (by omega)),hl.floor,fun t _=>⟨by show (0:Int)≤0;omega,by show (0:Int)≤999;omega⟩,by show (1:Int)≤1;omega,by show (1:Int)≤3;omega,by show (0:Int)≤0;omega,by show (0:Int)≤2;omega⟩


open Go.RowKit

set_option maxRecDepth 8000 in
set_option maxHeartbeats 12800000 in
theorem mWander_any (s g c : Nat → Int) (E I : Nat → Nat → Int) (gC gE gI cC cE cI k : Nat) (w : World) (hL : Gd.Lists w gC gE gI c E I) (hc : ∀ i, 0 ≤ c i ∧ c i ≤ 255) (hcE : 32 ≤ cE) (hE : Md.Fine E) (hk : k < 32) (hk0 : E k 0 ≠ 0) :
    Calls Tryz.prog 172 #[.agg (Gd.world s gC gE gI cC cE cI g),.int .i64 (k:Int)] w (Says w (.int .i64 (Md.stray s c E k))):=by
  obtain ⟨w0,hw0⟩:∃w0,w0=w.alloc (.cells (Gd.world s gC gE gI cC cE cI g) 28):=⟨_,rfl⟩
  have hg0:w.grownBy w0 none:=by rw [hw0];exact World.grownBy_alloc _ _ _
  have hO:Hid (Gd.Shown w w0 w.heap.size gC gE gI cC cE cI s g c E I):=by
    refine ⟨?_,hL.on hg0,hg0⟩
    rw [hw0]
    exact (Arr.world (heap_alloc_new w _)).lie
  obtain ⟨x0,x9,y0,y9,-,-⟩:=hE k hk hk0
  have hc':=hide hc
  have hcE':=hide hcE
  have HK:=hide hk
  have hk':(k:Int)<32:=by omega
  have hst:Hid (Md.stray s c E k=if (1≤Dc.die 8 (s 0) [s 1,(k:Int),90]∧Dc.die 8 (s 0) [s 1,(k:Int),90]≤4)∧Gr.walkB (Gr.at 384 c (E k 3+(Fx.way (Dc.die 8 (s 0) [s 1,(k:Int),90])).1) (E k 4+(Fx.way (Dc.die 8 (s 0) [s 1,(k:Int),90])).2))=true∧En.first (En.atQ E (E k 3+(Fx.way (Dc.die 8 (s 0) [s 1,(k:Int),90])).1) (E k 4+(Fx.way (Dc.die 8 (s 0) [s 1,(k:Int),90])).2)) 32<0 then Dc.die 8 (s 0) [s 1,(k:Int),90] else 0):=rfl
  have cd:Hid (Calls Tryz.prog 127 #[.int .i64 8,.int .i64 (s 0),.slice (some ⟨w0.heap.size,0,none⟩) 3 3] (w0.alloc (.cells #[.int .i64 (s 1),.int .i64 (k:Int),.int .i64 90] 3)) fun e w'=>e=.returned (.int .i64 (Dc.die 8 (s 0) [s 1,(k:Int),90]))∧w'=w0.alloc (.cells #[.int .i64 (s 1),.int .i64 (k:Int),.int .i64 90] 3)):=die_row 8 (s 0) _ 3 3 _ _ (Row.three w0 (s 1) (k:Int) 90 3) (by omega)
  have hOd:=hide ((uh hO).on (World.grownBy_alloc w0 (.cells #[.int .i64 (s 1),.int .i64 (k:Int),.int .i64 90] 3) none))
  obtain ⟨d,hd⟩:∃d,Dc.die 8 (s 0) [s 1,(k:Int),90]=d:=⟨_,rfl⟩
  rw [hd] at hst cd
  obtain ⟨S,hS⟩:∃S,Md.stray s c E k=S:=⟨_,rfl⟩
  rw [hS] at hst ⊢
  clear hL hc hcE hE hg0 hk hk0 hd hS
  unfold Gd.world at hw0 ⊢
  go_enter Tryz.func172,Tryz.ntmps172
  go_upto_region 1 with fail
  rw [←hw0]
  clear hw0
  obtain ⟨B,hB⟩:∃B,w.heap.size=B:=⟨_,rfl⟩
  rw [hB] at hO hOd ⊢
  clear hB
  have q0:=(uh hO).box.eleven.1
  have q1:=(uh hO).box.eleven.2.1
  go_wp2_with fail
  refine (uh cd).mono ?_
  rintro x wy ⟨rfl,hw⟩
  subst hw
  clear cd q0 q1 hO
  generalize w0.alloc (.cells #[.int .i64 (s 1),.int .i64 (k:Int),.int .i64 90] 3)=w1 at hOd ⊢
  by_cases h1:d<1
  · have hS0:Hid (S=0):=(show S=0 by rw [uh hst,if_neg (by omega)])
    clear hst
    go_wp2
    go_ret
    exact ⟨rti (uh hS0).symm,(uh hOd).grown⟩
  by_cases h4:d > 4
  · have hS0:Hid (S=0):=(show S=0 by rw [uh hst,if_neg (by omega)])
    clear hst
    go_wp2
    go_ret
    exact ⟨rti (uh hS0).symm,(uh hOd).grown⟩
  have hd14:=hide (show 1≤d∧d≤4 by omega)
  have wb:=Fx.way_bd d
  have ca:=hide (fun wq=>mAhead_any (E k) d wq x0 x9 y0 y9)
  unfold En.cells at ca
  obtain ⟨X,hX⟩:∃X,E k 3+(Fx.way d).1=X:=⟨_,rfl⟩
  obtain ⟨Y,hY⟩:∃Y,E k 4+(Fx.way d).2=Y:=⟨_,rfl⟩
  have hb:(-1≤X∧X≤24)∧-1≤Y∧Y≤16:=by omega
  rw [hX,hY] at ca hst
  have hb':=hide hb
  clear hX hY wb x0 x9 y0 y9 hb
  have q5:=(uh hOd).box.eleven.2.2.2.2.2.1
  obtain ⟨u0,u1,u2,u3,u4,u5,u6,u7,u8,u9,u10⟩:=(uh hOd).lists.own.ents.row (uh HK)
  go_wp2_with fail
  refine (uh ca _).mono ?_
  rintro x w2 ⟨⟨a,b,rfl,Ra,Rb⟩,hg⟩
  have hO2:=hide ((uh hOd).on hg)
  have cp:Hid (∀wq,Calls Tryz.prog 177 #[.complex .f64 a b] wq fun e w'=>e=.returned (.tuple #[.int .i64 X,.int .i64 Y])∧w'=wq):=fun wq=>mParts_any a b X Y wq Ra Rb (by have:=uh hb';omega) (by have:=uh hb';omega) (by have:=uh hb';omega) (by have:=uh hb';omega)
  clear Ra Rb hg q5 u0 u1 u2 u3 u4 u5 u6 u7 u8 u9 u10 ca hOd
  go_wp2_with fail
  refine (uh cp _).mono ?_
  rintro x wy ⟨rfl,hw⟩
  subst wy
  clear cp
  have q4:=(uh hO2).box.eleven.2.2.2.2.1
  have q5:=(uh hO2).box.eleven.2.2.2.2.2.1
  have cg:=hide (at_any w2.heap.size (some ⟨gC,0,none⟩) 384 cC c X Y w2 (uh hO2).lists.vec (uh hc'))
  have ce:=hide (entAt_any gE 32 cE E X Y w2 (uh hO2).lists.own.ents (uh hcE'))
  obtain ⟨A,hA⟩:∃A,Gr.at 384 c X Y=A:=⟨_,rfl⟩
  obtain ⟨z,hz⟩:∃z,En.first (En.atQ E X Y) 32=z:=⟨_,rfl⟩
  have ck:=hide (fun wq=>walk_any A wq)
  obtain ⟨wk,hwk⟩:∃wk,Gr.walkB A=wk:=⟨_,rfl⟩
  rw [hA] at cg hst
  rw [hz] at ce hst
  rw [hwk] at ck hst
  clear hA hz hwk
  go_wp2_with fail
  refine (uh cg).mono ?_
  rintro x wy ⟨rfl,hw⟩
  subst wy
  go_wp2_with fail
  refine (uh ck _).mono ?_
  rintro x wy ⟨rfl,hw⟩
  subst wy
  clear cg ck
  cases wk
  · have hS0:Hid (S=0):=(show S=0 by rw [uh hst,if_neg (by simp)])
    clear hst
    go_wp2
    go_ret
    exact ⟨rti (uh hS0).symm,(uh hO2).grown⟩
  go_wp2_with fail
  refine (uh ce).mono ?_
  rintro x w3 ⟨rfl,hg⟩
  have hg3:=hide (gtr (uh hO2).grown hg)
  clear hg ce q4 q5
  by_cases hz0:z<0
  · have hS0:Hid (S=d):=(show S=d by rw [uh hst,if_pos ⟨uh hd14,by first | rfl | trivial,hz0⟩])
    have hz1:¬z≥0:=by omega
    clear hst
    go_wp2
    go_ret
    exact ⟨rti (uh hS0).symm,uh hg3⟩
  · have hS0:Hid (S=0):=(show S=0 by rw [uh hst,if_neg (by omega)])
    have hz1:z≥0:=by omega
    clear hst
    go_wp2
    go_ret
    exact ⟨rti (uh hS0).symm,uh hg3⟩


open Go.RowKit

theorem Cr.ent_cells {p:Int × Nat} (h1:2≤p.1) (h4:p.1≤4):Gn.ent p.1 ((p.2:Int) % 24) ((p.2:Int) / 24)=En.cells (Cr.one p.1 0 p.2):=by
 obtain ⟨k,q⟩:=p
 rcases (show k=2∨k=3∨k=4 by have h1':2≤k:=h1;have h4':k≤4:=h4;omega) with rfl | rfl | rfl <;> rfl

def Cr.Mons (w:World) (a:Option Addr) (n:Nat) (es:List (Int × Nat)):Prop:=n=es.length∧n≤40∧∀i p,es[i]?=some p→(2≤p.1∧p.1≤4∧p.2<384)∧∃b,a=some ⟨b,0,none⟩∧b<w.heap.size∧∀j,j<11→w.cell? ⟨b,i*11+j,none⟩=some (.int .i64 (Cr.one p.1 0 p.2 j))

theorem Cr.mons_of {w:World} {b nE cE:Nat} {aE:Option Addr} {es:List (Int × Nat)} (h:w.ownsRow b 42 11 (.slice aE nE cE) nE (Gn.flat es)) (hn:nE=es.length) (h40:nE≤40) (hk:∀p,p∈es→2≤p.1∧p.1≤4∧p.2<384):Cr.Mons w aE nE es :=
 ⟨hn,h40,fun i p hp=>by
  have hlt:i<nE:=by
   rw [hn]
   exact (List.getElem?_eq_some_iff.1 hp).1
  obtain ⟨g,ha,hg,hc⟩:=ents_cells h hp hlt
  have hk':=hk p (List.mem_of_getElem? hp)
  refine ⟨hk',g,ha,hg,fun j hj=>?_⟩
  rw [hc j hj]
  have e:Gn.entCells p=(En.cells (Cr.one p.1 0 p.2)).toList:=by
   rw [←Cr.ent_cells hk'.1 hk'.2.1]
   rfl
  rw [e]
  rcases (show j=0∨j=1∨j=2∨j=3∨j=4∨j=5∨j=6∨j=7∨j=8∨j=9∨j=10 by omega) with rfl | rfl | rfl | rfl | rfl | rfl | rfl | rfl | rfl | rfl | rfl <;> rfl⟩

theorem Cr.goods_of {w:World} {b nI cI:Nat} {aI:Option Addr} {is:List Gn.Itm} (h:w.ownsRow b 47 4 (.slice aI nI cI) nI (Gn.flatI is)) (hn:nI=is.length) (h100:nI≤100):Gd.Some w aI nI (Cr.itemOf is):=by
 refine ⟨h100,?_⟩
 by_cases h0:nI=0
 ·exact .inl h0
 ·have hat:∀i,i<nI→∃p,is[i]?=some p:=fun i hi=>⟨is[i]'(by omega),List.getElem?_eq_getElem _⟩
  obtain ⟨p0,hp0⟩:=hat 0 (by omega)
  obtain ⟨g,ha,hg,-⟩:=items_cells h hp0 (by omega)
  refine .inr ⟨g,0,ha,h100,hg,fun i j hi hj=>?_⟩
  obtain ⟨p,hp⟩:=hat i hi
  obtain ⟨g',ha',_,hc⟩:=items_cells h hp hi
  obtain rfl:g=g':=by
   rw [ha] at ha'
   simpa using ha'
  rw [Nat.zero_add,hc j hj]
  obtain ⟨e0,e1,e2,e3⟩:=Cr.item_at hp
  rcases (show j=0∨j=1∨j=2∨j=3 by omega) with rfl | rfl | rfl | rfl
  ·rw [e0];rfl
  ·rw [e1];rfl
  ·rw [e2];rfl
  ·rw [e3];rfl

def Cr.Same (lo:Nat) (x y:World):Prop:=x.heap.size≤y.heap.size∧∀k,lo≤k→k<x.heap.size→y.heap[k]?=x.heap[k]?

theorem Cr.Same.on {lo:Nat} {x y z:World} (h:Cr.Same lo x y) (hg:y.grownBy z none):Cr.Same lo x z :=
 ⟨Nat.le_trans h.1 hg.size,fun k h1 h2=>(hg.block k (Nat.lt_of_lt_of_le h2 h.1) (by simp)).trans (h.2 k h1 h2)⟩

theorem Cr.Same.sets {lo:Nat} {x:World} {b:Nat} (hb:b<lo∨x.heap.size≤b):∀(vs:List Value) (o:Nat) {y:World},Cr.Same lo x y→Cr.Same lo x (y.setCells b o vs):=fun vs o y h=>by
 have r:=gss (g:=b) vs o y (World.grownBy.refl _ _)
 exact ⟨Nat.le_trans h.1 r.size,fun k h1 h2=>(r.block k (Nat.lt_of_lt_of_le h2 h.1) (by simp;omega)).trans (h.2 k h1 h2)⟩

theorem Cr.Same.set {lo:Nat} {x y:World} {b:Nat} (hb:b<lo∨x.heap.size≤b) (h:Cr.Same lo x y) (o:Nat) (u:Value):Cr.Same lo x (y.setCell ⟨b,o,none⟩ u):=by
 have r:=gs0 y b o u
 exact ⟨Nat.le_trans h.1 r.size,fun k h1 h2=>(r.block k (Nat.lt_of_lt_of_le h2 h.1) (by simp;omega)).trans (h.2 k h1 h2)⟩

theorem Cr.Same.owns {lo:Nat} {x y:World} {e:TypeId} {z n:Nat} {v:Value} {xs:List Value} (h:Cr.Same lo x y) (ho:x.ownsRow lo e z v n xs):y.ownsRow lo e z v n xs:=by
 obtain ⟨h1,h2 | ⟨g,cap,cur,h3,h4,h5,h6⟩⟩:=ho
 ·exact ⟨h1,.inl h2⟩
 ·exact ⟨h1,.inr ⟨g,cap,cur,h3,h4,(h.2 g h4 (lt_of_block h5)).trans h5,h6⟩⟩

def Cr.keptTo (I:Nat→Nat→Int) (n:Nat):Nat→Nat→Int:=fun k=>if k<n then Cr.kept I k else I k

theorem Cr.keptTo_zero (I:Nat→Nat→Int):Cr.keptTo I 0=I:=by funext k;unfold Cr.keptTo;rw [if_neg (by omega)]

theorem Cr.keptTo_at (I:Nat→Nat→Int) (n:Nat):Cr.keptTo I n n=I n:=by unfold Cr.keptTo;rw [if_neg (by omega)]

theorem Cr.keptTo_go {I:Nat→Nat→Int} {n:Nat} (h:I n 1=1∨I n 1=4):En.put (Cr.keptTo I n) n (fun _=>0)=Cr.keptTo I (n+1):=by
 funext k
 by_cases e:k=n
 ·subst e;rw [En.put_same];unfold Cr.keptTo Cr.kept;rw [if_pos (by omega),if_pos h]
 ·rw [En.put_other e];unfold Cr.keptTo
  by_cases hk:k<n
  ·rw [if_pos hk,if_pos (by omega)]
  ·rw [if_neg hk,if_neg (by omega)]

theorem Cr.keptTo_stay {I:Nat→Nat→Int} {n:Nat} (h:¬(I n 1=1∨I n 1=4)):Cr.keptTo I n=Cr.keptTo I (n+1):=by
 funext k
 unfold Cr.keptTo
 by_cases e:k=n
 ·subst e;rw [if_neg (by omega),if_pos (by omega)];unfold Cr.kept;rw [if_neg h]
 ·by_cases hk:k<n
  ·rw [if_pos hk,if_pos (by omega)]
  ·rw [if_neg hk,if_neg (by omega)]

end Go.Proofs.YtbanjoflgoiegabGreat
