import Derived.Test.YtbanjoflgoiegabGreatPf34
namespace Go.Proofs.YtbanjoflgoiegabGreat
open Go.RowKit

structure Cr.W where
 s:Nat→Int
 g:Nat→Int
 c:Nat→Int
 E:Nat→Nat→Int
 I:Nat→Nat→Int

def Cr.num (s:Nat→Int) (k:Nat) (v:Int):Nat→Int:=fun j=>if j=k then v else s j

def Cr.Below (s g:Nat→Int) (E I:Nat→Nat→Int) (T:Cr.W):Prop :=
 ∃(c:Nat→Int) (es:List (Int × Nat)) (is:List Gn.Itm) (F:Nat→Nat→Int),Cr.Lev (s 0) (s 2+1) c es is∧Cr.LandTo c E 4 (Cr.bare E) F∧T=⟨Cr.num s 2 (s 2+1),g,c,Cr.stockE F es,Cr.stockI (Cr.kept I) is⟩

def Cr.Ends (s g c:Nat→Int) (E I:Nat→Nat→Int) (had left:Bool) (T:Cr.W):Prop :=
 if Cr.manned E=false then T=⟨if had=true then Cr.num s 3 2 else s,g,c,E,I⟩
 else if left=true then (if s 2=3 then T=⟨Cr.num s 3 1,g,c,E,I⟩ else Cr.Below s g E I T) else T=⟨s,g,c,E,I⟩

def Cr.IsStep (how input:Nat→Int) (sp:Nat→Bool) (S T:Cr.W):Prop :=
 if S.s 3≠0 then T=⟨Cr.num S.s 1 (S.s 1+1),S.g,S.c,S.E,S.I⟩
 else ∃(A:Nat→Nat→Int) (m:Cr.M) (F J:Nat→Nat→Int),Cr.ComesTo S.c sp 4 S.E A∧Cr.MovedTo (Cr.num S.s 1 (S.s 1+1)) S.c how input 4 ⟨S.g,A,S.I,false⟩ m∧Cr.ProwlTo (Cr.num S.s 1 (S.s 1+1)) S.c 32 m.E m.I F J ∧
  Cr.Ends (Cr.num S.s 1 (S.s 1+1)) m.g S.c (Cr.rats (Cr.num S.s 1 (S.s 1+1)) S.c (Ft.ailE F J 32).1) (Ft.ailE F J 32).2 (Cr.manned S.E || Cr.manned A) m.left T

structure Cr.Good (S:Cr.W):Prop where
 sane:Cr.Sane S.c S.E S.I
 floor:Nv.Floor S.c
 gold:Cr.Gold S.g
 f1:1≤S.s 2
 f3:S.s 2≤3
 s0:0≤S.s 3
 s2:S.s 3≤2

theorem Cr.num_at (s:Nat→Int) (k:Nat) (v:Int):Cr.num s k v k=v:=if_pos rfl

theorem Cr.num_else (s:Nat→Int) {k j:Nat} (v:Int) (h:j≠k):Cr.num s k v j=s j:=if_neg h

theorem Cr.IsStep.good {how input:Nat→Int} {sp:Nat→Bool} {S T:Cr.W} (h:Cr.IsStep how input sp S T) (hS:Cr.Good S):Cr.Good T∧T.s 0=S.s 0∧T.s 1=S.s 1+1∧(T.s 2=S.s 2∨T.s 2=S.s 2+1)∧(S.s 3≠0→T=⟨Cr.num S.s 1 (S.s 1+1),S.g,S.c,S.E,S.I⟩):=by
 unfold Cr.IsStep at h
 have n0:Cr.num S.s 1 (S.s 1+1) 0=S.s 0:=Cr.num_else _ _ (by omega)
 have n1:Cr.num S.s 1 (S.s 1+1) 1=S.s 1+1:=Cr.num_at _ _ _
 have n2:Cr.num S.s 1 (S.s 1+1) 2=S.s 2:=Cr.num_else _ _ (by omega)
 have n3:Cr.num S.s 1 (S.s 1+1) 3=S.s 3:=Cr.num_else _ _ (by omega)
 split at h
 ·rename_i hc
  rw [h]
  exact ⟨⟨hS.sane,hS.floor,hS.gold,by show 1≤Cr.num S.s 1 (S.s 1+1) 2;rw [n2];exact hS.f1,by show Cr.num S.s 1 (S.s 1+1) 2≤3;rw [n2];exact hS.f3,by show 0≤Cr.num S.s 1 (S.s 1+1) 3;rw [n3];exact hS.s0,by show Cr.num S.s 1 (S.s 1+1) 3≤2;rw [n3];exact hS.s2⟩,n0,n1,.inl n2,fun _=>rfl⟩
 rename_i hc
 obtain ⟨A,m,F,J,hA,hm,hF,hE⟩:=h
 have sA:=hS.sane.comesTo (by omega) hA
 have sm:Cr.MFit S.c m:=Cr.MFit.movedTo (m:=⟨S.g,A,S.I,false⟩) ⟨sA,hS.gold⟩ hm
 have sF:=sm.1.prowlTo (by omega) hF
 have sR:=(sF.ail).rats (s:=Cr.num S.s 1 (S.s 1+1)) hS.floor
 generalize Cr.rats (Cr.num S.s 1 (S.s 1+1)) S.c (Ft.ailE F J 32).1=E2 at hE sR
 generalize (Ft.ailE F J 32).2=I2 at hE sR
 generalize Cr.num S.s 1 (S.s 1+1)=s1 at *
 have hz:S.s 3=0:=by
  by_cases e:S.s 3=0
  ·exact e
  ·exact absurd e hc
 have d0:∀v,Cr.num s1 3 v 0=s1 0:=fun v=>Cr.num_else _ _ (by omega)
 have d1:∀v,Cr.num s1 3 v 1=s1 1:=fun v=>Cr.num_else _ _ (by omega)
 have d2:∀v,Cr.num s1 3 v 2=s1 2:=fun v=>Cr.num_else _ _ (by omega)
 have d3:∀v,Cr.num s1 3 v 3=v:=fun v=>Cr.num_at _ _ _
 have f1:=hS.f1
 have f3:=hS.f3
 unfold Cr.Ends at hE
 split at hE
 ·rw [hE]
  cases Cr.manned S.E || Cr.manned A
  ·exact ⟨⟨sR,hS.floor,sm.2,by show 1≤s1 2;omega,by show s1 2≤3;omega,by show 0≤s1 3;omega,by show s1 3≤2;omega⟩,n0,n1,.inl n2,fun h=>absurd hz h⟩
  ·exact ⟨⟨sR,hS.floor,sm.2,by show 1≤Cr.num s1 3 2 2;rw [d2];omega,by show Cr.num s1 3 2 2≤3;rw [d2];omega,by show 0≤Cr.num s1 3 2 3;rw [d3];omega,by show Cr.num s1 3 2 3≤2;rw [d3];omega⟩,by show Cr.num s1 3 2 0=_;rw [d0];exact n0,by show Cr.num s1 3 2 1=_;rw [d1];exact n1,.inl (by show Cr.num s1 3 2 2=_;rw [d2];exact n2),fun h=>absurd hz h⟩
 ·split at hE
  ·split at hE
   ·rw [hE]
    exact ⟨⟨sR,hS.floor,sm.2,by show 1≤Cr.num s1 3 1 2;rw [d2];omega,by show Cr.num s1 3 1 2≤3;rw [d2];omega,by show 0≤Cr.num s1 3 1 3;rw [d3];omega,by show Cr.num s1 3 1 3≤2;rw [d3];omega⟩,by show Cr.num s1 3 1 0=_;rw [d0];exact n0,by show Cr.num s1 3 1 1=_;rw [d1];exact n1,.inl (by show Cr.num s1 3 1 2=_;rw [d2];exact n2),fun h=>absurd hz h⟩
   ·rename_i h3
    obtain ⟨c,es,is,G,hl,hG,rfl⟩:=hE
    have hc8:∀i,0≤c i∧c i≤255:=fun i=>⟨(hl.floor.five i).1,by have:=(hl.floor.five i).2;omega⟩
    obtain ⟨hk,hk1⟩:=Cr.kept_ok (c':=c) sR.fit.ok
    have hI:=hl.lay hk hk1
    have hb:=Cr.bare_sane (c:=c) (E:=E2) hc8 hI sR.good.gens
    have hland:=(Cr.landing sR hl.floor hl.four (by omega) hb (fun k _ k0=>absurd rfl k0) hG).1
    have hst:=hland.stockE es (hl.mons (by omega))
    have e0:Cr.num s1 2 (s1 2+1) 0=s1 0:=Cr.num_else _ _ (by omega)
    have e1:Cr.num s1 2 (s1 2+1) 1=s1 1:=Cr.num_else _ _ (by omega)
    have e2:Cr.num s1 2 (s1 2+1) 2=s1 2+1:=Cr.num_at _ _ _
    have e3:Cr.num s1 2 (s1 2+1) 3=s1 3:=Cr.num_else _ _ (by omega)
    exact ⟨⟨hst,hl.floor,sm.2,by show 1≤Cr.num s1 2 (s1 2+1) 2;rw [e2];omega,by show Cr.num s1 2 (s1 2+1) 2≤3;rw [e2];omega,by show 0≤Cr.num s1 2 (s1 2+1) 3;rw [e3];omega,by show Cr.num s1 2 (s1 2+1) 3≤2;rw [e3];omega⟩,by show Cr.num s1 2 (s1 2+1) 0=_;rw [e0];exact n0,by show Cr.num s1 2 (s1 2+1) 1=_;rw [e1];exact n1,.inr (by show Cr.num s1 2 (s1 2+1) 2=_;rw [e2];omega),fun h=>absurd hz h⟩
  ·rw [hE]
   exact ⟨⟨sR,hS.floor,sm.2,by show 1≤s1 2;omega,by show s1 2≤3;omega,by show 0≤s1 3;omega,by show s1 3≤2;omega⟩,n0,n1,.inl n2,fun h=>absurd hz h⟩

def Cr.first (seed:Int):Nat→Int
 | 0=>seed
 | 2=>1
 | _=>0

def Cr.IsNew (seed:Int) (T:Cr.W):Prop :=
 ∃(c:Nat→Int) (es:List (Int × Nat)) (is:List Gn.Itm),Cr.Lev seed 1 c es is∧T=⟨Cr.first seed,fun _=>0,c,Cr.stockE (fun _ _=>0) es,Cr.stockI (fun _ _=>0) is⟩

theorem Cr.IsNew.good {seed:Int} {T:Cr.W} (h:Cr.IsNew seed T):Cr.Good T:=by
 obtain ⟨c,es,is,hl,rfl⟩:=h
 have hc8:∀i,0≤c i∧c i≤255:=fun i=>⟨(hl.floor.five i).1,by have:=(hl.floor.five i).2;omega⟩
 have hI:=hl.lay (Md.ok_none c) (fun k _=>⟨by show ¬(0:Int)=1;omega,by show ¬(0:Int)=4;omega⟩)
 have hb:Cr.Sane c (fun _ _=>0) (Cr.stockI (fun _ _=>0) is):=by
  refine ⟨⟨hc8,hI,fun k _=>⟨by show (0:Int)≤0;omega,by show (0:Int)≤255;omega,.inl fun _ _ _=>rfl⟩⟩,⟨fun k _ k0=>absurd rfl k0,⟨fun k _ k0=>absurd rfl k0,fun j k _ _ j0=>absurd rfl j0⟩⟩,⟨fun k _ k1=>?_,fun j k _ _ j1=>?_,fun k _ k0=>absurd rfl k0⟩⟩
  ·exact absurd k1 (by show ¬(0:Int)=1;omega)
  ·exact absurd j1 (by show ¬(0:Int)=1;omega)
 exact ⟨hb.stockE es (hl.mons (by omega)),hl.floor,fun t _=>⟨by show (0:Int)≤0;omega,by show (0:Int)≤999;omega⟩,by show (1:Int)≤1;omega,by show (1:Int)≤3;omega,by show (0:Int)≤0;omega,by show (0:Int)≤2;omega⟩


open Go.RowKit

theorem Lie.elevenInts {x:World} {B:Nat} {T:TypeId} {e:Nat→Int} (h:Lie x B T 11 (Ints e)) :
  x.cell? ⟨B,0,none⟩=some (.int .i64 (e 0))∧x.cell? ⟨B,1,none⟩=some (.int .i64 (e 1))∧x.cell? ⟨B,2,none⟩=some (.int .i64 (e 2))∧x.cell? ⟨B,3,none⟩=some (.int .i64 (e 3))∧x.cell? ⟨B,4,none⟩=some (.int .i64 (e 4))∧x.cell? ⟨B,5,none⟩=some (.int .i64 (e 5))∧x.cell? ⟨B,6,none⟩=some (.int .i64 (e 6))∧x.cell? ⟨B,7,none⟩=some (.int .i64 (e 7))∧x.cell? ⟨B,8,none⟩=some (.int .i64 (e 8))∧x.cell? ⟨B,9,none⟩=some (.int .i64 (e 9))∧x.cell? ⟨B,10,none⟩=some (.int .i64 (e 10)) :=
 ⟨h.cell (c:=0) (by omega),h.cell (c:=1) (by omega),h.cell (c:=2) (by omega),h.cell (c:=3) (by omega),h.cell (c:=4) (by omega),h.cell (c:=5) (by omega),h.cell (c:=6) (by omega),h.cell (c:=7) (by omega),h.cell (c:=8) (by omega),h.cell (c:=9) (by omega),h.cell (c:=10) (by omega)⟩

set_option maxRecDepth 8000 in
set_option maxHeartbeats 3200000 in
theorem mFoe_any (E:Nat→Nat→Int) (e:Nat→Int) (gE cE:Nat) (w:World) (hE:Own w gE 32 E) (hcE:32≤cE) (x0:0≤e 3) (x9:e 3<24) (y0:0≤e 4) (y9:e 4<16) :
  Calls Tryz.prog 187 #[.slice (some ⟨gE,0,none⟩) 32 cE,.agg (En.cells e)] w (Says w (.int .i64 (Nv.wayFrom (Md.foe E (e 3) (e 4)) 4 1))):=by
 obtain ⟨w0,hw0⟩:∃w0,w0=w.alloc (.cells (En.cells e) 42):=⟨_,rfl⟩
 have hg0:Hid (w.grownBy w0 none):=by rw [hw0];exact World.grownBy_alloc _ _ _
 have hQ:Hid (Lie w0 w.heap.size 42 11 (Ints e)):=by rw [hw0];exact Lie.copied _ _ _
 have hE0:=hide (hE.ents.on (uh hg0))
 have ca:Hid (∀(d:Nat) (wq:World),Calls Tryz.prog 179 #[.agg (En.cells e),.int .i64 (d:Int)] wq fun x w'=>(∃a b,x=.returned (.complex .f64 a b)∧Fl.Rep a (e 3+(Fx.way (d:Int)).1)∧Fl.Rep b (e 4+(Fx.way (d:Int)).2))∧wq.grownBy w' none):=fun d wq=>mAhead_any e d wq x0 x9 y0 y9
 have hcE':=hide hcE
 obtain ⟨x,hx⟩:∃x,e 3=x:=⟨_,rfl⟩
 obtain ⟨y,hy⟩:∃y,e 4=y:=⟨_,rfl⟩
 have hK:Hid (∀z,w0.grownBy z none→z.cell? ⟨w.heap.size,0,none⟩=some (.int .i64 (e 0))∧z.cell? ⟨w.heap.size,1,none⟩=some (.int .i64 (e 1))∧z.cell? ⟨w.heap.size,2,none⟩=some (.int .i64 (e 2))∧z.cell? ⟨w.heap.size,3,none⟩=some (.int .i64 x)∧z.cell? ⟨w.heap.size,4,none⟩=some (.int .i64 y)∧z.cell? ⟨w.heap.size,5,none⟩=some (.int .i64 (e 5))∧z.cell? ⟨w.heap.size,6,none⟩=some (.int .i64 (e 6))∧z.cell? ⟨w.heap.size,7,none⟩=some (.int .i64 (e 7))∧z.cell? ⟨w.heap.size,8,none⟩=some (.int .i64 (e 8))∧z.cell? ⟨w.heap.size,9,none⟩=some (.int .i64 (e 9))∧z.cell? ⟨w.heap.size,10,none⟩=some (.int .i64 (e 10))):=fun z hz=>by
  rw [←hx,←hy]
  exact ((uh hQ).on hz).elevenInts
 unfold En.cells at hw0 ca ⊢
 rw [hx,hy] at ca
 rw [hx] at x0 x9
 rw [hy] at y0 y9
 rw [hx,hy] at hw0 ⊢
 clear hQ hE hcE hx hy
 go_enter Tryz.func187,Tryz.ntmps187
 go_upto_region 1 with fail
 rw [←hw0]
 clear hw0
 obtain ⟨B,hB⟩:∃B,w.heap.size=B:=⟨_,rfl⟩
 rw [hB] at hK ⊢
 clear hB
 go_wp2_with fail
 go_loopw [5,6,7,8] (fun v5 v6 v7 v8 wr=>∃d:Nat,1≤d∧d≤5∧v5=.int .i64 (d:Int)∧Hid (w0.grownBy wr none)∧Hid (∀j,1≤j→j<d→Md.foe E x y j=false)) (fun v5 _ _ _ _=>10 - (intOf v5).toNat)
 case atStart=>exact ⟨1,by omega,by omega,rfl,World.grownBy.refl _ _,fun j h1 h2=>by omega⟩
 case round =>
  obtain ⟨d,hd1,hd5,rfl,hgr,hno⟩:=hrel
  by_cases hlt:d≤4
  ·have hlt':(d:Int)≤4:=by omega
   have HD:=hide (show 1≤d∧d≤4 from ⟨hd1,hlt⟩)
   obtain ⟨s1,s2,s3,s4⟩:=Md.way_small d
   have cat:Hid (∀z,w0.grownBy z none→Calls Tryz.prog 69 #[.slice (some ⟨gE,0,none⟩) 32 cE,.int .i64 (x+(Fx.way (d:Int)).1),.int .i64 (y+(Fx.way (d:Int)).2)] z (Says z (.int .i64 (Md.who E x y d)))):=fun z hz=>entAt_any gE 32 cE E _ _ z ((uh hE0).on hz) (uh hcE')
   have hwho:=hide (@Md.who_row E x y d)
   have hfd:Hid (Md.foe E x y d=(decide (0≤Md.who E x y d) && !(decide (E (Md.who E x y d).toNat 0=1)))):=rfl
   have cad:=hide (fun wq=>uh ca d wq)
   obtain ⟨X,hX⟩:∃X,x+(Fx.way (d:Int)).1=X:=⟨_,rfl⟩
   obtain ⟨Y,hY⟩:∃Y,y+(Fx.way (d:Int)).2=Y:=⟨_,rfl⟩
   obtain ⟨h,hh⟩:∃z,Md.who E x y d=z:=⟨_,rfl⟩
   have bX:-1≤X∧X≤24:=by omega
   have bY:-1≤Y∧Y≤16:=by omega
   rw [hX,hY] at cad cat
   rw [hh] at cat hwho hfd
   clear hX hY hh s1 s2 s3 s4 hd1 hd5 hlt x0 x9 y0 y9
   obtain ⟨k0,k1,k2,k3,k4,k5,k6,k7,k8,k9,k10⟩:=uh hK _ (uh hgr)
   go_wp2_with fail
   refine (uh cad _).mono ?_
   rintro xx w1 ⟨⟨a,b,rfl,Ra,Rb⟩,hg⟩
   have hg1:=hide (gtr (uh hgr) hg)
   have cp:=hide (fun wq=>mParts_any a b X Y wq Ra Rb (by omega) (by omega) (by omega) (by omega))
   clear hg Ra Rb k0 k1 k2 k3 k4 k5 k6 k7 k8 k9 k10 bX bY
   go_wp2_with fail
   refine (uh cp _).mono ?_
   rintro xx wy ⟨rfl,hw⟩
   subst wy
   clear cp
   go_wp2_with fail
   refine (uh cat _ (uh hg1)).mono ?_
   rintro xx w2 ⟨rfl,hg⟩
   have hg2:=hide (gtr (uh hg1) hg)
   clear hg cat cad
   rcases uh hwho with rfl | ⟨j,hj,rfl⟩
   ·have hf:Hid (Md.foe E x y d=false):=(show Md.foe E x y d=false by rw [uh hfd];rfl)
    clear hfd hwho
    go_wp2
    go_roundw
    case rel=>exact ⟨d+1,by omega,by have:=uh HD;omega,by go_num,hg2,fun j h1 h2=>by
     by_cases e:j=d
     ·rw [e];exact uh hf
     ·exact uh hno j h1 (by omega)⟩
    case measure=>simp [intOf];have:=uh HD;omega
   ·have u0:=(((uh hE0).on (uh hg2)).row hj).1
    have hj':(j:Int)<32:=by omega
    rw [Int.toNat_natCast] at hfd
    by_cases h1:E j 0=1
    ·have hf:Hid (Md.foe E x y d=false):=(show Md.foe E x y d=false by rw [uh hfd,h1];simp)
     rw [h1] at u0
     clear hfd hwho h1 hj
     go_wp2
     go_roundw
     case rel=>exact ⟨d+1,by omega,by have:=uh HD;omega,by go_num,hg2,fun j h1 h2=>by
      by_cases e:j=d
      ·rw [e];exact uh hf
      ·exact uh hno j h1 (by omega)⟩
     case measure=>simp [intOf];have:=uh HD;omega
    ·have hf:Hid (Md.foe E x y d=true):=(show Md.foe E x y d=true by rw [uh hfd];simp [h1])
     have h1':(E j 0 == 1)=false:=by simpa using h1
     have hw:Hid (Nv.wayFrom (Md.foe E x y) 4 1=(d:Int)):=Nv.way_hit 4 d 1 (uh hno) (uh hf) (uh HD).1 (by have:=(uh HD).2;omega)
     have hfin:Hid (Says w (.int .i64 (Nv.wayFrom (Md.foe E x y) 4 1)) (.returned (.int .i64 (d:Int))) w2):=⟨by rw [uh hw],gtr (uh hg0) (uh hg2)⟩
     clear hfd hwho h1 hj hw hf
     go_wp2
     go_ret
     exact uh hfin
  ·obtain rfl:d=5:=by omega
   have hge:¬((5:Nat):Int)≤4:=by omega
   have hw:Hid (Nv.wayFrom (Md.foe E x y) 4 1=0):=Nv.way_none 4 1 fun j h1 h2=>uh hno j h1 (by omega)
   have hfin:Hid (Says w (.int .i64 (Nv.wayFrom (Md.foe E x y) 4 1)) (.returned (.int .i64 0)) wr):=⟨by rw [uh hw],gtr (uh hg0) (uh hgr)⟩
   clear hlt hd1 hd5 hno hw
   go_wp2
   go_ret
   exact uh hfin


open Go.RowKit

theorem Cr.ent_cells {p:Int × Nat} (h1:2≤p.1) (h4:p.1≤4):Gn.ent p.1 ((p.2:Int) % 24) ((p.2:Int) / 24)=En.cells (Cr.one p.1 0 p.2):=by
 obtain ⟨k,q⟩:=p
 rcases (show k=2∨k=3∨k=4 by have h1':2≤k:=h1;have h4':k≤4:=h4;omega) with rfl | rfl | rfl <;> rfl

def Cr.Mons (w:World) (a:Option Addr) (n:Nat) (es:List (Int × Nat)):Prop:=n=es.length∧n≤40∧∀i p,es[i]?=some p→(2≤p.1∧p.1≤4∧p.2<384)∧∃b,a=some ⟨b,0,none⟩∧b<w.heap.size∧∀j,j<11→w.cell? ⟨b,i*11+j,none⟩=some (.int .i64 (Cr.one p.1 0 p.2 j))

theorem Cr.mons_of {w:World} {b nE cE:Nat} {aE:Option Addr} {es:List (Int × Nat)} (h:w.ownsRow b 42 11 (.slice aE nE cE) nE (Gn.flat es)) (hn:nE=es.length) (h40:nE≤40) (hk:∀p,p∈es→2≤p.1∧p.1≤4∧p.2<384):Cr.Mons w aE nE es :=
 ⟨hn,h40,fun i p hp=>by
  have hlt:i<nE:=by
   rw [hn]
   exact (List.getElem?_eq_some_iff.1 hp).1
  obtain ⟨g,ha,hg,hc⟩:=ents_cells h hp hlt
  have hk':=hk p (List.mem_of_getElem? hp)
  refine ⟨hk',g,ha,hg,fun j hj=>?_⟩
  rw [hc j hj]
  have e:Gn.entCells p=(En.cells (Cr.one p.1 0 p.2)).toList:=by
   rw [←Cr.ent_cells hk'.1 hk'.2.1]
   rfl
  rw [e]
  rcases (show j=0∨j=1∨j=2∨j=3∨j=4∨j=5∨j=6∨j=7∨j=8∨j=9∨j=10 by omega) with rfl | rfl | rfl | rfl | rfl | rfl | rfl | rfl | rfl | rfl | rfl <;> rfl⟩

theorem Cr.goods_of {w:World} {b nI cI:Nat} {aI:Option Addr} {is:List Gn.Itm} (h:w.ownsRow b 47 4 (.slice aI nI cI) nI (Gn.flatI is)) (hn:nI=is.length) (h100:nI≤100):Gd.Some w aI nI (Cr.itemOf is):=by
 refine ⟨h100,?_⟩
 by_cases h0:nI=0
 ·exact .inl h0
 ·have hat:∀i,i<nI→∃p,is[i]?=some p:=fun i hi=>⟨is[i]'(by omega),List.getElem?_eq_getElem _⟩
  obtain ⟨p0,hp0⟩:=hat 0 (by omega)
  obtain ⟨g,ha,hg,-⟩:=items_cells h hp0 (by omega)
  refine .inr ⟨g,0,ha,h100,hg,fun i j hi hj=>?_⟩
  obtain ⟨p,hp⟩:=hat i hi
  obtain ⟨g',ha',_,hc⟩:=items_cells h hp hi
  obtain rfl:g=g':=by
   rw [ha] at ha'
   simpa using ha'
  rw [Nat.zero_add,hc j hj]
  obtain ⟨e0,e1,e2,e3⟩:=Cr.item_at hp
  rcases (show j=0∨j=1∨j=2∨j=3 by omega) with rfl | rfl | rfl | rfl
  ·rw [e0];rfl
  ·rw [e1];rfl
  ·rw [e2];rfl
  ·rw [e3];rfl

def Cr.Same (lo:Nat) (x y:World):Prop:=x.heap.size≤y.heap.size∧∀k,lo≤k→k<x.heap.size→y.heap[k]?=x.heap[k]?

theorem Cr.Same.on {lo:Nat} {x y z:World} (h:Cr.Same lo x y) (hg:y.grownBy z none):Cr.Same lo x z :=
 ⟨Nat.le_trans h.1 hg.size,fun k h1 h2=>(hg.block k (Nat.lt_of_lt_of_le h2 h.1) (by simp)).trans (h.2 k h1 h2)⟩

theorem Cr.Same.sets {lo:Nat} {x:World} {b:Nat} (hb:b<lo∨x.heap.size≤b):∀(vs:List Value) (o:Nat) {y:World},Cr.Same lo x y→Cr.Same lo x (y.setCells b o vs):=fun vs o y h=>by
 have r:=gss (g:=b) vs o y (World.grownBy.refl _ _)
 exact ⟨Nat.le_trans h.1 r.size,fun k h1 h2=>(r.block k (Nat.lt_of_lt_of_le h2 h.1) (by simp;omega)).trans (h.2 k h1 h2)⟩

theorem Cr.Same.set {lo:Nat} {x y:World} {b:Nat} (hb:b<lo∨x.heap.size≤b) (h:Cr.Same lo x y) (o:Nat) (u:Value):Cr.Same lo x (y.setCell ⟨b,o,none⟩ u):=by
 have r:=gs0 y b o u
 exact ⟨Nat.le_trans h.1 r.size,fun k h1 h2=>(r.block k (Nat.lt_of_lt_of_le h2 h.1) (by simp;omega)).trans (h.2 k h1 h2)⟩

theorem Cr.Same.owns {lo:Nat} {x y:World} {e:TypeId} {z n:Nat} {v:Value} {xs:List Value} (h:Cr.Same lo x y) (ho:x.ownsRow lo e z v n xs):y.ownsRow lo e z v n xs:=by
 obtain ⟨h1,h2 | ⟨g,cap,cur,h3,h4,h5,h6⟩⟩:=ho
 ·exact ⟨h1,.inl h2⟩
 ·exact ⟨h1,.inr ⟨g,cap,cur,h3,h4,(h.2 g h4 (lt_of_block h5)).trans h5,h6⟩⟩

def Cr.keptTo (I:Nat→Nat→Int) (n:Nat):Nat→Nat→Int:=fun k=>if k<n then Cr.kept I k else I k

theorem Cr.keptTo_zero (I:Nat→Nat→Int):Cr.keptTo I 0=I:=by funext k;unfold Cr.keptTo;rw [if_neg (by omega)]

theorem Cr.keptTo_at (I:Nat→Nat→Int) (n:Nat):Cr.keptTo I n n=I n:=by unfold Cr.keptTo;rw [if_neg (by omega)]

theorem Cr.keptTo_go {I:Nat→Nat→Int} {n:Nat} (h:I n 1=1∨I n 1=4):En.put (Cr.keptTo I n) n (fun _=>0)=Cr.keptTo I (n+1):=by
 funext k
 by_cases e:k=n
 ·subst e;rw [En.put_same];unfold Cr.keptTo Cr.kept;rw [if_pos (by omega),if_pos h]
 ·rw [En.put_other e];unfold Cr.keptTo
  by_cases hk:k<n
  ·rw [if_pos hk,if_pos (by omega)]
  ·rw [if_neg hk,if_neg (by omega)]

theorem Cr.keptTo_stay {I:Nat→Nat→Int} {n:Nat} (h:¬(I n 1=1∨I n 1=4)):Cr.keptTo I n=Cr.keptTo I (n+1):=by
 funext k
 unfold Cr.keptTo
 by_cases e:k=n
 ·subst e;rw [if_neg (by omega),if_pos (by omega)];unfold Cr.kept;rw [if_neg h]
 ·by_cases hk:k<n
  ·rw [if_pos hk,if_pos (by omega)]
  ·rw [if_neg hk,if_neg (by omega)]

end Go.Proofs.YtbanjoflgoiegabGreat
