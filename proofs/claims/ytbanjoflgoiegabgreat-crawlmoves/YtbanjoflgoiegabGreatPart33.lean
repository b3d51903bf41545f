/-
  MindsSeen FightSpawn MindsWide MindsCrowd MindsStep MindsFine CrawlMath MindsLone CrawlParts GenStock MindsFoe
-/
import Derived.Test.YtbanjoflgoiegabGreatPart28
import Derived.Test.YtbanjoflgoiegabGreatPart23
import Derived.BigQuiet
import Derived.Test.YtbanjoflgoiegabGreatPart04
import Derived.Test.YtbanjoflgoiegabGreatPart32
import Derived.Test.YtbanjoflgoiegabGreatPart22
import Derived.Laws.AppendOwnNone
import Derived.Deep.Cut
import Derived.Deep.Fields
import Derived.OpenShut
import Derived.Test.YtbanjoflgoiegabGreatPart15
import Derived.Test.YtbanjoflgoiegabGreatPart19
import Derived.Test.YtbanjoflgoiegabGreatPart24
import Derived.Deep.CutRange
import Derived.Deep.CutBlock
import Derived.Deep.RegionWith
import Derived.Deep.RegionHeld3
import Derived.Test.YtbanjoflgoiegabGreatPart27
import Derived.Test.YtbanjoflgoiegabGreatPart20
import Derived.Test.YtbanjoflgoiegabGreatPart08
import Derived.Test.YtbanjoflgoiegabGreatPart21
namespace Go.Proofs.YtbanjoflgoiegabGreat
open Go.RowKit

def Md.Takes (c:Nat→Int) (x y hx hy r b a:Int):Prop:=r≤1536∧Gr.Sees 384 c x y hx hy∧(a<0∨r<b)

def Md.Seen (c:Nat→Int) (E:Nat→Nat→Int) (x y:Int):Nat→Int→Int→Prop
  | 0,b,a=>b=0∧a=-1
  | t + 1, b, a => ∃ b0 a0, Md.Seen c E x y t b0 a0 ∧
      ((Gd.hero E (t : Int) < 0 ∧ b = b0 ∧ a = a0) ∨
       ∃ (h : Nat) (r : Int), Gd.hero E (t : Int) = (h : Int) ∧ Fx.isRoot (((E h 3 - x) * (E h 3 - x) + (E h 4 - y) * (E h 4 - y)) * 65536) r ∧
         ((Md.Takes c x y (E h 3) (E h 4) r b0 a0∧b=r∧a=(h:Int))∨(¬Md.Takes c x y (E h 3) (E h 4) r b0 a0∧b=b0∧a=a0)))

def Md.stray (s c:Nat→Int) (E:Nat→Nat→Int) (k:Nat):Int :=
 if (1≤Dc.die 8 (s 0) [s 1,(k:Int),90]∧Dc.die 8 (s 0) [s 1,(k:Int),90]≤4)∧Gr.walkB (Gr.at 384 c (E k 3+(Fx.way (Dc.die 8 (s 0) [s 1,(k:Int),90])).1) (E k 4+(Fx.way (Dc.die 8 (s 0) [s 1,(k:Int),90])).2))=true∧En.first (En.atQ E (E k 3+(Fx.way (Dc.die 8 (s 0) [s 1,(k:Int),90])).1) (E k 4+(Fx.way (Dc.die 8 (s 0) [s 1,(k:Int),90])).2)) 32<0
 then Dc.die 8 (s 0) [s 1,(k:Int),90] else 0

def Md.monsterAt (s c:Nat→Int) (E:Nat→Nat→Int) (k:Nat) (v:Int):Prop :=
  ∃b a,Md.Seen c E (E k 3) (E k 4) 4 b a ∧
    ((a < 0 ∧ v = Md.stray s c E k) ∨
     ∃ h : Nat, a = (h : Int) ∧
       if 0 < Nv.beside (E h 3 - E k 3) (E h 4 - E k 4) then v = Nv.beside (E h 3 - E k 3) (E h 4 - E k 4)
       else Nv.IsToward c (fun _=>E h 4*24+E h 3) 1 E 32 (E k 3) (E k 4) v)

def Md.IsMonster (s c:Nat→Int) (E:Nat→Nat→Int) (row v:Int):Prop :=
 if (row<0∨32≤row)∨E row.toNat 0=0∨E row.toNat 0=1 then v=0 else Md.monsterAt s c E row.toNat v


open Go.RowKit

def En.upd (e:Nat→Int) (j:Nat) (v:Int):Nat→Int:=fun l=>if l=j then v else e l

theorem En.upd_same (e:Nat→Int) (j:Nat) (v:Int):En.upd e j v j=v:=if_pos rfl
theorem En.upd_other {e:Nat→Int} {j l:Nat} {v:Int} (h:l≠j):En.upd e j v l=e l:=if_neg h

theorem Lie.upd {x:World} {Q:Nat} {T:TypeId} {e:Nat→Int} (h:Lie x Q T 11 (Ints e)) (j:Nat) (v:Int):Lie (x.setCell ⟨Q,j,none⟩ (.int .i64 v)) Q T 11 (Ints (En.upd e j v)):=by
 refine (h.store j (.int .i64 v)).congr fun l _=>?_
 unfold Ints En.upd
 split <;> rfl

theorem Lie.ent {x:World} {Q:Nat} {T:TypeId} {e:Nat→Int} (h:Lie x Q T 11 (Ints e)):x.cell? ⟨Q,0,none⟩=some (.int .i64 (e 0))∧x.cell? ⟨Q,1,none⟩=some (.int .i64 (e 1))∧x.cell? ⟨Q,2,none⟩=some (.int .i64 (e 2))∧x.cell? ⟨Q,3,none⟩=some (.int .i64 (e 3))∧x.cell? ⟨Q,4,none⟩=some (.int .i64 (e 4))∧x.cell? ⟨Q,5,none⟩=some (.int .i64 (e 5))∧x.cell? ⟨Q,6,none⟩=some (.int .i64 (e 6))∧x.cell? ⟨Q,7,none⟩=some (.int .i64 (e 7))∧x.cell? ⟨Q,8,none⟩=some (.int .i64 (e 8))∧x.cell? ⟨Q,9,none⟩=some (.int .i64 (e 9))∧x.cell? ⟨Q,10,none⟩=some (.int .i64 (e 10)) :=
 ⟨h.cell (by omega),h.cell (by omega),h.cell (by omega),h.cell (by omega),h.cell (by omega),h.cell (by omega),h.cell (by omega),h.cell (by omega),h.cell (by omega),h.cell (by omega),h.cell (by omega)⟩

theorem Lie.born (x:World) (e:Nat→Int) (T:TypeId):Lie (x.alloc (.cells (En.cells e) T)) x.heap.size T 11 (Ints e) :=
 Lie.congr (m:=11) (Arr.lit (heap_alloc_new x (.cells (En.cells e) T))).lie fun j hj=>by
  rcases (show j=0∨j=1∨j=2∨j=3∨j=4∨j=5∨j=6∨j=7∨j=8∨j=9∨j=10 by omega) with rfl | rfl | rfl | rfl | rfl | rfl | rfl | rfl | rfl | rfl | rfl <;> rfl

def Ft.Born (E:Nat→Nat→Int):Prop:=∀k,k<32→E k 0≠0→E k 6=En.stats (E k 0) 6∧E k 7=En.stats (E k 0) 7∧E k 8=En.stats (E k 0) 8

theorem Ft.Born.put {E:Nat→Nat→Int} (h:Ft.Born E) {r:Nat} {e:Nat→Int} (he:e 6=En.stats (e 0) 6∧e 7=En.stats (e 0) 7∧e 8=En.stats (e 0) 8):Ft.Born (En.put E r e):=fun k hk h0=>by
 by_cases x:k=r
 ·rw [x,En.put_same]
  exact he
 ·rw [En.put_other x] at h0 ⊢
  exact h k hk h0


open Go.RowKit

theorem Md.snug_cap {s:Nat→Int} {gC gE gI cC cE cI:Nat} {g:Nat→Int} (h:Gd.Snug (.returned (.agg (Gd.world s gC gE gI cC cE cI g)))):384≤cC:=by
 obtain ⟨s',gC',gE',gI',g',he⟩:=h
 simp [Gd.world] at he
 omega


open Go.RowKit

structure Ft.Stands (c:Nat→Int) (E:Nat→Nat→Int):Prop where
 on:∀k,k<32→E k 0≠0→0≤E k 3∧E k 3<24∧0≤E k 4∧E k 4<16∧Gr.walkB (c (E k 4*24+E k 3).toNat)=true
 apart:∀j k,j<32→k<32→E j 0≠0→E k 0≠0→E j 3=E k 3→E j 4=E k 4→j=k

structure Ft.Set (c:Nat→Int) (E:Nat→Nat→Int):Prop where
 born:Ft.Born E
 stands:Ft.Stands c E

def Ft.Room (c:Nat→Int) (E:Nat→Nat→Int) (q:Nat):Prop:=Gr.walkB (c q)=true∧En.first (En.atQ E ((q:Int) % 24) ((q:Int) / 24)) 32<0

theorem Ft.cell_num {q:Nat} (hq:q<384):0≤(q:Int) % 24∧(q:Int) % 24<24∧0≤(q:Int) / 24∧(q:Int) / 24<16∧((q:Int) / 24*24+(q:Int) % 24).toNat=q:=by omega

theorem Ft.room_none {E:Nat→Nat→Int} {x y:Int} (h:En.first (En.atQ E x y) 32<0):∀j,j<32→E j 0≠0→¬(E j 3=x∧E j 4=y):=by
 rcases En.first_cases (En.atQ E x y) 32 with ⟨_,hno⟩ | ⟨k,_,he,_⟩
 ·intro j hj h0 hxy
  have:=hno j hj
  simp [En.atQ,h0,hxy.1,hxy.2] at this
 ·omega

theorem Ft.Set.put {c:Nat→Int} {E:Nat→Nat→Int} (h:Ft.Set c E) {r q:Nat} {e:Nat→Int} {gn:Int} (_h0:E r 0=0) (hq:q<384) (hr:Ft.Room c E q) (hx:e 3=(q:Int) % 24) (hy:e 4=(q:Int) / 24) (he:e 6=En.stats (e 0) 6∧e 7=En.stats (e 0) 7∧e 8=En.stats (e 0) 8):Ft.Set c (En.put E r (En.gen e gn)):=by
 obtain ⟨n1,n2,n3,n4,n5⟩:=Ft.cell_num hq
 have hno:=Ft.room_none hr.2
 have e3:En.gen e gn 3=(q:Int) % 24:=hx
 have e4:En.gen e gn 4=(q:Int) / 24:=hy
 refine ⟨h.born.put he,⟨fun k hk k0=>?_,fun j k hj hk j0 k0 hx' hy'=>?_⟩⟩
 ·by_cases e':k=r
  ·subst e'
   rw [En.put_same,e3,e4,n5]
   exact ⟨n1,n2,n3,n4,hr.1⟩
  ·rw [En.put_other e'] at k0 ⊢
   exact h.stands.on k hk k0
 ·by_cases ej:j=r
  ·by_cases ek:k=r
   ·omega
   ·subst ej
    rw [En.put_same,En.put_other ek,e3] at hx'
    rw [En.put_same,En.put_other ek,e4] at hy'
    rw [En.put_other ek] at k0
    exact absurd ⟨hx'.symm,hy'.symm⟩ (hno k hk k0)
  ·by_cases ek:k=r
   ·subst ek
    rw [En.put_same,En.put_other ej,e3] at hx'
    rw [En.put_same,En.put_other ej,e4] at hy'
    rw [En.put_other ej] at j0
    exact absurd ⟨hx',hy'⟩ (hno j hj j0)
   ·rw [En.put_other ej,En.put_other ek] at hx' hy'
    rw [En.put_other ej] at j0
    rw [En.put_other ek] at k0
    exact h.stands.apart j k hj hk j0 k0 hx' hy'


open Go.RowKit

theorem Nv.reach_walk {f t:Nat→Int} {tlen blen:Nat} {g:Nat→Bool} {F:Nat→Int} (h:Gr.IsField (fun i=>Gr.openB f blen g i=true) (Gr.tgt f t tlen) F) {p:Nat} (hp:p<384) (h0:0≤F p):Gr.walkB (f p)=true:=by
 by_cases e:F p=0
 ·exact ((h.zero p hp).1 e).1
 ·have ho:=(h.back p hp (by omega)).1
  by_cases hw:Gr.walkB (f p)=true
  ·exact hw
  ·rw [Bool.not_eq_true] at hw
   rw [Gr.open_no hw] at ho
   cases ho

theorem Nv.Floor.all {cs:Nat→Int} (hf:Nv.Floor cs) {H:Nat→Int} {b:Nat} (hb:b<384) (hcb:cs b≠0) (h:Gr.IsField (fun i=>Gr.openB cs 0 (fun _=>false) i=true) (Gr.tgt cs (fun _=>(b:Int)) 1) H) (i:Nat) (hi:i<384) (hci:cs i≠0):0≤H i:=by
 have hw:∀j,cs j≠0→Gr.walkB (cs j)=true:=fun j hj=>(Gn.walk_nz (hf.five j)).2 hj
 refine hf.hang (fun j=>0≤H j) ?_ b hb hcb ?_ i hi hci
 ·intro j e hj he hP hn hc
  exact (h.fwd j hj hP e he hn (by show Gr.openB cs 0 (fun _=>false) _=true;exact Gr.open_past (hw _ hc) (by omega))).1
 ·have:H b=0:=(h.zero b hb).2 ⟨hw b hcb,0,by omega,rfl⟩
  show 0≤H b
  omega

theorem Md.at_stand {c:Nat→Int} {E:Nat→Nat→Int} (hS:Ft.Stands c E) {k:Nat} (hk:k<32) (k0:E k 0≠0):Gr.walkB (Gr.at 384 c (E k 3) (E k 4))=true:=by
 obtain ⟨a1,a2,a3,a4,a5⟩:=hS.on k hk k0
 unfold Gr.at
 rw [if_pos ⟨(Gr.inB_iff _ _).2 (by omega),by omega⟩]
 exact a5


open Go.RowKit

theorem Md.fine_of {c:Nat→Int} {E I:Nat→Nat→Int} (hF:Ft.Fit c E I) (hS:Ft.Set c E):Md.Fine E:=fun k hk k0=>by
 obtain ⟨a,b,d,e,_⟩:=hS.stands.on k hk k0
 have ht:=(hF.rows k hk).taken k0
 exact ⟨a,b,d,e,by omega,by omega⟩

theorem Md.good_fit {c:Nat→Int} {E I:Nat→Nat→Int} (hF:Ft.Fit c E I) (hS:Ft.Set c E):Md.Good c E I :=
 Md.good_of (Md.fine_of hF hS) (fun k hk=>⟨⟨(hF.rows k hk).1,(hF.rows k hk).2.1⟩,fun k0=>by
  rcases (hF.rows k hk).2.2 with hz | ht
  ·exact ⟨hz 3 (by omega) (by omega),hz 4 (by omega) (by omega)⟩
  ·omega⟩) hF.ok


open Go.RowKit

def Cr.Less (E F:Nat→Nat→Int):Prop:=∀k,k<32→F k 0=0∨(F k 0=E k 0∧F k 2=E k 2∧F k 3=E k 3∧F k 4=E k 4∧F k 6=E k 6∧F k 7=E k 7∧F k 8=E k 8)

theorem Cr.Less.refl (E:Nat→Nat→Int):Cr.Less E E:=fun _ _=>.inr ⟨rfl,rfl,rfl,rfl,rfl,rfl,rfl⟩

theorem Cr.Less.trans {E F G:Nat→Nat→Int} (h:Cr.Less E F) (h':Cr.Less F G):Cr.Less E G:=fun k hk=>by
 rcases h' k hk with h0 | ⟨g0,g2,g3,g4,g6,g7,g8⟩
 ·exact .inl h0
 ·rcases h k hk with f0 | ⟨f0,f2,f3,f4,f6,f7,f8⟩
  ·exact .inl (g0.trans f0)
  ·exact .inr ⟨g0.trans f0,g2.trans f2,g3.trans f3,g4.trans f4,g6.trans f6,g7.trans f7,g8.trans f8⟩

theorem Cr.Less.hole (E:Nat→Nat→Int) (k:Nat) (n:Int):Cr.Less E (En.put E k (En.hole n)):=fun i hi=>by
 by_cases e:i=k
 ·rw [e,En.put_same]
  exact .inl rfl
 ·rw [En.put_other e]
  exact Cr.Less.refl E i hi

theorem Cr.Less.set (E:Nat→Nat→Int) (k j:Nat) (v:Int) (hj:j=5∨j=9∨j=10):Cr.Less E (Gd.set E k j v):=fun i _=>by
 have h:∀l,l≠5→l≠9→l≠10→Gd.set E k j v i l=E i l:=fun l h5 h9 h10=>if_neg (by omega)
 exact .inr ⟨h 0 (by omega) (by omega) (by omega),h 2 (by omega) (by omega) (by omega),h 3 (by omega) (by omega) (by omega),h 4 (by omega) (by omega) (by omega),h 6 (by omega) (by omega) (by omega),h 7 (by omega) (by omega) (by omega),h 8 (by omega) (by omega) (by omega)⟩

theorem Cr.Less.hurt (E:Nat→Nat→Int) (k:Nat) (n:Int):Cr.Less E (Ft.hurtE E k n):=by
 unfold Ft.hurtE
 split
 ·exact Cr.Less.set E k 5 _ (.inl rfl)
 ·exact Cr.Less.hole E k _

theorem Cr.Less.leave (s:Nat→Int) (E:Nat→Nat→Int) (f t:Nat):Cr.Less E (Ft.leaveE s E f t):=by
 unfold Ft.leaveE
 split
 ·exact Cr.Less.set E t 9 _ (.inr (.inl rfl))
 ·split
  ·exact Cr.Less.set E t 10 _ (.inr (.inr rfl))
  ·exact Cr.Less.refl E

theorem Cr.Less.hit (s:Nat→Int) (E I:Nat→Nat→Int) (f t:Int):Cr.Less E (Ft.hitE s E I f t):=by
 unfold Ft.hitE
 split
 ·unfold Ft.blowE
  split
  ·exact (Cr.Less.hurt E _ _).trans (Cr.Less.leave s _ _ _)
  ·exact Cr.Less.hurt E _ _
 ·exact Cr.Less.refl E

theorem Cr.Less.one (E:Nat→Nat→Int) (k:Nat):Cr.Less E (Ft.oneE E k):=by
 have hst:Cr.Less E (Ft.stunE E k):=by
  unfold Ft.stunE
  split
  ·exact Cr.Less.set E k 10 _ (.inr (.inr rfl))
  ·exact Cr.Less.refl E
 unfold Ft.oneE
 split
 ·exact (hst.trans (Cr.Less.set _ k 9 _ (.inr (.inl rfl)))).trans (Cr.Less.hurt _ _ _)
 ·exact hst

theorem Cr.Less.ail (E I:Nat→Nat→Int):∀n,Cr.Less E (Ft.ailE E I n).1
 | 0=>Cr.Less.refl E
 | n+1=>by
  unfold Ft.ailE
  split
  ·exact (Cr.Less.ail E I n).trans (Cr.Less.one _ _)
  ·exact Cr.Less.ail E I n

theorem Cr.Less.next (E I:Nat→Nat→Int) (seat input:Int):Cr.Less E (Gd.nextE E I seat input):=by
 unfold Gd.nextE
 split
 ·unfold Gd.entsOf
  split
  ·exact (Cr.Less.set E _ 5 _ (.inl rfl)).trans (Cr.Less.set _ _ 9 _ (.inr (.inl rfl)))
  ·exact Cr.Less.refl E
 ·exact Cr.Less.refl E

structure Cr.Seats (E:Nat→Nat→Int):Prop where
 seat:∀k,k<32→E k 0=1→0≤E k 2∧E k 2<4
 one:∀j k,j<32→k<32→E j 0=1→E k 0=1→E j 2=E k 2→j=k
 none:∀k,k<32→E k 0≠0→E k 0≠1→E k 2=0

structure Cr.Sane (c:Nat→Int) (E I:Nat→Nat→Int):Prop where
 fit:Ft.Fit c E I
 set:Ft.Set c E
 seats:Cr.Seats E

theorem Cr.Less.seats {E F:Nat→Nat→Int} (h:Cr.Less E F) (hs:Cr.Seats E):Cr.Seats F:=by
 refine ⟨fun k hk k1=>?_,fun j k hj hk j1 k1 he=>?_,fun k hk k0 k1=>?_⟩
 ·rcases h k hk with h0 | ⟨f0,f2,_⟩
  ·omega
  ·rw [f2];exact hs.seat k hk (by omega)
 ·rcases h j hj with h0 | ⟨f0,f2,_⟩
  ·omega
  ·rcases h k hk with h0' | ⟨g0,g2,_⟩
   ·omega
   ·exact hs.one j k hj hk (by omega) (by omega) (by omega)
 ·rcases h k hk with h0 | ⟨f0,f2,_⟩
  ·omega
  ·rw [f2];exact hs.none k hk (by omega) (by omega)

theorem Cr.Less.sets {c:Nat→Int} {E F:Nat→Nat→Int} (h:Cr.Less E F) (hs:Ft.Set c E):Ft.Set c F:=by
 refine ⟨fun k hk k0=>?_,⟨fun k hk k0=>?_,fun j k hj hk j0 k0 hx hy=>?_⟩⟩
 ·rcases h k hk with h0 | ⟨f0,_,_,_,f6,f7,f8⟩
  ·exact absurd h0 k0
  ·rw [f0,f6,f7,f8];exact hs.born k hk (by omega)
 ·rcases h k hk with h0 | ⟨f0,_,f3,f4,_⟩
  ·exact absurd h0 k0
  ·rw [f3,f4];exact hs.stands.on k hk (by omega)
 ·rcases h j hj with h0 | ⟨f0,_,f3,f4,_⟩
  ·exact absurd h0 j0
  ·rcases h k hk with h0' | ⟨g0,_,g3,g4,_⟩
   ·exact absurd h0' k0
   ·exact hs.stands.apart j k hj hk (by omega) (by omega) (by omega) (by omega)

theorem Cr.Sane.less {c:Nat→Int} {E F I J:Nat→Nat→Int} (h:Cr.Sane c E I) (hl:Cr.Less E F) (hF:Ft.Fit c F J):Cr.Sane c F J :=
 ⟨hF,hl.sets h.set,hl.seats h.seats⟩

theorem Cr.Sane.hit {c:Nat→Int} {E I:Nat→Nat→Int} (h:Cr.Sane c E I) (s:Nat→Int) (f t:Int):Cr.Sane c (Ft.hitE s E I f t) (Ft.hitI s E I f t) :=
 h.less (Cr.Less.hit s E I f t) (h.fit.hit s f t)

theorem Cr.Sane.good {c:Nat→Int} {E I:Nat→Nat→Int} (h:Cr.Sane c E I):Md.Good c E I:=Md.good_fit h.fit h.set

def Cr.Gold (g:Nat→Int):Prop:=∀t,t<4→0≤g t∧g t≤999

theorem Cr.Sane.fine {c g:Nat→Int} {E I:Nat→Nat→Int} (h:Cr.Sane c E I) (hg:Cr.Gold g):Gd.Fine c g E I :=
 ⟨h.fit.cells,hg,fun k hk=>by
  rcases (h.fit.rows k hk).2.2 with hz | ht
  ·rw [hz 5 (by omega) (by omega)];omega
  ·omega,h.fit.ok⟩

def Cr.go (E:Nat→Nat→Int) (k:Nat) (x y:Int):Nat→Nat→Int:=Gd.set (Gd.set E k 3 x) k 4 y

theorem Cr.go_row (E:Nat→Nat→Int) {k i:Nat} (x y:Int) (h:i≠k):Cr.go E k x y i=E i:=by
 unfold Cr.go
 rw [Ft.set_row _ _ _ _ _ h,Ft.set_row _ _ _ _ _ h]

theorem Cr.go_at (E:Nat→Nat→Int) (k:Nat) (x y:Int) (j:Nat):Cr.go E k x y k j=if j=4 then y else if j=3 then x else E k j:=by
 unfold Cr.go Gd.set
 by_cases h4:j=4
 ·rw [if_pos ⟨rfl,h4⟩,if_pos h4]
 ·rw [if_neg (fun h=>h4 h.2),if_neg h4]
  by_cases h3:j=3
  ·rw [if_pos ⟨rfl,h3⟩,if_pos h3]
  ·rw [if_neg (fun h=>h3 h.2),if_neg h3]

theorem Cr.Sane.go {c:Nat→Int} {E I:Nat→Nat→Int} (h:Cr.Sane c E I) {k:Nat} (hk:k<32) (k0:E k 0≠0) {x y:Int} (hin:Gr.inB x y=true) (hw:Gr.walkB (Gr.at 384 c x y)=true) (hno:En.first (En.atQ E x y) 32<0):Cr.Sane c (Cr.go E k x y) I:=by
 have hb:=(Gr.inB_iff _ _).1 hin
 have hno':=Ft.room_none hno
 have e:∀j,j≠3→j≠4→Cr.go E k x y k j=E k j:=fun j h3 h4=>by rw [Cr.go_at,if_neg h4,if_neg h3]
 have e3:Cr.go E k x y k 3=x:=by rw [Cr.go_at,if_neg (by omega),if_pos rfl]
 have e4:Cr.go E k x y k 4=y:=by rw [Cr.go_at,if_pos rfl]
 have hw':Gr.walkB (c (y*24+x).toNat)=true:=by
  unfold Gr.at at hw
  rwa [if_pos ⟨hin,by omega⟩] at hw
 refine ⟨⟨h.fit.cells,h.fit.ok,fun i hi=>?_⟩,⟨fun i hi i0=>?_,⟨fun i hi i0=>?_,fun i j hi hj i0 j0 hx hy=>?_⟩⟩,⟨fun i hi i1=>?_,fun i j hi hj i1 j1 he=>?_,fun i hi i0 i1=>?_⟩⟩
 ·by_cases x':i=k
  ·rw [x']
   have ht:=(h.fit.rows k hk).taken k0
   refine ⟨by rw [e 1 (by omega) (by omega)];exact (h.fit.rows k hk).1,by rw [e 1 (by omega) (by omega)];exact (h.fit.rows k hk).2.1,.inr ?_⟩
   rw [e 0 (by omega) (by omega),e 5 (by omega) (by omega),e 6 (by omega) (by omega),e 7 (by omega) (by omega),e 8 (by omega) (by omega),e 9 (by omega) (by omega),e 10 (by omega) (by omega)]
   exact ht
  ·rw [Cr.go_row E x y x'];exact h.fit.rows i hi
 ·by_cases x':i=k
  ·rw [x',e 0 (by omega) (by omega),e 6 (by omega) (by omega),e 7 (by omega) (by omega),e 8 (by omega) (by omega)]
   exact h.set.born k hk k0
  ·rw [Cr.go_row E x y x'] at i0 ⊢;exact h.set.born i hi i0
 ·by_cases x':i=k
  ·rw [x',e3,e4]
   exact ⟨hb.1,hb.2.1,hb.2.2.1,hb.2.2.2,hw'⟩
  ·rw [Cr.go_row E x y x'] at i0 ⊢;exact h.set.stands.on i hi i0
 ·by_cases xi:i=k
  ·by_cases xj:j=k
   ·omega
   ·subst xi
    rw [e3,Cr.go_row E x y xj] at hx
    rw [e4,Cr.go_row E x y xj] at hy
    rw [Cr.go_row E x y xj] at j0
    exact absurd ⟨hx.symm,hy.symm⟩ (hno' j hj j0)
  ·by_cases xj:j=k
   ·subst xj
    rw [e3,Cr.go_row E x y xi] at hx
    rw [e4,Cr.go_row E x y xi] at hy
    rw [Cr.go_row E x y xi] at i0
    exact absurd ⟨hx,hy⟩ (hno' i hi i0)
   ·rw [Cr.go_row E x y xi] at i0 hx hy
    rw [Cr.go_row E x y xj] at j0 hx hy
    exact h.set.stands.apart i j hi hj i0 j0 hx hy
 ·by_cases x':i=k
  ·rw [x',e 0 (by omega) (by omega)] at i1
   rw [x',e 2 (by omega) (by omega)]
   exact h.seats.seat k hk i1
  ·rw [Cr.go_row E x y x'] at i1 ⊢;exact h.seats.seat i hi i1
 ·have f0:∀i,Cr.go E k x y i 0=E i 0:=fun i=>by
   by_cases x':i=k
   ·rw [x',e 0 (by omega) (by omega)]
   ·rw [Cr.go_row E x y x']
  have f2:∀i,Cr.go E k x y i 2=E i 2:=fun i=>by
   by_cases x':i=k
   ·rw [x',e 2 (by omega) (by omega)]
   ·rw [Cr.go_row E x y x']
  rw [f0] at i1 j1
  rw [f2,f2] at he
  exact h.seats.one i j hi hj i1 j1 he
 ·by_cases x':i=k
  ·rw [x',e 0 (by omega) (by omega)] at i0 i1
   rw [x',e 2 (by omega) (by omega)]
   exact h.seats.none k hk i0 i1
  ·rw [Cr.go_row E x y x'] at i0 i1 ⊢;exact h.seats.none i hi i0 i1

def Cr.who (E:Nat→Nat→Int) (k:Nat) (d:Int):Int:=En.first (En.atQ E (E k 3+(Fx.way d).1) (E k 4+(Fx.way d).2)) 32

def Cr.act (s c:Nat→Int) (E I:Nat→Nat→Int) (k:Nat) (d:Int) (foe:Bool):(Nat→Nat→Int) × (Nat→Nat→Int) :=
 if d<1∨4<d then (E,I)
 else if 0≤Cr.who E k d then (if decide (E (Cr.who E k d).toNat 0=1)=foe then (Ft.hitE s E I (k:Int) (Cr.who E k d),Ft.hitI s E I (k:Int) (Cr.who E k d)) else (E,I))
 else if Gr.walkB (Gr.at 384 c (E k 3+(Fx.way d).1) (E k 4+(Fx.way d).2))=true then (Cr.go E k (E k 3+(Fx.way d).1) (E k 4+(Fx.way d).2),I) else (E,I)

theorem Cr.walk_in {c:Nat→Int} {x y:Int} (h:Gr.walkB (Gr.at 384 c x y)=true):Gr.inB x y=true:=by
 by_cases hi:Gr.inB x y=true
 ·exact hi
 ·unfold Gr.at at h
  rw [if_neg (fun hh=>hi hh.1)] at h
  cases h

theorem Cr.Sane.act {s c:Nat→Int} {E I:Nat→Nat→Int} (h:Cr.Sane c E I) {k:Nat} (hk:k<32) (k0:E k 0≠0) (d:Int) (foe:Bool):Cr.Sane c (Cr.act s c E I k d foe).1 (Cr.act s c E I k d foe).2:=by
 unfold Cr.act
 split
 ·exact h
 ·split
  ·split
   ·exact h.hit s _ _
   ·exact h
  ·split
   ·rename_i _ hn hw
    exact h.go hk k0 (Cr.walk_in hw) hw (by unfold Cr.who at hn;omega)
   ·exact h

def Cr.join (E:Nat→Nat→Int) (e:Nat→Int):Nat→Nat→Int:=if 0≤En.first (En.freeQ E) 32 then En.put E (En.first (En.freeQ E) 32).toNat (En.gen e ((E (En.first (En.freeQ E) 32).toNat 1+1) % 256)) else E

def Cr.one (kd st:Int) (q:Nat):Nat→Int:=En.upd (En.upd (En.upd (En.stats kd) 2 st) 3 ((q:Int) % 24)) 4 ((q:Int) / 24)

theorem Cr.join_cases (E:Nat→Nat→Int) (e:Nat→Int):Cr.join E e=E∨∃f:Nat,f<32∧E f 0=0∧(∀j,j<f→E j 0≠0)∧Cr.join E e=En.put E f (En.gen e ((E f 1+1) % 256)):=by
 unfold Cr.join
 rcases En.first_cases (En.freeQ E) 32 with ⟨he,_⟩ | ⟨f,hf,he,hq,hno⟩
 ·rw [he,if_neg (by omega)];exact .inl rfl
 ·rw [he,if_pos (by omega),Int.toNat_natCast]
  exact .inr ⟨f,hf,by simpa [En.freeQ] using hq,fun j hj=>by simpa [En.freeQ] using hno j hj,rfl⟩


open Go.RowKit

theorem Md.ok_none (c:Nat→Int):Gd.Ok c 40 (fun _ _=>0):=⟨fun _ _=>.inl ⟨rfl,rfl,rfl,rfl⟩,fun _ _ _ _ _ h=>absurd rfl h⟩

theorem Md.num_cell {m:Nat} (h:m<384):Nv.num ((m:Int) % 24) ((m:Int) / 24)=(m:Int):=by
 unfold Nv.num
 rw [if_pos ((Gr.inB_iff _ _).2 (by omega))]
 omega

theorem Md.set_at (E:Nat→Nat→Int) (k j:Nat) (v:Int):Gd.set E k j v k j=v:=if_pos ⟨rfl,rfl⟩

theorem Md.set_else (E:Nat→Nat→Int) (k j:Nat) (v:Int) {i l:Nat} (h:¬(i=k∧l=j)):Gd.set E k j v i l=E i l:=if_neg h


open Go.RowKit

theorem Cr.one_row {kd st:Int} {q:Nat} {gn:Int} (h1:1≤kd) (h4:kd≤4) (g0:0≤gn) (g9:gn≤255):Ft.Row (En.gen (Cr.one kd st q) gn):=by
 have e:∀j,j≠1→j≠2→j≠3→j≠4→En.gen (Cr.one kd st q) gn j=En.stats kd j:=fun j j1 j2 j3 j4=>by
  show (if j=1 then gn else Cr.one kd st q j)=_
  rw [if_neg j1]
  unfold Cr.one
  rw [En.upd_other j4,En.upd_other j3,En.upd_other j2]
 refine ⟨g0,g9,.inr ?_⟩
 rw [e 0 (by omega) (by omega) (by omega) (by omega),e 5 (by omega) (by omega) (by omega) (by omega),e 6 (by omega) (by omega) (by omega) (by omega),e 7 (by omega) (by omega) (by omega) (by omega),e 8 (by omega) (by omega) (by omega) (by omega),e 9 (by omega) (by omega) (by omega) (by omega),e 10 (by omega) (by omega) (by omega) (by omega)]
 rcases (show kd=1∨kd=2∨kd=3∨kd=4 by omega) with rfl | rfl | rfl | rfl <;> decide

theorem Cr.one_at (kd st:Int) (q:Nat):(1≤kd→kd≤4→Cr.one kd st q 0=kd)∧Cr.one kd st q 2=st∧Cr.one kd st q 3=(q:Int) % 24∧Cr.one kd st q 4=(q:Int) / 24∧Cr.one kd st q 6=En.stats kd 6∧Cr.one kd st q 7=En.stats kd 7∧Cr.one kd st q 8=En.stats kd 8:=by
 unfold Cr.one
 refine ⟨fun h1 h4=>?_,?_,?_,?_,?_,?_,?_⟩
 ·rw [En.upd_other (by omega),En.upd_other (by omega),En.upd_other (by omega)]
  rcases (show kd=1∨kd=2∨kd=3∨kd=4 by omega) with rfl | rfl | rfl | rfl <;> decide
 ·rw [En.upd_other (by omega),En.upd_other (by omega),En.upd_same]
 ·rw [En.upd_other (by omega),En.upd_same]
 ·rw [En.upd_same]
 ·rw [En.upd_other (by omega),En.upd_other (by omega),En.upd_other (by omega)]
 ·rw [En.upd_other (by omega),En.upd_other (by omega),En.upd_other (by omega)]
 ·rw [En.upd_other (by omega),En.upd_other (by omega),En.upd_other (by omega)]

theorem Cr.Sane.join {c:Nat→Int} {E I:Nat→Nat→Int} (h:Cr.Sane c E I) {kd st:Int} {q:Nat} (h1:1≤kd) (h4:kd≤4) (hq:q<384) (hr:Ft.Room c E q) (hs:(kd=1∧0≤st∧st<4∧Gd.hero E st<0)∨(kd≠1∧st=0)):Cr.Sane c (Cr.join E (Cr.one kd st q)) I:=by
 obtain ⟨o0,o2,o3,o4,o6,o7,o8⟩:=Cr.one_at kd st q
 rcases Cr.join_cases E (Cr.one kd st q) with he | ⟨f,hf,hf0,_,he⟩
 ·rw [he];exact h
 rw [he]
 have hg:0≤(E f 1+1) % 256∧(E f 1+1) % 256≤255:=by omega
 generalize (E f 1+1) % 256=gn at hg
 have k0:En.gen (Cr.one kd st q) gn 0=kd:=o0 h1 h4
 have k2:En.gen (Cr.one kd st q) gn 2=st:=o2
 have hset:=h.set.put (e:=Cr.one kd st q) (gn:=gn) hf0 hq hr o3 o4 (by rw [o0 h1 h4];exact ⟨o6,o7,o8⟩)
 have nohero:∀j,j<32→E j 0=1→kd=1→E j 2≠st:=fun j hj j1 hk e=>by
  rcases hs with ⟨_,_,_,hno⟩ | ⟨hn,_⟩
  ·unfold Gd.hero at hno
   rcases En.first_cases (En.heroQ E st) 32 with ⟨_,hn⟩ | ⟨i,_,hi,_⟩
   ·have:=hn j hj
    simp [En.heroQ,j1,e] at this
   ·omega
  ·exact hn hk
 refine ⟨h.fit.put (Cr.one_row h1 h4 hg.1 hg.2),hset,⟨fun j hj j1=>?_,fun i j hi hj i1 j1 hij=>?_,fun j hj j0 j1=>?_⟩⟩
 ·by_cases x:j=f
  ·rw [x,En.put_same,k0] at j1
   rw [x,En.put_same,k2]
   rcases hs with ⟨_,a,b,_⟩ | ⟨hn,_⟩
   ·exact ⟨a,b⟩
   ·exact absurd j1 hn
  ·rw [En.put_other x] at j1 ⊢;exact h.seats.seat j hj j1
 ·by_cases xi:i=f
  ·by_cases xj:j=f
   ·omega
   ·rw [xi,En.put_same,k0] at i1
    rw [xi,En.put_same,k2,En.put_other xj] at hij
    rw [En.put_other xj] at j1
    exact absurd hij.symm (nohero j hj j1 i1)
  ·by_cases xj:j=f
   ·rw [xj,En.put_same,k0] at j1
    rw [xj,En.put_same,k2,En.put_other xi] at hij
    rw [En.put_other xi] at i1
    exact absurd hij (nohero i hi i1 j1)
   ·rw [En.put_other xi] at i1 hij
    rw [En.put_other xj] at j1 hij
    exact h.seats.one i j hi hj i1 j1 hij
 ·by_cases x:j=f
  ·rw [x,En.put_same,k0] at j1
   rw [x,En.put_same,k2]
   rcases hs with ⟨hk,_⟩ | ⟨_,hst⟩
   ·exact absurd hk j1
   ·exact hst
  ·rw [En.put_other x] at j0 j1 ⊢;exact h.seats.none j hj j0 j1

theorem Cr.spot_room {c:Nat→Int} {E:Nat→Nat→Int} {x y:Int} {q:Nat} (h:Nv.IsSpot c E 32 x y (q:Int)):q<384∧Ft.Room c E q:=by
 obtain ⟨F,hF,hq⟩:=h
 have key:∀n,Nv.best F (Nv.st E 32) n=-1∨∃p:Nat,p<n∧Nv.best F (Nv.st E 32) n=(p:Int)∧0≤F p∧Nv.st E 32 p=false:=by
  intro n
  induction n with
  | zero=>exact .inl rfl
  | succ n ih =>
   unfold Nv.best
   split
   ·rename_i hc
    exact .inr ⟨n,by omega,rfl,hc.1,hc.2.1⟩
   ·rcases ih with h0 | ⟨p,hp,he,h1,h2⟩
    ·exact .inl h0
    ·exact .inr ⟨p,by omega,he,h1,h2⟩
 rcases key 384 with h0 | ⟨p,hp,he,h1,h2⟩
 ·omega
 ·obtain rfl:q=p:=by omega
  refine ⟨hp,Nv.reach_walk hF hp h1,?_⟩
  unfold Nv.st at h2
  simp only [decide_eq_false_iff_not] at h2
  have e1:((q % 24:Nat):Int)=(q:Int) % 24:=by omega
  have e2:((q / 24:Nat):Int)=(q:Int) / 24:=by omega
  rw [e1,e2] at h2
  omega

def Cr.Comes (c:Nat→Int) (t:Int) (sp:Bool) (E F:Nat→Nat→Int):Prop :=
 if sp=true∧Gd.hero E t<0 then ∃v,Nv.IsSpot c E 32 (Gr.find 384 c 3 % 24) (Gr.find 384 c 3 / 24) v∧((v<0∧F=E)∨∃q:Nat,v=(q:Int)∧F=Cr.join E (Cr.one 1 t q)) else F=E

theorem Cr.Sane.comes {c:Nat→Int} {t:Int} {sp:Bool} {E F I:Nat→Nat→Int} (h:Cr.Sane c E I) (t0:0≤t) (t4:t<4) (hc:Cr.Comes c t sp E F):Cr.Sane c F I:=by
 unfold Cr.Comes at hc
 split at hc
 ·rename_i hcond
  obtain ⟨v,hv,⟨_,rfl⟩ | ⟨q,rfl,rfl⟩⟩:=hc
  ·exact h
  ·obtain ⟨hq,hr⟩:=Cr.spot_room hv
   exact h.join (by omega) (by omega) hq hr (.inl ⟨rfl,t0,t4,hcond.2⟩)
 ·rw [hc];exact h

def Cr.ComesTo (c:Nat→Int) (sp:Nat→Bool):Nat→(Nat→Nat→Int)→(Nat→Nat→Int)→Prop
 | 0,E,F=>F=E
 | t+1,E,F=>∃G,Cr.ComesTo c sp t E G∧Cr.Comes c (t:Int) (sp t) G F

theorem Cr.Sane.comesTo {c:Nat→Int} {sp:Nat→Bool} {I:Nat→Nat→Int}:∀{t:Nat} {E F:Nat→Nat→Int},Cr.Sane c E I→t≤4→Cr.ComesTo c sp t E F→Cr.Sane c F I
 | 0,_,_,h,_,hc=>by rw [hc];exact h
 | t+1,_,_,h,ht,hc=>by
  obtain ⟨G,hG,hF⟩:=hc
  exact (Cr.Sane.comesTo h (by omega) hG).comes (by omega) (by omega) hF

structure Cr.M where
 g:Nat→Int
 E:Nat→Nat→Int
 I:Nat→Nat→Int
 left:Bool

def Cr.does (s c:Nat→Int) (m:Cr.M) (t:Int) (k:Nat) (v:Int):Cr.M :=
 if 1≤v∧v≤4 then ⟨m.g,(Cr.act s c m.E m.I k v false).1,(Cr.act s c m.E m.I k v false).2,m.left⟩
 else if v=9 then ⟨m.g,m.E,m.I,m.left || decide (Gr.at 384 c (m.E k 3) (m.E k 4)=4)⟩
 else ⟨Gd.nextG c m.g m.E m.I t v,Gd.nextE m.E m.I t v,Gd.nextI c m.g m.E m.I t v,m.left⟩

def Cr.Moved (s c:Nat→Int) (t how input:Int) (m n:Cr.M):Prop :=
 if Gd.hero m.E t<0∨0<m.E (Gd.hero m.E t).toNat 10∨(how≠1∧how≠2) then n=m
 else ∃v,(if how=2 then Md.IsRobot c m.E m.I t v else v=input)∧n=Cr.does s c m t (Gd.hero m.E t).toNat v

def Cr.MFit (c:Nat→Int) (m:Cr.M):Prop:=Cr.Sane c m.E m.I∧Cr.Gold m.g

theorem Cr.goldOf_bd {I:Nat→Nat→Int} {t X Y G v:Int} {shop:Bool} (h0:0≤G) (h9:G≤999):0≤Gd.goldOf I t X Y shop G v∧Gd.goldOf I t X Y shop G v≤999:=by
 unfold Gd.goldOf
 split
 ·split <;> omega
 ·split
  ·split
   ·rename_i hb
    unfold Gd.buys at hb
    simp only [Bool.and_eq_true,decide_eq_true_eq] at hb
    omega
   ·omega
  ·omega

theorem Cr.MFit.next {c:Nat→Int} {m:Cr.M} (h:Cr.MFit c m) (t v:Int):Cr.Sane c (Gd.nextE m.E m.I t v) (Gd.nextI c m.g m.E m.I t v)∧Cr.Gold (Gd.nextG c m.g m.E m.I t v):=by
 obtain ⟨hs,hg⟩:=h
 by_cases hc:0≤t∧t<4∧0≤Gd.hero m.E t
 ·obtain ⟨k,hk,he,hk2,hk1⟩:=Gd.hero_pos hc.2.2
  obtain ⟨a1,a2,a3,a4,a5⟩:=hs.set.stands.on k hk (by omega)
  have hin:Gr.inB (m.E k 3) (m.E k 4)=true:=(Gr.inB_iff _ _).2 ⟨a1,a2,a3,a4⟩
  have hw:=Md.at_stand hs.set.stands hk (by omega)
  have hI:Gd.nextI c m.g m.E m.I t v=Gd.act m.I 40 t (m.E k 3) (m.E k 4) (decide (Gr.at 384 c (m.E k 3) (m.E k 4)=5)) (m.g t.toNat) v:=by
   unfold Gd.nextI
   rw [if_pos hc,he,Int.toNat_natCast]
  have hok:Gd.Ok c 40 (Gd.nextI c m.g m.E m.I t v):=by
   rw [hI]
   exact hs.fit.ok.act hc.1 hc.2.1 hin hw _ _ _
  have hfit:Ft.Fit c (Gd.nextE m.E m.I t v) (Gd.nextI c m.g m.E m.I t v):=by
   refine ⟨hs.fit.cells,hok,fun i hi=>?_⟩
   unfold Gd.nextE
   rw [if_pos hc,he,Int.toNat_natCast]
   unfold Gd.entsOf
   split
   ·have ht:=(hs.fit.rows k hk).taken (by omega)
    by_cases x:i=k
    ·rw [x]
     have e:∀j,j≠5→j≠9→Gd.heal m.E k k j=m.E k j:=fun j h5 h9=>by
      unfold Gd.heal
      rw [Md.set_else _ _ _ _ (by omega),Md.set_else _ _ _ _ (by omega)]
     have e5:Gd.heal m.E k k 5=min (m.E k 5+6) (m.E k 6):=by
      unfold Gd.heal
      rw [Md.set_else _ _ _ _ (by omega),Md.set_at]
     have e9:Gd.heal m.E k k 9=0:=by
      unfold Gd.heal
      rw [Md.set_at]
     refine ⟨by rw [e 1 (by omega) (by omega)];exact (hs.fit.rows k hk).1,by rw [e 1 (by omega) (by omega)];exact (hs.fit.rows k hk).2.1,.inr ?_⟩
     rw [e 0 (by omega) (by omega),e5,e 6 (by omega) (by omega),e 7 (by omega) (by omega),e 8 (by omega) (by omega),e9,e 10 (by omega) (by omega)]
     omega
    ·have:Gd.heal m.E k i=m.E i:=by
      unfold Gd.heal
      rw [Ft.set_row _ _ _ _ _ x,Ft.set_row _ _ _ _ _ x]
     rw [this]
     exact hs.fit.rows i hi
   ·exact hs.fit.rows i hi
  refine ⟨hs.less (Cr.Less.next _ _ _ _) hfit,fun i hi=>?_⟩
  unfold Gd.nextG
  rw [if_pos hc]
  unfold Gd.give
  split
  ·exact Cr.goldOf_bd (hg _ (by omega)).1 (hg _ (by omega)).2
  ·exact hg i hi
 ·unfold Gd.nextE Gd.nextI Gd.nextG
  rw [if_neg hc,if_neg hc,if_neg hc]
  exact ⟨hs,hg⟩

theorem Cr.MFit.does {s c:Nat→Int} {m:Cr.M} (h:Cr.MFit c m) (t:Int) {k:Nat} (hk:k<32) (k0:m.E k 0≠0) (v:Int):Cr.MFit c (Cr.does s c m t k v):=by
 unfold Cr.does
 split
 ·exact ⟨h.1.act hk k0 v false,h.2⟩
 ·split
  ·exact ⟨h.1,h.2⟩
  ·exact h.next t v

theorem Cr.MFit.moved {s c:Nat→Int} {t how input:Int} {m n:Cr.M} (h:Cr.MFit c m) (hm:Cr.Moved s c t how input m n):Cr.MFit c n:=by
 unfold Cr.Moved at hm
 split at hm
 ·rw [hm];exact h
 ·rename_i hc
  obtain ⟨v,_,rfl⟩:=hm
  obtain ⟨k,hk,he,k1,_⟩:=Md.hero_row (E:=m.E) (seat:=t) (by omega)
  rw [he,Int.toNat_natCast]
  exact h.does t hk (by omega) v

def Cr.MovedTo (s c how input:Nat→Int):Nat→Cr.M→Cr.M→Prop
 | 0,m,n=>n=m
 | t+1,m,n=>∃o,Cr.MovedTo s c how input t m o∧Cr.Moved s c (t:Int) (how t) (input t) o n

theorem Cr.MFit.movedTo {s c how input:Nat→Int}:∀{t:Nat} {m n:Cr.M},Cr.MFit c m→Cr.MovedTo s c how input t m n→Cr.MFit c n
 | 0,_,_,h,hm=>by rw [hm];exact h
 | t+1,_,_,h,hm=>by
  obtain ⟨o,ho,hn⟩:=hm
  exact (Cr.MFit.movedTo h ho).moved hn

def Cr.Prowls (s c:Nat→Int) (i:Nat) (E I F J:Nat→Nat→Int):Prop :=
 if E i 0=0∨E i 0=1∨0<E i 10 then F=E∧J=I
 else ∃v,Md.IsMonster s c E (i:Int) v∧F=(Cr.act s c E I i v true).1∧J=(Cr.act s c E I i v true).2

theorem Cr.Sane.prowls {s c:Nat→Int} {i:Nat} {E I F J:Nat→Nat→Int} (h:Cr.Sane c E I) (hi:i<32) (hp:Cr.Prowls s c i E I F J):Cr.Sane c F J:=by
 unfold Cr.Prowls at hp
 split at hp
 ·rw [hp.1,hp.2];exact h
 ·rename_i hc
  obtain ⟨v,_,rfl,rfl⟩:=hp
  exact h.act hi (by omega) v true

def Cr.ProwlTo (s c:Nat→Int):Nat→(Nat→Nat→Int)→(Nat→Nat→Int)→(Nat→Nat→Int)→(Nat→Nat→Int)→Prop
 | 0,E,I,F,J=>F=E∧J=I
 | i+1,E,I,F,J=>∃G K,Cr.ProwlTo s c i E I G K∧Cr.Prowls s c i G K F J

theorem Cr.Sane.prowlTo {s c:Nat→Int}:∀{i:Nat} {E I F J:Nat→Nat→Int},Cr.Sane c E I→i≤32→Cr.ProwlTo s c i E I F J→Cr.Sane c F J
 | 0,_,_,_,_,h,_,hp=>by rw [hp.1,hp.2];exact h
 | i+1,_,_,_,_,h,hi,hp=>by
  obtain ⟨G,K,hG,hF⟩:=hp
  exact (Cr.Sane.prowlTo h (by omega) hG).prowls (by omega) hF

def Cr.manned (E:Nat→Nat→Int):Bool:=decide (∃t:Nat,t<4∧0≤Gd.hero E (t:Int))

def Cr.rats (s c:Nat→Int) (E:Nat→Nat→Int):Nat→Nat→Int :=
 if s 1 % 16=0∧En.first (En.atQ E (Gr.find 384 c 3 % 24) (Gr.find 384 c 3 / 24)) 32<0 then Cr.join E (Cr.one 2 0 (Gr.find 384 c 3).toNat) else E

theorem Cr.up_stair {c:Nat→Int} (hF:Nv.Floor c):∃u:Nat,u<384∧Gr.find 384 c 3=(u:Int)∧c u=3∧∀i,c i=3→i=u:=by
 obtain ⟨u,v,hu,_,h3,_⟩:=hF.stairs
 refine ⟨u,hu,?_,(h3 u).2 rfl,fun i hi=>(h3 i).1 hi⟩
 have key:∀n k:Nat,k≤u→u<k+n→Gr.findFrom c 3 n k=(u:Int):=by
  intro n
  induction n with
  | zero=>intro k h1 h2;omega
  | succ n ih =>
   intro k h1 h2
   unfold Gr.findFrom
   by_cases e:c k=3
   ·rw [if_pos e,(h3 k).1 e]
   ·rw [if_neg e]
    refine ih (k+1) ?_ (by omega)
    by_cases ek:k=u
    ·exact absurd ((h3 k).2 ek) e
    ·omega
 exact key 384 0 (by omega) (by omega)

theorem Cr.Sane.rats {s c:Nat→Int} {E I:Nat→Nat→Int} (h:Cr.Sane c E I) (hF:Nv.Floor c):Cr.Sane c (Cr.rats s c E) I:=by
 unfold Cr.rats
 split
 ·rename_i hc
  obtain ⟨u,hu,hfu,hcu,_⟩:=Cr.up_stair hF
  rw [hfu] at hc
  rw [hfu,Int.toNat_natCast]
  exact h.join (by omega) (by omega) hu ⟨by rw [hcu];rfl,hc.2⟩ (.inr ⟨by omega,rfl⟩)
 ·exact h

theorem Cr.Sane.ail {c:Nat→Int} {E I:Nat→Nat→Int} (h:Cr.Sane c E I):Cr.Sane c (Ft.ailE E I 32).1 (Ft.ailE E I 32).2 :=
 h.less (Cr.Less.ail E I 32) (h.fit.ail 32 (by omega))


open Go.RowKit

namespace Gn

theorem nodup_inj {l:List Nat} (h:l.Nodup) {i j:Nat} (hi:i<l.length) (hj:j<l.length) (e:l[i]=l[j]):i=j:=by
 rcases Nat.lt_trichotomy i j with g | g | g
 ·exact absurd e (List.pairwise_iff_getElem.1 h i j hi hj g)
 ·exact g
 ·exact absurd e.symm (List.pairwise_iff_getElem.1 h j i hj hi g)

theorem erase_mem {l:List Nat} {n x:Nat} (hl:l.Nodup) (hn:n<l.length) (h:x∈l.eraseIdx n):x≠l[n]?.getD 0:=by
 intro e
 rw [List.getElem?_eq_getElem hn] at e
 obtain ⟨i,hi,hx⟩:=List.getElem_of_mem h
 have hle:(l.eraseIdx n).length=l.length - 1:=by rw [List.length_eraseIdx,if_pos hn]
 rw [List.getElem_eraseIdx] at hx
 rw [e] at hx
 simp only [Option.getD_some] at hx
 split at hx
 ·have:=nodup_inj hl _ _ hx
  omega
 ·have:=nodup_inj hl _ _ hx
  omega

theorem pick_lt {d:Dice} (hd:Fair d) (a:Int) {l:List Nat} (hl:l.length≠0):(d a 0 (l.length:Int)).toNat<l.length:=by
 have:=hd a 0 (l.length:Int) (by omega)
 omega

theorem pick_mem {l:List Nat} {n:Nat} (hn:n<l.length):l[n]?.getD 0∈l:=by
 rw [List.getElem?_eq_getElem hn]
 exact List.getElem_mem hn

theorem mons_all {d:Dice} (hd:Fair d) (f:Int) (h1:1≤f):∀(m k:Nat) (l:List Nat) (p:Int × Nat),p∈mons d f m k l→p.2∈l∧2≤p.1∧p.1≤4
 | 0,_,_,_,h=>by cases h
 | m+1,k,l,p,h=>by
  unfold mons at h
  split at h
  ·cases h
  ·rename_i hl
   have hn:=pick_lt hd (7+(k:Int)) hl
   rcases List.mem_cons.1 h with rfl | h
   ·refine ⟨pick_mem hn,?_⟩
    have hM:1≤(if 3<f+1 then (3:Int) else f+1)∧(if 3<f+1 then (3:Int) else f+1)≤3:=by split <;> omega
    have:=hd (16+(k:Int)) 1 (if 3<f+1 then 3 else f+1) hM.1
    show 2≤kind d f k∧kind d f k≤4
    unfold kind
    omega
   ·have ih:=mons_all hd f h1 m (k+1) _ p h
    exact ⟨List.mem_of_mem_eraseIdx ih.1,ih.2⟩

theorem mons_apart {d:Dice} (hd:Fair d) (f:Int) (h1:1≤f):∀(m k:Nat) (l:List Nat),l.Nodup→(mons d f m k l).Pairwise (fun p q=>p.2≠q.2)
 | 0,_,_,_=>List.Pairwise.nil
 | m+1,k,l,hl=>by
  unfold mons
  split
  ·exact List.Pairwise.nil
  ·rename_i h0
   have hn:=pick_lt hd (7+(k:Int)) h0
   refine List.Pairwise.cons (fun q hq=>?_) (mons_apart hd f h1 m (k+1) _ (hl.sublist (List.eraseIdx_sublist l _)))
   have:=(mons_all hd f h1 m (k+1) _ q hq).1
   exact (erase_mem hl hn this).symm

theorem those_nodupS (p:Nat→Bool) (n:Nat):(those p n).Nodup:=List.Nodup.sublist List.filter_sublist List.nodup_range

theorem those_mem {p:Nat→Bool} {n i:Nat} (h:i∈those p n):i<n∧p i=true:=by
 have:=List.mem_filter.1 h
 exact ⟨List.mem_range.1 this.1,this.2⟩

theorem ents_at {d:Dice} (hd:Fair d) {f:Int} (h1:1≤f) {c F:Nat→Int} {i:Nat} {p:Int × Nat} (h:(ents d f c F)[i]?=some p):2≤p.1∧p.1≤4∧p.2<384∧c p.2=1∧4≤F p.2:=by
 have hm:=List.mem_of_getElem? h
 obtain ⟨h2,h3,h4⟩:=mons_all hd f h1 _ _ _ p hm
 obtain ⟨h5,h6⟩:=List.mem_filter.1 h2
 obtain ⟨h7,h8⟩:=those_mem h5
 refine ⟨h3,h4,h7,by simpa using h8,?_⟩
 unfold afar at h6
 simp at h6
 exact h6

theorem pair_at {α:Type} {R:α→α→Prop} {l:List α} (h:l.Pairwise R) {i j:Nat} {p q:α} (hij:i<j) (hp:l[i]?=some p) (hq:l[j]?=some q):R p q:=by
 obtain ⟨h1,rfl⟩:=List.getElem?_eq_some_iff.1 hp
 obtain ⟨h2,rfl⟩:=List.getElem?_eq_some_iff.1 hq
 exact List.pairwise_iff_getElem.1 h i j h1 h2 hij

theorem lie_all {d:Dice} (hd:Fair d):∀(m k:Nat) (l:List Nat) (p:Itm),p∈lie d m k l→∃(K:Int) (cl:Nat),p=(K,1,(cl:Int) % 24,(cl:Int) / 24)∧cl∈l∧1≤K∧K≤4
 | 0,_,_,_,h=>by cases h
 | m+1,k,l,p,h=>by
  unfold lie at h
  split at h
  ·cases h
  ·rename_i hl
   have hn:=pick_lt hd (40+(k:Int)) hl
   rcases List.mem_cons.1 h with rfl | h
   ·have:=hd (40+(k:Int)) 1 4 (by omega)
    exact ⟨_,_,rfl,pick_mem hn,by omega,by omega⟩
   ·obtain ⟨K,cl,he,hc,hk⟩:=lie_all hd m (k+1) _ p h
    exact ⟨K,cl,he,List.mem_of_mem_eraseIdx hc,hk⟩

theorem lie_apart {d:Dice} (hd:Fair d):∀(m k:Nat) (l:List Nat),l.Nodup→(lie d m k l).Pairwise (fun p q=>¬(p.2.2.1=q.2.2.1∧p.2.2.2=q.2.2.2))
 | 0,_,_,_=>List.Pairwise.nil
 | m+1,k,l,hl=>by
  unfold lie
  split
  ·exact List.Pairwise.nil
  ·rename_i h0
   have hn:=pick_lt hd (40+(k:Int)) h0
   refine List.Pairwise.cons (fun q hq=>?_) (lie_apart hd m (k+1) _ (hl.sublist (List.eraseIdx_sublist l _)))
   obtain ⟨K,cl,rfl,hc,_⟩:=lie_all hd m (k+1) _ q hq
   have:=erase_mem hl hn hc
   rintro ⟨e1,e2⟩
   simp only at e1 e2
   omega

def lying (d:Dice) (c:Nat→Int):Nat:=(lie d 4 0 (those (fun i=>c i == 1) 384)).length

theorem items_lie {d:Dice} (hd:Fair d) {c:Nat→Int} {i:Nat} {p:Itm} (hi:i<lying d c) (h:(items d c)[i]?=some p):∃(K:Int) (cl:Nat),p=(K,1,(cl:Int) % 24,(cl:Int) / 24)∧cl<384∧c cl=1∧1≤K∧K≤4:=by
 unfold items at h
 rw [List.getElem?_append_left hi] at h
 obtain ⟨K,cl,he,hc,hk⟩:=lie_all hd _ _ _ p (List.mem_of_getElem? h)
 obtain ⟨h7,h8⟩:=those_mem hc
 exact ⟨K,cl,he,h7,by simpa using h8,hk⟩

theorem items_apart {d:Dice} (hd:Fair d) {c:Nat→Int} {i j:Nat} {p q:Itm} (hij:i<j) (hj:j<lying d c) (hp:(items d c)[i]?=some p) (hq:(items d c)[j]?=some q):¬(p.2.2.1=q.2.2.1∧p.2.2.2=q.2.2.2):=by
 unfold items at hp hq
 rw [List.getElem?_append_left (by unfold lying at hj;omega)] at hp
 rw [List.getElem?_append_left hj] at hq
 exact pair_at (lie_apart hd 4 0 _ (those_nodupS _ _)) hij hp hq

theorem items_len (d:Dice) (c:Nat→Int):(items d c).length=lying d c+(if Gr.find 384 c 5<0 then 0 else 3)∧lying d c≤4:=by
 unfold items lying
 rw [List.length_append]
 refine ⟨?_,lie_len d 4 0 _⟩
 split <;> rfl

theorem flat_at (es:List (Int × Nat)):∀(i j:Nat) (p:Int × Nat),es[i]?=some p→j<11→(flat es)[i*11+j]?=(entCells p)[j]?:=by
 induction es with
 | nil=>intro i j p h;simp at h
 | cons q es ih =>
  intro i j p h hj
  have hf:flat (q :: es)=entCells q ++ flat es:=rfl
  have hq:(entCells q).length=11:=rfl
  rw [hf]
  cases i with
  | zero =>
   simp only [List.getElem?_cons_zero,Option.some.injEq] at h
   rw [List.getElem?_append_left (by omega),h]
   congr 1
   omega
  | succ i =>
   rw [List.getElem?_cons_succ] at h
   rw [List.getElem?_append_right (by omega),hq,show (i+1)*11+j - 11=i*11+j by omega]
   exact ih i j p h hj

theorem flatI_at (es:List Itm):∀(i j:Nat) (p:Itm),es[i]?=some p→j<4→(flatI es)[i*4+j]?=(itemCells p)[j]?:=by
 induction es with
 | nil=>intro i j p h;simp at h
 | cons q es ih =>
  intro i j p h hj
  have hf:flatI (q :: es)=itemCells q ++ flatI es:=rfl
  have hq:(itemCells q).length=4:=rfl
  rw [hf]
  cases i with
  | zero =>
   simp only [List.getElem?_cons_zero,Option.some.injEq] at h
   rw [List.getElem?_append_left (by omega),h]
   congr 1
   omega
  | succ i =>
   rw [List.getElem?_cons_succ] at h
   rw [List.getElem?_append_right (by omega),hq,show (i+1)*4+j - 4=i*4+j by omega]
   exact ih i j p h hj

end Gn

theorem ents_cells {w : World} {b nE cE : Nat} {aE : Option Addr} {es : List (Int × Nat)} (h : w.ownsRow b 42 11 (.slice aE nE cE) nE (Gn.flat es)) {i : Nat} {p : Int × Nat} (hp : es[i]? = some p) (hi : i < nE) :
    ∃g,aE=some ⟨g,0,none⟩∧g<w.heap.size∧∀j,j<11→w.cell? ⟨g,i*11+j,none⟩=(Gn.entCells p)[j]?:=by
  rcases h.2 with ⟨h',h0⟩ | ⟨g,cap,cur,h',_,hg,_⟩
  · omega
  · simp only [Value.slice.injEq] at h'
    obtain ⟨rfl,_,rfl⟩:=h'
    refine ⟨g,rfl,lt_of_block hg,fun j hj=>?_⟩
    rw [h.cellAt (i*11+j) (by omega)]
    exact Gn.flat_at es i j p hp hj

theorem items_cells {w : World} {b nE cE : Nat} {aE : Option Addr} {es : List Gn.Itm} (h : w.ownsRow b 47 4 (.slice aE nE cE) nE (Gn.flatI es)) {i : Nat} {p : Gn.Itm} (hp : es[i]? = some p) (hi : i < nE) :
    ∃g,aE=some ⟨g,0,none⟩∧g<w.heap.size∧∀j,j<4→w.cell? ⟨g,i*4+j,none⟩=(Gn.itemCells p)[j]?:=by
  rcases h.2 with ⟨h',h0⟩ | ⟨g,cap,cur,h',_,hg,_⟩
  · omega
  · simp only [Value.slice.injEq] at h'
    obtain ⟨rfl,_,rfl⟩:=h'
    refine ⟨g,rfl,lt_of_block hg,fun j hj=>?_⟩
    rw [h.cellAt (i*4+j) (by omega)]
    exact Gn.flatI_at es i j p hp hj


open Go.RowKit

theorem Lie.elevenInts {x : World} {B : Nat} {T : TypeId} {e : Nat → Int} (h : Lie x B T 11 (Ints e)) :
    x.cell? ⟨B,0,none⟩=some (.int .i64 (e 0))∧x.cell? ⟨B,1,none⟩=some (.int .i64 (e 1))∧x.cell? ⟨B,2,none⟩=some (.int .i64 (e 2))∧x.cell? ⟨B,3,none⟩=some (.int .i64 (e 3))∧x.cell? ⟨B,4,none⟩=some (.int .i64 (e 4))∧x.cell? ⟨B,5,none⟩=some (.int .i64 (e 5))∧x.cell? ⟨B,6,none⟩=some (.int .i64 (e 6))∧x.cell? ⟨B,7,none⟩=some (.int .i64 (e 7))∧x.cell? ⟨B,8,none⟩=some (.int .i64 (e 8))∧x.cell? ⟨B,9,none⟩=some (.int .i64 (e 9))∧x.cell? ⟨B,10,none⟩=some (.int .i64 (e 10)) :=
  ⟨h.cell (c:=0) (by omega),h.cell (c:=1) (by omega),h.cell (c:=2) (by omega),h.cell (c:=3) (by omega),h.cell (c:=4) (by omega),h.cell (c:=5) (by omega),h.cell (c:=6) (by omega),h.cell (c:=7) (by omega),h.cell (c:=8) (by omega),h.cell (c:=9) (by omega),h.cell (c:=10) (by omega)⟩

set_option maxRecDepth 8000 in
set_option maxHeartbeats 3200000 in
theorem mFoe_any (E : Nat → Nat → Int) (e : Nat → Int) (gE cE : Nat) (w : World) (hE : Own w gE 32 E) (hcE : 32 ≤ cE) (x0 : 0 ≤ e 3) (x9 : e 3 < 24) (y0 : 0 ≤ e 4) (y9 : e 4 < 16) :
    Calls Tryz.prog 187 #[.slice (some ⟨gE,0,none⟩) 32 cE,.agg (En.cells e)] w (Says w (.int .i64 (Nv.wayFrom (Md.foe E (e 3) (e 4)) 4 1))):=by
  obtain ⟨w0,hw0⟩:∃w0,w0=w.alloc (.cells (En.cells e) 42):=⟨_,rfl⟩
  have hg0:Hid (w.grownBy w0 none):=by rw [hw0];exact World.grownBy_alloc _ _ _
  have hQ:Hid (Lie w0 w.heap.size 42 11 (Ints e)):=by rw [hw0];exact Lie.copied _ _ _
  have hE0:=hide (hE.ents.on (uh hg0))
  have ca:Hid (∀(d:Nat) (wq:World),Calls Tryz.prog 179 #[.agg (En.cells e),.int .i64 (d:Int)] wq fun x w'=>(∃a b,x=.returned (.complex .f64 a b)∧Fl.Rep a (e 3+(Fx.way (d:Int)).1)∧Fl.Rep b (e 4+(Fx.way (d:Int)).2))∧wq.grownBy w' none):=fun d wq=>mAhead_any e d wq x0 x9 y0 y9
  have hcE':=hide hcE
  obtain ⟨x,hx⟩:∃x,e 3=x:=⟨_,rfl⟩
  obtain ⟨y,hy⟩:∃y,e 4=y:=⟨_,rfl⟩
  have hK:Hid (∀z,w0.grownBy z none→z.cell? ⟨w.heap.size,0,none⟩=some (.int .i64 (e 0))∧z.cell? ⟨w.heap.size,1,none⟩=some (.int .i64 (e 1))∧z.cell? ⟨w.heap.size,2,none⟩=some (.int .i64 (e 2))∧z.cell? ⟨w.heap.size,3,none⟩=some (.int .i64 x)∧z.cell? ⟨w.heap.size,4,none⟩=some (.int .i64 y)∧z.cell? ⟨w.heap.size,5,none⟩=some (.int .i64 (e 5))∧z.cell? ⟨w.heap.size,6,none⟩=some (.int .i64 (e 6))∧z.cell? ⟨w.heap.size,7,none⟩=some (.int .i64 (e 7))∧z.cell? ⟨w.heap.size,8,none⟩=some (.int .i64 (e 8))∧z.cell? ⟨w.heap.size,9,none⟩=some (.int .i64 (e 9))∧z.cell? ⟨w.heap.size,10,none⟩=some (.int .i64 (e 10))):=fun z hz=>by
    rw [←hx,←hy]
    exact ((uh hQ).on hz).elevenInts
  unfold En.cells at hw0 ca ⊢
  rw [hx,hy] at ca
  rw [hx] at x0 x9
  rw [hy] at y0 y9
  rw [hx,hy] at hw0 ⊢
  clear hQ hE hcE hx hy
  go_enter Tryz.func187,Tryz.ntmps187
  go_upto_region 1 with fail
  rw [←hw0]
  clear hw0
  obtain ⟨B,hB⟩:∃B,w.heap.size=B:=⟨_,rfl⟩
  rw [hB] at hK ⊢
  clear hB
  go_wp2_with fail
  go_loopw [5,6,7,8] (fun v5 v6 v7 v8 wr=>∃d:Nat,1≤d∧d≤5∧v5=.int .i64 (d:Int)∧Hid (w0.grownBy wr none)∧Hid (∀j,1≤j→j<d→Md.foe E x y j=false)) (fun v5 _ _ _ _=>10 - (intOf v5).toNat)
  case atStart=>exact ⟨1,by omega,by omega,rfl,World.grownBy.refl _ _,fun j h1 h2=>by omega⟩
  case round =>
    obtain ⟨d,hd1,hd5,rfl,hgr,hno⟩:=hrel
    by_cases hlt:d≤4
    · have hlt':(d:Int)≤4:=by omega
      have HD:=hide (show 1≤d∧d≤4 from ⟨hd1,hlt⟩)
      obtain ⟨s1,s2,s3,s4⟩:=Md.way_small d
      have cat:Hid (∀z,w0.grownBy z none→Calls Tryz.prog 69 #[.slice (some ⟨gE,0,none⟩) 32 cE,.int .i64 (x+(Fx.way (d:Int)).1),.int .i64 (y+(Fx.way (d:Int)).2)] z (Says z (.int .i64 (Md.who E x y d)))):=fun z hz=>entAt_any gE 32 cE E _ _ z ((uh hE0).on hz) (uh hcE')
      have hwho:=hide (@Md.who_row E x y d)
      have hfd:Hid (Md.foe E x y d=(decide (0≤Md.who E x y d) && !(decide (E (Md.who E x y d).toNat 0=1)))):=rfl
      have cad:=hide (fun wq=>uh ca d wq)
      obtain ⟨X,hX⟩:∃X,x+(Fx.way (d:Int)).1=X:=⟨_,rfl⟩
      obtain ⟨Y,hY⟩:∃Y,y+(Fx.way (d:Int)).2=Y:=⟨_,rfl⟩
      obtain ⟨h,hh⟩:∃z,Md.who E x y d=z:=⟨_,rfl⟩
      have bX:-1≤X∧X≤24:=by omega
      have bY:-1≤Y∧Y≤16:=by omega
      rw [hX,hY] at cad cat
      rw [hh] at cat hwho hfd
      clear hX hY hh s1 s2 s3 s4 hd1 hd5 hlt x0 x9 y0 y9
      obtain ⟨k0,k1,k2,k3,k4,k5,k6,k7,k8,k9,k10⟩:=uh hK _ (uh hgr)
      go_wp2_with fail
      refine (uh cad _).mono ?_
      rintro xx w1 ⟨⟨a,b,rfl,Ra,Rb⟩,hg⟩
      have hg1:=hide (gtr (uh hgr) hg)
      have cp:=hide (fun wq=>mParts_any a b X Y wq Ra Rb (by omega) (by omega) (by omega) (by omega))
      clear hg Ra Rb k0 k1 k2 k3 k4 k5 k6 k7 k8 k9 k10 bX bY
      go_wp2_with fail
      refine (uh cp _).mono ?_
      rintro xx wy ⟨rfl,hw⟩
      subst wy
      clear cp
      go_wp2_with fail
      refine (uh cat _ (uh hg1)).mono ?_
      rintro xx w2 ⟨rfl,hg⟩
      have hg2:=hide (gtr (uh hg1) hg)
      clear hg cat cad
      rcases uh hwho with rfl | ⟨j,hj,rfl⟩
      · have hf:Hid (Md.foe E x y d=false):=(show Md.foe E x y d=false by rw [uh hfd];rfl)
        clear hfd hwho
        go_wp2
        go_roundw
        case rel=>exact ⟨d+1,by omega,by have:=uh HD;omega,by go_num,hg2,fun j h1 h2=>by
          by_cases e:j=d
          · rw [e];exact uh hf
          · exact uh hno j h1 (by omega)⟩
        case measure=>simp [intOf];have:=uh HD;omega
      · have u0:=(((uh hE0).on (uh hg2)).row hj).1
        have hj':(j:Int)<32:=by omega
        rw [Int.toNat_natCast] at hfd
        by_cases h1:E j 0=1
        · have hf:Hid (Md.foe E x y d=false):=(show Md.foe E x y d=false by rw [uh hfd,h1];simp)
          rw [h1] at u0
          clear hfd hwho h1 hj
          go_wp2
          go_roundw
          case rel=>exact ⟨d+1,by omega,by have:=uh HD;omega,by go_num,hg2,fun j h1 h2=>by
            by_cases e:j=d
            · rw [e];exact uh hf
            · exact uh hno j h1 (by omega)⟩
          case measure=>simp [intOf];have:=uh HD;omega
        · have hf:Hid (Md.foe E x y d=true):=(show Md.foe E x y d=true by rw [uh hfd];simp [h1])
          have h1':(E j 0 == 1)=false:=by simpa using h1
          have hw:Hid (Nv.wayFrom (Md.foe E x y) 4 1=(d:Int)):=Nv.way_hit 4 d 1 (uh hno) (uh hf) (uh HD).1 (by have:=(uh HD).2;omega)
          have hfin:Hid (Says w (.int .i64 (Nv.wayFrom (Md.foe E x y) 4 1)) (.returned (.int .i64 (d:Int))) w2):=⟨by rw [uh hw],gtr (uh hg0) (uh hg2)⟩
          clear hfd hwho h1 hj hw hf
          go_wp2
          go_ret
          exact uh hfin
    · obtain rfl:d=5:=by omega
      have hge:¬((5:Nat):Int)≤4:=by omega
      have hw:Hid (Nv.wayFrom (Md.foe E x y) 4 1=0):=Nv.way_none 4 1 fun j h1 h2=>uh hno j h1 (by omega)
      have hfin:Hid (Says w (.int .i64 (Nv.wayFrom (Md.foe E x y) 4 1)) (.returned (.int .i64 0)) wr):=⟨by rw [uh hw],gtr (uh hg0) (uh hgr)⟩
      clear hlt hd1 hd5 hno hw
      go_wp2
      go_ret
      exact uh hfin

end Go.Proofs.YtbanjoflgoiegabGreat
