import Derived.Test.YtapgkgbpekkdjaaPart37
import Derived.Test.YtapgkgbpekkdjaaPart29
import Derived.Test.YtapgkgbpekkdjaaPart24
import Derived.Deep.Fields
namespace Go.Proofs.Ytapgkgbpekkdjaa
open Go.RowKit

structure Nv.Floor (c:Nat→Int):Prop where
 five:∀i,0≤c i∧c i≤5
 some:∃i,i<384∧c i≠0
 hang:∀P,Gn.Closed c P→∀k,k<384→c k≠0→P k→∀i,i<384→c i≠0→P i
 stairs:∃u v,u<384∧v<384∧(∀i,c i=3↔i=u)∧(∀i,c i=4↔i=v)

theorem Nv.to_up {d:Gn.Dice} (hd:Gn.Fair d) {c F:Nat→Int} {far:Nat} (h:Gn.Facts d c F far) {P:Nat→Prop} (hC:Gn.Closed c P):∀(n k:Nat),k<384→c k≠0→P k→F k=(n:Int)→P (Gn.up d):=by
 intro n
 induction n with
 | zero =>
  intro k hk _ hP e
  rw [←(h.fld.zero k hk).1 e]
  exact hP
 | succ n ih =>
  intro k hk hck hP e
  obtain ⟨_,j,dd,hj,hdd,hn,rfl,he⟩:=h.fld.back k hk (by omega)
  obtain ⟨b1,b2⟩:=Gr.nb_back hj hdd hn
  have hcj:c j≠0:=(h.reach hd j hj).1 (by omega)
  refine ih j hj hcj ?_ (by omega)
  have:=hC (Gr.nbOf j dd) (Gr.opp dd) hk (Gr.opp_lt hdd) hP b1 (by rw [b2];exact hcj)
  rwa [b2] at this

theorem Nv.floor_of {d:Gn.Dice} (hd:Gn.Fair d) {c F:Nat→Int} (h:Gn.IsLevel d c F):Nv.Floor c:=by
 obtain ⟨far,hf⟩:=h.facts hd
 refine ⟨hf.five,⟨far,hf.farl,by have:=(hf.is4 far).2 rfl;omega⟩,fun P hC k hk hck hP i hi hci=>?_,⟨Gn.up d,far,hf.upl,hf.farl,hf.is3,hf.is4⟩⟩
 have h0:=(hf.reach hd k hk).2 hck
 have hup:=Nv.to_up hd hf hC (F k).toNat k hk hck hP (by omega)
 exact Gn.hangs hd (fun j _=>hf.nz j) hC hup i hi hci


open Go.RowKit

theorem madeCells_item (n c:Nat) (hc:c<n*4):(madeCells (Value.agg #[.int .i64 0,.int .i64 0,.int .i64 0,.int .i64 0]).cells (n*4))[c]?=some (.int .i64 0):=by
 have hm:c % 4<4:=by omega
 obtain ⟨m,hmm⟩:∃m,m=c % 4:=⟨_,rfl⟩
 unfold madeCells
 simp [hc,Value.cells]
 rw [←hmm] at hm ⊢
 rcases (show m=0∨m=1∨m=2∨m=3 by omega) with rfl | rfl | rfl | rfl <;> rfl

theorem make40:∃Z:Array Value,(∀w:World,(Instr.makeSlice 23 (.int .i64 40) (.int .i64 40)).run Try.prog w=.ok (.slice (some ⟨w.heap.size,0,none⟩) 40 40) (w.alloc (.cells Z 47))) ∧
  ∀w:World,Lie (w.alloc (.cells Z 47)) w.heap.size 47 160 (Gd.flat (fun _ _=>0)):=by
 obtain ⟨i0,hi,hz0,hz1,hz2⟩:=info_parts info_item
 refine ⟨madeCells (Value.agg #[.int .i64 0,.int .i64 0,.int .i64 0,.int .i64 0]).cells (40*4),fun w=>?_,fun w=>?_⟩
 ·have hr:=run_make (P:=Try.prog) w 23 47 i0 _ Try.underlying23 hi hz0 .i64 .i64 (40:Nat) (40:Nat) (by omega) (by omega) (by rw [hz2];decide) (by decide)
  rw [hz1] at hr
  exact hr
 ·refine ⟨_,_,Arr.lit (heap_alloc_new w _),by rw [size_madeCells];omega,fun c hc=>?_⟩
  show (madeCells _ _)[c]?.getD undef=_
  rw [madeCells_item 40 c hc]
  rfl

theorem Lie.type_ne {x:World} {B G:Nat} {T U:TypeId} {m n:Nat} {F K:Nat→Value} (h1:Lie x B T m F) (h2:Lie x G U n K) (h:T≠U):B≠G:=by
 rintro rfl
 obtain ⟨_,_,⟨c1,e1,_⟩,_⟩:=h1
 obtain ⟨_,_,⟨c2,e2,_⟩,_⟩:=h2
 rw [e1] at e2
 simp only [Option.some.injEq,Obj.cells.injEq] at e2
 exact h e2.2.1


open Go.RowKit

namespace Ft

def Row (e:Nat→Int):Prop:=0≤e 1∧e 1≤255 ∧
 ((∀j,j<11→j≠1→e j=0)∨(1≤e 0∧e 0≤4∧1≤e 5∧e 5≤e 6∧e 6≤20∧0≤e 7∧e 7≤5∧0≤e 8∧e 8≤1∧0≤e 9∧e 9≤9∧0≤e 10∧e 10≤9))

structure Fit (c:Nat→Int) (E I:Nat→Nat→Int):Prop where
 cells:∀i,0≤c i∧c i≤255
 ok:Gd.Ok c 40 I
 rows:∀k,k<32→Row (E k)

theorem Row.taken {e:Nat→Int} (h:Row e) (h0:e 0≠0):1≤e 0∧e 0≤4∧1≤e 5∧e 5≤e 6∧e 6≤20∧0≤e 7∧e 7≤5∧0≤e 8∧e 8≤1∧0≤e 9∧e 9≤9∧0≤e 10∧e 10≤9:=by
 rcases h.2.2 with hz | ht
 ·exact absurd (hz 0 (by omega) (by omega)) h0
 ·exact ht

theorem Fit.put {c:Nat→Int} {E I:Nat→Nat→Int} (h:Fit c E I) {k:Nat} {e:Nat→Int} (he:Row e):Fit c (En.put E k e) I :=
 ⟨h.cells,h.ok,fun i hi=>by
  by_cases x:i=k
  ·rw [x,En.put_same];exact he
  ·rw [En.put_other x];exact h.rows i hi⟩

end Ft


open Go.RowKit

def En.upd (e:Nat→Int) (j:Nat) (v:Int):Nat→Int:=fun l=>if l=j then v else e l

theorem En.upd_same (e:Nat→Int) (j:Nat) (v:Int):En.upd e j v j=v:=if_pos rfl
theorem En.upd_other {e:Nat→Int} {j l:Nat} {v:Int} (h:l≠j):En.upd e j v l=e l:=if_neg h

theorem Lie.ent {x:World} {Q:Nat} {T:TypeId} {e:Nat→Int} (h:Lie x Q T 11 (Ints e)):x.cell? ⟨Q,0,none⟩=some (.int .i64 (e 0))∧x.cell? ⟨Q,1,none⟩=some (.int .i64 (e 1))∧x.cell? ⟨Q,2,none⟩=some (.int .i64 (e 2))∧x.cell? ⟨Q,3,none⟩=some (.int .i64 (e 3))∧x.cell? ⟨Q,4,none⟩=some (.int .i64 (e 4))∧x.cell? ⟨Q,5,none⟩=some (.int .i64 (e 5))∧x.cell? ⟨Q,6,none⟩=some (.int .i64 (e 6))∧x.cell? ⟨Q,7,none⟩=some (.int .i64 (e 7))∧x.cell? ⟨Q,8,none⟩=some (.int .i64 (e 8))∧x.cell? ⟨Q,9,none⟩=some (.int .i64 (e 9))∧x.cell? ⟨Q,10,none⟩=some (.int .i64 (e 10)) :=
 ⟨h.cell (by omega),h.cell (by omega),h.cell (by omega),h.cell (by omega),h.cell (by omega),h.cell (by omega),h.cell (by omega),h.cell (by omega),h.cell (by omega),h.cell (by omega),h.cell (by omega)⟩

def Ft.Born (E:Nat→Nat→Int):Prop:=∀k,k<32→E k 0≠0→E k 6=En.stats (E k 0) 6∧E k 7=En.stats (E k 0) 7∧E k 8=En.stats (E k 0) 8

theorem Ft.Born.put {E:Nat→Nat→Int} (h:Ft.Born E) {r:Nat} {e:Nat→Int} (he:e 6=En.stats (e 0) 6∧e 7=En.stats (e 0) 7∧e 8=En.stats (e 0) 8):Ft.Born (En.put E r e):=fun k hk h0=>by
 by_cases x:k=r
 ·rw [x,En.put_same]
  exact he
 ·rw [En.put_other x] at h0 ⊢
  exact h k hk h0


open Go.RowKit

structure Ft.Stands (c:Nat→Int) (E:Nat→Nat→Int):Prop where
 on:∀k,k<32→E k 0≠0→0≤E k 3∧E k 3<24∧0≤E k 4∧E k 4<16∧Gr.walkB (c (E k 4*24+E k 3).toNat)=true
 apart:∀j k,j<32→k<32→E j 0≠0→E k 0≠0→E j 3=E k 3→E j 4=E k 4→j=k

structure Ft.Set (c:Nat→Int) (E:Nat→Nat→Int):Prop where
 born:Ft.Born E
 stands:Ft.Stands c E

def Ft.Room (c:Nat→Int) (E:Nat→Nat→Int) (q:Nat):Prop:=Gr.walkB (c q)=true∧En.first (En.atQ E ((q:Int) % 24) ((q:Int) / 24)) 32<0

theorem Ft.cell_num {q:Nat} (hq:q<384):0≤(q:Int) % 24∧(q:Int) % 24<24∧0≤(q:Int) / 24∧(q:Int) / 24<16∧((q:Int) / 24*24+(q:Int) % 24).toNat=q:=by omega

theorem Ft.room_none {E:Nat→Nat→Int} {x y:Int} (h:En.first (En.atQ E x y) 32<0):∀j,j<32→E j 0≠0→¬(E j 3=x∧E j 4=y):=by
 rcases En.first_cases (En.atQ E x y) 32 with ⟨_,hno⟩ | ⟨k,_,he,_⟩
 ·intro j hj h0 hxy
  have:=hno j hj
  simp [En.atQ,h0,hxy.1,hxy.2] at this
 ·omega

theorem Ft.Set.put {c:Nat→Int} {E:Nat→Nat→Int} (h:Ft.Set c E) {r q:Nat} {e:Nat→Int} {gn:Int} (_h0:E r 0=0) (hq:q<384) (hr:Ft.Room c E q) (hx:e 3=(q:Int) % 24) (hy:e 4=(q:Int) / 24) (he:e 6=En.stats (e 0) 6∧e 7=En.stats (e 0) 7∧e 8=En.stats (e 0) 8):Ft.Set c (En.put E r (En.gen e gn)):=by
 obtain ⟨n1,n2,n3,n4,n5⟩:=Ft.cell_num hq
 have hno:=Ft.room_none hr.2
 have e3:En.gen e gn 3=(q:Int) % 24:=hx
 have e4:En.gen e gn 4=(q:Int) / 24:=hy
 refine ⟨h.born.put he,⟨fun k hk k0=>?_,fun j k hj hk j0 k0 hx' hy'=>?_⟩⟩
 ·by_cases e':k=r
  ·subst e'
   rw [En.put_same,e3,e4,n5]
   exact ⟨n1,n2,n3,n4,hr.1⟩
  ·rw [En.put_other e'] at k0 ⊢
   exact h.stands.on k hk k0
 ·by_cases ej:j=r
  ·by_cases ek:k=r
   ·omega
   ·subst ej
    rw [En.put_same,En.put_other ek,e3] at hx'
    rw [En.put_same,En.put_other ek,e4] at hy'
    rw [En.put_other ek] at k0
    exact absurd ⟨hx'.symm,hy'.symm⟩ (hno k hk k0)
  ·by_cases ek:k=r
   ·subst ek
    rw [En.put_same,En.put_other ej,e3] at hx'
    rw [En.put_same,En.put_other ej,e4] at hy'
    rw [En.put_other ej] at j0
    exact absurd ⟨hx',hy'⟩ (hno j hj j0)
   ·rw [En.put_other ej,En.put_other ek] at hx' hy'
    rw [En.put_other ej] at j0
    rw [En.put_other ek] at k0
    exact h.stands.apart j k hj hk j0 k0 hx' hy'


open Go.RowKit

theorem Md.fine_of {c:Nat→Int} {E I:Nat→Nat→Int} (hF:Ft.Fit c E I) (hS:Ft.Set c E):Md.Fine E:=fun k hk k0=>by
 obtain ⟨a,b,d,e,_⟩:=hS.stands.on k hk k0
 have ht:=(hF.rows k hk).taken k0
 exact ⟨a,b,d,e,by omega,by omega⟩

theorem Md.good_fit {c:Nat→Int} {E I:Nat→Nat→Int} (hF:Ft.Fit c E I) (hS:Ft.Set c E):Md.Good c E I :=
 Md.good_of (Md.fine_of hF hS) (fun k hk=>⟨⟨(hF.rows k hk).1,(hF.rows k hk).2.1⟩,fun k0=>by
  rcases (hF.rows k hk).2.2 with hz | ht
  ·exact ⟨hz 3 (by omega) (by omega),hz 4 (by omega) (by omega)⟩
  ·omega⟩) hF.ok

end Go.Proofs.Ytapgkgbpekkdjaa
