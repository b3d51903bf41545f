import Derived.Test.YtbanjoflgoiegaaGreatPs20
import Derived.Laws.BytesArg
namespace Go.Proofs.YtbanjoflgoiegaaGreat
open Go.RowKit

theorem Gd.box_5 (s g:Nat→Int) (gC gE gI cC cE cI g1 c1:Nat):∀j,j<11→(if j=5 then Value.slice (some ⟨g1,0,none⟩) 32 c1 else Gd.box s gC gE gI cC cE cI g j)=Gd.box s gC g1 gI cC c1 cI g j:=by
 intro j hj
 rcases (show j=0∨j=1∨j=2∨j=3∨j=4∨j=5∨j=6∨j=7∨j=8∨j=9∨j=10 by omega) with rfl | rfl | rfl | rfl | rfl | rfl | rfl | rfl | rfl | rfl | rfl <;> rfl

end Go.Proofs.YtbanjoflgoiegaaGreat

namespace Go.Proofs.YtbanjoflgoiegaaGreat

namespace Gn

theorem path_in {d:Dice} (hd:Fair d) (k i:Nat) (h:path d k i):i<384∧1≤i % 24∧i % 24≤22∧1≤i / 24∧i / 24≤14:=by
 have key:∀(n:Nat) (x y:Int),(1≤x∧x≤22)∧1≤y∧y≤14→∀i,onPath (mx d (k+1)) (my d (k+1)) (d ((k+1:Nat):Int) 4 2 == 0) n x y i→i<384∧1≤i % 24∧i % 24≤22∧1≤i / 24∧i / 24≤14:=by
  have ht:=mid_bd hd (k+1)
  intro n
  induction n with
  | zero =>
   intro x y hb i hi
   have hi':i=(y*24+x).toNat:=hi
   omega
  | succ n ih =>
   intro x y hb i hi
   rcases hi with rfl | hi
   ·omega
   ·exact ih _ _ (step_bd x y _ _ _ hb (by omega)) i hi
 have hb:=mid_bd hd k
 exact key _ _ _ (by omega) i h

theorem dug_in {d:Dice} (hd:Fair d) (i:Nat) (h:dug d 5 i≠0):1≤i % 24∧i % 24≤22∧1≤i / 24∧i / 24≤14:=by
 rcases (dug_nz d 5 i).1 h with ⟨k,_,hin⟩ | ⟨k,_,hp⟩
 ·have hb:=room_bd hd k
  unfold inRoom at hin
  omega
 ·exact (path_in hd k i hp).2

theorem up_lt {d:Dice} (hd:Fair d):up d<384:=by
 have:=mid_bd hd 0
 unfold up
 omega

theorem beside_up {d:Dice} (hd:Fair d):dug d 5 (up d - 1)≠0∧dug d 5 (up d)≠0∧1≤up d∧(up d - 1) / 24=up d / 24:=by
 have hb:=room_bd hd 0
 have hm:=mid_in hd 0
 have hu:=up_eq hd
 have hmb:=mid_bd hd 0
 have hx:rx d 0≤mx d 0 - 1:=by unfold mx;omega
 refine ⟨(dug_nz d 5 _).2 (.inl ⟨0,by omega,?_⟩),(dug_nz d 5 _).2 (.inl ⟨0,by omega,?_⟩),by omega,by omega⟩
 ·have h:=inRoom_at hd (k:=0) (x:=mx d 0 - 1) (y:=my d 0) hx (by omega) hm.2.2.1 hm.2.2.2
  rwa [show (my d 0*24+(mx d 0 - 1)).toNat=up d - 1 by omega] at h
 ·have h:=inRoom_at hd (k:=0) (x:=mx d 0) (y:=my d 0) hm.1 hm.2.1 hm.2.2.1 hm.2.2.2
  rwa [show (my d 0*24+mx d 0).toNat=up d by omega] at h

theorem base_up (d:Dice):base d (up d)=3:=Gr.upd_at _ _ _
theorem base_ne (d:Dice) {i:Nat} (h:i≠up d):base d i=dug d 5 i:=Gr.upd_ne _ _ h

theorem base_nz {d:Dice} (hd:Fair d) (i:Nat):base d i≠0↔dug d 5 i≠0:=by
 by_cases e:i=up d
 ·rw [e,base_up]
  have:=(beside_up hd).2.1
  constructor
  ·exact fun _=>this
  ·exact fun _=>by omega
 ·rw [base_ne d e]

theorem walk_nz {c:Int} (h:0≤c∧c≤5):Gr.walkB c=true↔c≠0:=by
 rw [Gr.walkB_iff];omega

structure Facts (d:Dice) (c F:Nat→Int) (far:Nat):Prop where
 five:∀i,0≤c i∧c i≤5
 nz:∀i,c i≠0↔dug d 5 i≠0
 upl:up d<384
 farl:far<384
 is3:∀i,c i=3↔i=up d
 is4:∀i,c i=4↔i=far
 door:∀i,c i=2→dug d 5 i=2
 fld:Gr.IsField (fun i=>Gr.walkB (c i)=true) (fun i=>i=up d) F
 pos:0<F far
 five1:(∀i,c i≠5)∨∃k,k<384∧∀i,c i=5↔i=k

theorem IsLevel.facts {d:Dice} (hd:Fair d) {c F:Nat→Int} (h:IsLevel d c F):∃far,Facts d c F far:=by
 have h5:=h.five
 obtain ⟨far,hF,hfar,hc⟩:=h
 refine ⟨far,?_⟩
 have hul:=up_lt hd
 obtain ⟨b1,b2,b3,b4⟩:=beside_up hd
 have hF0:F (up d)=0:=(hF.is.zero _ hul).2 rfl
 -- the cell left of it is one step away
 have hleft:0<F (up d - 1):=by
  have hin:Gr.nbIn (up d) 3∧((up d / 24:Nat)+Gr.dyOf 3)*24+((up d % 24:Nat)+Gr.dxOf 3)=((up d - 1:Nat):Int):=by
   have hdi:=dug_in hd _ b2
   unfold Gr.nbIn
   simp only [Gr.dxOf,Gr.dyOf]
   omega
  have hnb:Gr.nbOf (up d) 3=up d - 1:=by have:=Gr.nb_eq hin.1;omega
  have hfw:=hF.is.fwd (up d) hul (by omega) 3 (by omega) hin.1 (by rw [hnb];exact (walk_nz (base_5 d _)).2 ((base_nz hd _).2 b1))
  rw [hnb] at hfw
  have hne:F (up d - 1)≠0:=fun e=>by have:=(hF.is.zero (up d - 1) (by omega)).1 e;omega
  omega
 have hpos:0<F far:=by have:=hfar.top (up d - 1) (by omega);omega
 have hfu:far≠up d:=fun e=>by rw [e] at hpos;omega
 -- the furthest cell is no wall
 have hfn:base d far≠0:=(walk_nz (base_5 d far)).1 ((hF.is.back far hfar.lt hpos).1)
 obtain ⟨c2,hc2⟩:∃c2,c2=Gr.upd (base d) far 4:=⟨_,rfl⟩
 have c2far:c2 far=4:=by rw [hc2];exact Gr.upd_at _ _ _
 have c2ne:∀i,i≠far→c2 i=base d i:=fun i hi=>by rw [hc2];exact Gr.upd_ne _ _ hi
 have c2up:c2 (up d)=3:=by rw [c2ne _ (fun e=>hfu e.symm),base_up]
 have c2old:∀i,i≠far→i≠up d→c2 i=dug d 5 i:=fun i h1 h2=>by rw [c2ne i h1,base_ne d h2]
 -- what the shop does
 have hshop:(∀i,c i=c2 i)∨∃k,k<384∧c2 k=1∧∀i,c i=if i=k then 5 else c2 i:=by
  rw [hc]
  unfold stocked
  rw [←hc2]
  split
  ·cases hs:shop c2 F (F far / 2) with
   | none=>exact .inl fun i=>rfl
   | some k =>
    right
    unfold shop at hs
    rw [List.find?_range_eq_some] at hs
    obtain ⟨hp,hk,_⟩:=hs
    rw [Bool.and_eq_true] at hp
    exact ⟨k,List.mem_range.1 hk,by simpa using hp.2,fun i=>rfl⟩
  ·exact .inl fun i=>rfl
 have h2all:∀i,0≤dug d 5 i∧dug d 5 i≤2:=dug_2 d 5
 have c2nz:∀i,c2 i≠0↔dug d 5 i≠0:=by
  intro i
  by_cases e1:i=far
  ·rw [e1,c2far]
   exact ⟨fun _=>(base_nz hd far).1 hfn,fun _=>by omega⟩
  ·rw [c2ne i e1];exact base_nz hd i
 have c3:∀i,c2 i=3↔i=up d:=by
  intro i
  constructor
  ·intro h
   by_cases e2:i=up d
   ·exact e2
   ·by_cases e1:i=far
    ·rw [e1,c2far] at h;omega
    ·rw [c2old i e1 e2] at h
     have:=h2all i;omega
  ·intro e;rw [e];exact c2up
 have c4:∀i,c2 i=4↔i=far:=by
  intro i
  constructor
  ·intro h
   by_cases e1:i=far
   ·exact e1
   ·by_cases e2:i=up d
    ·rw [e2,c2up] at h;omega
    ·rw [c2old i e1 e2] at h
     have:=h2all i;omega
  ·intro e;rw [e];exact c2far
 have c5:∀i,c2 i≠5:=by
  intro i
  by_cases e1:i=far
  ·rw [e1,c2far];omega
  ·by_cases e2:i=up d
   ·rw [e2,c2up];omega
   ·rw [c2old i e1 e2]
    have:=h2all i;omega
 have cdoor:∀i,c2 i=2→dug d 5 i=2:=by
  intro i h
  by_cases e1:i=far
  ·rw [e1,c2far] at h;omega
  ·by_cases e2:i=up d
   ·rw [e2,c2up] at h;omega
   ·rw [c2old i e1 e2] at h;exact h
 have hnz:∀i,c i≠0↔dug d 5 i≠0:=by
  intro i
  rcases hshop with hs | ⟨k,hk,hk1,hs⟩
  ·rw [hs i];exact c2nz i
  ·rw [hs i]
   by_cases e:i=k
   ·rw [if_pos e]
    have:=(c2nz k).1 (by omega)
    rw [e]
    exact ⟨fun _=>this,fun _=>by omega⟩
   ·rw [if_neg e];exact c2nz i
 refine ⟨h5,hnz,hul,hfar.lt,?_,?_,?_,?_,hpos,?_⟩
 ·intro i
  rcases hshop with hs | ⟨k,hk,hk1,hs⟩
  ·rw [hs i];exact c3 i
  ·rw [hs i]
   by_cases e:i=k
   ·rw [if_pos e]
    constructor
    ·intro h;omega
    ·intro e2;rw [←e,e2,c2up] at hk1;omega
   ·rw [if_neg e];exact c3 i
 ·intro i
  rcases hshop with hs | ⟨k,hk,hk1,hs⟩
  ·rw [hs i];exact c4 i
  ·rw [hs i]
   by_cases e:i=k
   ·rw [if_pos e]
    constructor
    ·intro h;omega
    ·intro e2;rw [←e,e2,c2far] at hk1;omega
   ·rw [if_neg e];exact c4 i
 ·intro i hi
  rcases hshop with hs | ⟨k,hk,hk1,hs⟩
  ·rw [hs i] at hi;exact cdoor i hi
  ·rw [hs i] at hi
   by_cases e:i=k
   ·rw [if_pos e] at hi;omega
   ·rw [if_neg e] at hi;exact cdoor i hi
 ·refine isField_congr hF.is (fun i _=>?_) (fun _ _=>Iff.rfl) (fun _ _=>rfl)
  rw [walk_nz (base_5 d i),walk_nz (h5 i),base_nz hd i,hnz i]
 ·rcases hshop with hs | ⟨k,hk,hk1,hs⟩
  ·left
   intro i
   rw [hs i];exact c5 i
  ·right
   refine ⟨k,hk,fun i=>?_⟩
   rw [hs i]
   by_cases e:i=k
   ·rw [if_pos e];simp [e]
   ·rw [if_neg e]
    constructor
    ·intro h;exact absurd h (c5 i)
    ·intro h;exact absurd h e

theorem Facts.reach {d:Dice} (hd:Fair d) {c F:Nat→Int} {far:Nat} (h:Facts d c F far) (i:Nat) (hi:i<384):0≤F i↔c i≠0:=by
 constructor
 ·intro h0
  by_cases e:F i=0
  ·have:=(h.fld.zero i hi).1 e
   rw [this,(h.is3 _).2 rfl];omega
  ·exact (walk_nz (h.five i)).1 (h.fld.back i hi (by omega)).1
 ·intro hc
  refine hangs hd (c:=c) (fun j _=>h.nz j) (P:=fun j=>0≤F j) ?_ ?_ i hi hc
  ·intro j e hj he hP hin hcn
   exact (h.fld.fwd j hj hP e he hin ((walk_nz (h.five _)).2 hcn)).1
  ·have:=(h.fld.zero _ h.upl).2 rfl
   omega

end Gn


open Go.RowKit

namespace Gn

theorem those_nodup (p:Nat→Bool) (n:Nat):(those p n).Nodup:=List.Pairwise.filter _ List.nodup_range

end Gn


open Go.RowKit

theorem dice_of (s f:Int):∃d:Gn.Dice,(∀a b n,Gn.D s f a b n=d a b n)∧Gn.Fair d:=⟨fun a b n=>Gn.D s f a b n,fun _ _ _=>rfl,fun a b n h=>Gn.D_bd s f a b n h⟩


open Go.RowKit

structure Nv.Floor (c:Nat→Int):Prop where
 five:∀i,0≤c i∧c i≤5
 some:∃i,i<384∧c i≠0
 hang:∀P,Gn.Closed c P→∀k,k<384→c k≠0→P k→∀i,i<384→c i≠0→P i
 stairs:∃u v,u<384∧v<384∧(∀i,c i=3↔i=u)∧(∀i,c i=4↔i=v)

theorem Nv.to_up {d:Gn.Dice} (hd:Gn.Fair d) {c F:Nat→Int} {far:Nat} (h:Gn.Facts d c F far) {P:Nat→Prop} (hC:Gn.Closed c P):∀(n k:Nat),k<384→c k≠0→P k→F k=(n:Int)→P (Gn.up d):=by
 intro n
 induction n with
 | zero =>
  intro k hk _ hP e
  rw [←(h.fld.zero k hk).1 e]
  exact hP
 | succ n ih =>
  intro k hk hck hP e
  obtain ⟨_,j,dd,hj,hdd,hn,rfl,he⟩:=h.fld.back k hk (by omega)
  obtain ⟨b1,b2⟩:=Gr.nb_back hj hdd hn
  have hcj:c j≠0:=(h.reach hd j hj).1 (by omega)
  refine ih j hj hcj ?_ (by omega)
  have:=hC (Gr.nbOf j dd) (Gr.opp dd) hk (Gr.opp_lt hdd) hP b1 (by rw [b2];exact hcj)
  rwa [b2] at this

theorem Nv.floor_of {d:Gn.Dice} (hd:Gn.Fair d) {c F:Nat→Int} (h:Gn.IsLevel d c F):Nv.Floor c:=by
 obtain ⟨far,hf⟩:=h.facts hd
 refine ⟨hf.five,⟨far,hf.farl,by have:=(hf.is4 far).2 rfl;omega⟩,fun P hC k hk hck hP i hi hci=>?_,⟨Gn.up d,far,hf.upl,hf.farl,hf.is3,hf.is4⟩⟩
 have h0:=(hf.reach hd k hk).2 hck
 have hup:=Nv.to_up hd hf hC (F k).toNat k hk hck hP (by omega)
 exact Gn.hangs hd (fun j _=>hf.nz j) hC hup i hi hci


open Go.RowKit

theorem madeCells_item (n c:Nat) (hc:c<n*4):(madeCells (Value.agg #[.int .i64 0,.int .i64 0,.int .i64 0,.int .i64 0]).cells (n*4))[c]?=some (.int .i64 0):=by
 have hm:c % 4<4:=by omega
 obtain ⟨m,hmm⟩:∃m,m=c % 4:=⟨_,rfl⟩
 unfold madeCells
 simp [hc,Value.cells]
 rw [←hmm] at hm ⊢
 rcases (show m=0∨m=1∨m=2∨m=3 by omega) with rfl | rfl | rfl | rfl <;> rfl

theorem make40:∃Z:Array Value,(∀w:World,(Instr.makeSlice 27 (.int .i64 40) (.int .i64 40)).run Tryz.prog w=.ok (.slice (some ⟨w.heap.size,0,none⟩) 40 40) (w.alloc (.cells Z 62))) ∧
  ∀w:World,Lie (w.alloc (.cells Z 62)) w.heap.size 62 160 (Gd.flat (fun _ _=>0)):=by
 obtain ⟨i0,hi,hz0,hz1,hz2⟩:=info_parts info_item
 refine ⟨madeCells (Value.agg #[.int .i64 0,.int .i64 0,.int .i64 0,.int .i64 0]).cells (40*4),fun w=>?_,fun w=>?_⟩
 ·have hr:=run_make (P:=Tryz.prog) w 27 62 i0 _ Tryz.underlying27 hi hz0 .i64 .i64 (40:Nat) (40:Nat) (by omega) (by omega) (by rw [hz2];decide) (by decide)
  rw [hz1] at hr
  exact hr
 ·refine ⟨_,_,Arr.lit (heap_alloc_new w _),by rw [size_madeCells];omega,fun c hc=>?_⟩
  show (madeCells _ _)[c]?.getD undef=_
  rw [madeCells_item 40 c hc]
  rfl

theorem Lie.type_ne {x:World} {B G:Nat} {T U:TypeId} {m n:Nat} {F K:Nat→Value} (h1:Lie x B T m F) (h2:Lie x G U n K) (h:T≠U):B≠G:=by
 rintro rfl
 obtain ⟨_,_,⟨c1,e1,_⟩,_⟩:=h1
 obtain ⟨_,_,⟨c2,e2,_⟩,_⟩:=h2
 rw [e1] at e2
 simp only [Option.some.injEq,Obj.cells.injEq] at e2
 exact h e2.2.1


open Go.RowKit

def Gd.goneQ (J:Nat→Nat→Int):Nat→Bool:=fun i=>Gd.zeroB (J i 0) (J i 1) (J i 2) (J i 3)

def Gd.lay (I M:Nat→Nat→Int):Nat→Nat→Nat→Int
 | 0=>I
 | m+1=>if 0≤En.first (Gd.goneQ (Gd.lay I M m)) 40 then En.put (Gd.lay I M m) (En.first (Gd.goneQ (Gd.lay I M m)) 40).toNat (Gd.row (M m 0) (M m 1) (M m 2) (M m 3)) else Gd.lay I M m

theorem Gd.lay_none {I M:Nat→Nat→Int} {m:Nat} (h:∀j,j<40→Gd.goneQ (Gd.lay I M m) j=false):Gd.lay I M (m+1)=Gd.lay I M m:=by
 show (if _ then _ else _)=_
 rw [En.first_none h,if_neg (by omega)]

theorem Gd.lay_some {I M:Nat→Nat→Int} {m r:Nat} (hno:∀j,j<r→Gd.goneQ (Gd.lay I M m) j=false) (hr:Gd.goneQ (Gd.lay I M m) r=true) (h40:r<40):Gd.lay I M (m+1)=En.put (Gd.lay I M m) r (Gd.row (M m 0) (M m 1) (M m 2) (M m 3)):=by
 show (if _ then _ else _)=_
 rw [En.first_hit hno hr h40,if_pos (by omega),Int.toNat_natCast]

theorem Gd.lay_stuck {I M:Nat→Nat→Int} {m:Nat} (h:∀j,j<40→Gd.goneQ (Gd.lay I M m) j=false):∀d,Gd.lay I M (m+d)=Gd.lay I M m
  | 0=>rfl
  | d + 1 => by
      have ih:=Gd.lay_stuck h d
      have h':∀j,j<40→Gd.goneQ (Gd.lay I M (m+d)) j=false:=by rw [ih];exact h
      rw [←Nat.add_assoc,Gd.lay_none h',ih]

def Gd.Some (w:World) (a:Option Addr) (n:Nat) (M:Nat→Nat→Int):Prop:=n≤100∧(n=0∨∃b o,a=some ⟨b,o,none⟩∧Its w b o n M)

theorem Gd.Some.on {w w':World} {a:Option Addr} {n:Nat} {M:Nat→Nat→Int} (h:Gd.Some w a n M) (hg:w.grownBy w' none):Gd.Some w' a n M:=by
 obtain ⟨h1,h0 | ⟨b,o,h2,h3⟩⟩:=h
 ·exact ⟨h1,.inl h0⟩
 ·exact ⟨h1,.inr ⟨b,o,h2,h3.on hg⟩⟩

theorem Gd.Some.row {w:World} {a:Option Addr} {n:Nat} {M:Nat→Nat→Int} (h:Gd.Some w a n M) {k:Nat} (hk:k<n):∃b o,a=some ⟨b,o,none⟩∧b<w.heap.size∧w.cell? ⟨b,o+k*4,none⟩=some (.int .i64 (M k 0))∧w.cell? ⟨b,o+k*4+1,none⟩=some (.int .i64 (M k 1))∧w.cell? ⟨b,o+k*4+2,none⟩=some (.int .i64 (M k 2))∧w.cell? ⟨b,o+k*4+3,none⟩=some (.int .i64 (M k 3)):=by
 obtain ⟨_,h0 | ⟨b,o,h2,h3⟩⟩:=h
 ·omega
 ·exact ⟨b,o,h2,h3.2.1,h3.2.2 k 0 hk (by omega),h3.2.2 k 1 hk (by omega),h3.2.2 k 2 hk (by omega),h3.2.2 k 3 hk (by omega)⟩

def Gd.Gives40 (w:World) (J:Nat→Nat→Int) (e:Ending) (w':World):Prop :=
 ∃g cap,e=.returned (.slice (some ⟨g,0,none⟩) 40 cap)∧w.heap.size≤g∧Lie w' g 62 160 (Gd.flat J)∧w.grownBy w' none


open Go.RowKit

def Gd.fitsB (c:Nat→Int) (k p a b:Int):Bool :=
 decide (1≤k∧k≤4) && (if p=1 then Gr.walkB (Gr.at 384 c a b) else if p=2 then Gd.isSeat a && (decide (0≤b) && (decide (b<4) && decide (k≠4)))
  else if p=3 then Gd.isSeat a && (Gd.serves k 7 && decide (b=k - 2)) else if p=4 then decide (0≤a) && (decide (a<3) && (decide (b=0) && decide (k≠4))) else false)

theorem Gd.serves_7 (k:Int):Gd.serves k 7=(decide (k=2) || decide (k=3)):=by
 unfold Gd.serves
 rw [if_neg (by decide),if_pos rfl]

theorem Gd.at_out {c:Nat→Int} {x y:Int} (h:Gr.inB x y=false):Gr.at 384 c x y=0:=by
 unfold Gr.at
 rw [if_neg (by rw [h];simp)]

theorem Gd.fits_iff (c r:Nat→Int):Gd.fitsB c (r 0) (r 1) (r 2) (r 3)=true↔Gd.Placed c r:=by
 unfold Gd.fitsB Gd.Placed
 rw [Bool.and_eq_true,decide_eq_true_eq]
 constructor
 ·rintro ⟨⟨h1,h2⟩,h⟩
  refine ⟨h1,h2,?_⟩
  by_cases p1:r 1=1
  ·rw [if_pos p1] at h
   refine .inl ⟨p1,?_,h⟩
   cases hin:Gr.inB (r 2) (r 3) with
   | true=>rfl
   | false=>rw [Gd.at_out hin] at h;simp [Gr.walkB] at h
  ·rw [if_neg p1] at h
   by_cases p2:r 1=2
   ·rw [if_pos p2] at h
    simp only [Gd.isSeat,Bool.and_eq_true,decide_eq_true_eq] at h
    exact .inr (.inl ⟨p2,h.1.1,h.1.2,h.2.1,h.2.2.1,h.2.2.2⟩)
   ·rw [if_neg p2] at h
    by_cases p3:r 1=3
    ·rw [if_pos p3] at h
     simp only [Gd.isSeat,Gd.serves_7,Bool.and_eq_true,Bool.or_eq_true,decide_eq_true_eq] at h
     obtain ⟨⟨s0,s1⟩,hs,hb⟩:=h
     exact .inr (.inr (.inl ⟨p3,s0,s1,by omega⟩))
    ·rw [if_neg p3] at h
     by_cases p4:r 1=4
     ·rw [if_pos p4] at h
      simp only [Bool.and_eq_true,decide_eq_true_eq] at h
      exact .inr (.inr (.inr ⟨p4,h.1,h.2.1,h.2.2.1,h.2.2.2⟩))
     ·rw [if_neg p4] at h
      cases h
 ·rintro ⟨h1,h2,h | h | h | h⟩
  ·exact ⟨⟨h1,h2⟩,by rw [if_pos h.1];exact h.2.2⟩
  ·refine ⟨⟨h1,h2⟩,?_⟩
   rw [if_neg (by omega),if_pos h.1]
   simp only [Gd.isSeat,Bool.and_eq_true,decide_eq_true_eq]
   exact ⟨⟨h.2.1,h.2.2.1⟩,h.2.2.2.1,h.2.2.2.2.1,h.2.2.2.2.2⟩
  ·refine ⟨⟨h1,h2⟩,?_⟩
   rw [if_neg (by omega),if_neg (by omega),if_pos h.1]
   simp only [Gd.isSeat,Gd.serves_7,Bool.and_eq_true,Bool.or_eq_true,decide_eq_true_eq]
   exact ⟨⟨h.2.1,h.2.2.1⟩,by omega,by omega⟩
  ·refine ⟨⟨h1,h2⟩,?_⟩
   rw [if_neg (by omega),if_neg (by omega),if_neg (by omega),if_pos h.1]
   simp only [Bool.and_eq_true,decide_eq_true_eq]
   exact ⟨h.2.1,h.2.2.1,h.2.2.2.1,h.2.2.2.2⟩

theorem ret_says {w w':World} {a b:Bool} (h:a=b) (hg:w.grownBy w' none):Says w (.bool b) (.returned (.bool a)) w':=⟨ret_bool h,hg⟩


open Go.RowKit

def Gd.good (c:Nat→Int) (I:Nat→Nat→Int) (j:Nat):Prop:=Gd.zeroB (I j 0) (I j 1) (I j 2) (I j 3)=true∨(Gd.fitsB c (I j 0) (I j 1) (I j 2) (I j 3)=true∧Gd.find I 40 (I j 1) (I j 2) (I j 3)=(j:Int))

theorem Gd.zero_iff (r:Nat→Int):Gd.zeroB (r 0) (r 1) (r 2) (r 3)=true↔Gd.Zero r:=by
 unfold Gd.zeroB Gd.Zero
 rw [decide_eq_true_eq]

theorem Gd.ok_good {c:Nat→Int} {I:Nat→Nat→Int} (h:Gd.Ok c 40 I) {k:Nat} (hk:k<40):Gd.good c I k:=by
 rcases h.each k hk with hz | hp
 ·exact .inl ((Gd.zero_iff (I k)).2 hz)
 ·refine .inr ⟨(Gd.fits_iff c (I k)).2 hp,?_⟩
  rcases Gd.find_cases I 40 (I k 1) (I k 2) (I k 3) with ⟨_,hno⟩ | ⟨m,hm,e,h1,h2,h3,_⟩
  ·exact absurd ⟨rfl,rfl,rfl⟩ (hno k hk)
  ·by_cases em:m=k
   ·rw [e,em]
   ·exact absurd (⟨h1,h2,h3⟩:Gd.Share (I m) (I k)) (h.one k m hk hm (fun e=>em e.symm) hp.where_ne)

theorem Gd.good_ok {c:Nat→Int} {I:Nat→Nat→Int} (h:∀k,k<40→Gd.good c I k):Gd.Ok c 40 I:=by
 refine ⟨fun i hi=>?_,fun i k hi hk hik hw hs=>?_⟩
 ·rcases h i hi with hz | ⟨hp,_⟩
  ·exact .inl ((Gd.zero_iff (I i)).1 hz)
  ·exact .inr ((Gd.fits_iff c (I i)).1 hp)
 ·have fi:Gd.find I 40 (I i 1) (I i 2) (I i 3)=(i:Int):=by
   rcases h i hi with hz | ⟨_,hf⟩
   ·exact absurd ((Gd.zero_iff (I i)).1 hz).2.1 hw
   ·exact hf
  have fk:Gd.find I 40 (I k 1) (I k 2) (I k 3)=(k:Int):=by
   rcases h k hk with hz | ⟨_,hf⟩
   ·exact absurd (hs.1 ▸ ((Gd.zero_iff (I k)).1 hz).2.1) hw
   ·exact hf
  rw [hs.1,hs.2.1,hs.2.2,fi] at fk
  omega

def Tells7 (w:World) (p:Prop) (e:Ending) (w':World):Prop:=∃r:Bool,e=.returned (.bool r)∧(r=true↔p)∧w.grownBy w' none


open Go.RowKit

namespace Gn

def nzs (c:Nat→Int):Nat→Nat
 | 0=>0
 | n+1=>nzs c n+if c n=0 then 0 else 1

theorem nzs_mono (c:Nat→Int) {m n:Nat} (h:m≤n):nzs c m≤nzs c n:=by
  induction n with
  | zero => obtain rfl : m = 0 := by omega
            exact Nat.le_refl _
  | succ n ih =>
    by_cases e:m=n+1
    · rw [e];exact Nat.le_refl _
    · have:=ih (by omega)
      rw [nzs]
      omega

theorem nzs_three (c:Nat→Int) (a:Nat) (h0:c a≠0) (h1:c (a+1)≠0) (h2:c (a+2)≠0):nzs c (a+3)=nzs c a+3:=by
 rw [show a+3=a+2+1 by omega,nzs,show a+2=a+1+1 by omega,nzs,nzs,if_neg h0,if_neg h1,if_neg h2]

theorem Facts.six {d:Dice} (hd:Fair d) {c F:Nat→Int} {far:Nat} (h:Facts d c F far):6≤nzs c 384:=by
 have hb:=room_bd hd 0
 obtain ⟨a,ha⟩:∃a:Nat,ry d 0*24+rx d 0=(a:Int):=⟨(ry d 0*24+rx d 0).toNat,by omega⟩
 have hin:∀x y:Int,0≤x→x<3→0≤y→y<2→c ((ry d 0+y)*24+(rx d 0+x)).toNat≠0:=by
  intro x y h1 h2 h3 h4
  exact (h.nz _).2 ((dug_nz d 5 _).2 (.inl ⟨0,by omega,inRoom_at hd (by omega) (by omega) (by omega) (by omega)⟩))
 have e:∀x y:Int,∀n:Nat,(a:Int)+y*24+x=(n:Int)→((ry d 0+y)*24+(rx d 0+x)).toNat=n:=by
  intro x y n hn
  omega
 have h00:=hin 0 0 (by omega) (by omega) (by omega) (by omega)
 have h10:=hin 1 0 (by omega) (by omega) (by omega) (by omega)
 have h20:=hin 2 0 (by omega) (by omega) (by omega) (by omega)
 have h01:=hin 0 1 (by omega) (by omega) (by omega) (by omega)
 have h11:=hin 1 1 (by omega) (by omega) (by omega) (by omega)
 have h21:=hin 2 1 (by omega) (by omega) (by omega) (by omega)
 rw [e 0 0 a (by omega)] at h00
 rw [e 1 0 (a+1) (by omega)] at h10
 rw [e 2 0 (a+2) (by omega)] at h20
 rw [e 0 1 (a+24) (by omega)] at h01
 rw [e 1 1 (a+24+1) (by omega)] at h11
 rw [e 2 1 (a+24+2) (by omega)] at h21
 have n1:=nzs_three c a h00 h10 h20
 have n2:=nzs_three c (a+24) h01 h11 h21
 have m1:=nzs_mono c (show a+3≤a+24 by omega)
 have m2:=nzs_mono c (show a+24+3≤384 by omega)
 omega

end Gn

end Go.Proofs.YtbanjoflgoiegaaGreat
