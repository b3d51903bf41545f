/-
  GoodsBonus MindsMath MindsRobot MindsGood GoodsRefBox MindsPlace
-/
import Derived.Test.YtbanjoflgoiegabGreatPart25
import Derived.Test.YtbanjoflgoiegabGreatPart16
import Derived.Test.YtbanjoflgoiegabGreatPart27
import Derived.Test.YtbanjoflgoiegabGreatPart21
import Derived.BigQuiet
import Derived.Test.YtbanjoflgoiegabGreatPart23
import Derived.Deep.Cut
import Derived.Deep.CutRange
import Derived.Deep.CutBlock
import Derived.Deep.RegionHeld3
import Derived.Test.YtbanjoflgoiegabGreatPart11
namespace Go.Proofs.YtbanjoflgoiegabGreat
open Go.RowKit

def Gd.wornK (I:Nat→Nat→Int) (seat kd:Int):Nat→Bool
 | 0=>false
 | k+1=>Gd.wornK I seat kd k || (decide (I k 1=3∧I k 2=seat) && decide (I k 0=kd))

def Gd.three (b:Bool):Int:=if b=true then 3 else 0
def Gd.two (b:Bool):Int:=if b=true then 2 else 0

set_option maxHeartbeats 6400000 in
theorem bonus_any (s g c : Nat → Int) (E I : Nat → Nat → Int) (gC gE gI cC cE cI : Nat) (seat : Int) (w : World) (hL : Gd.Lists w gC gE gI c E I) :
    Calls Tryz.prog 141 #[.agg (Gd.world s gC gE gI cC cE cI g),.int .i64 seat] w (Says w (.tuple #[.int .i64 (Gd.three (Gd.wornK I seat 2 40)),.int .i64 (Gd.two (Gd.wornK I seat 3 40))])):=by
  obtain ⟨w0,hw0⟩:∃w0,w0=w.alloc (.cells (Gd.world s gC gE gI cC cE cI g) 28):=⟨_,rfl⟩
  have hbox:Lie w0 w.heap.size 28 11 (Gd.box s gC gE gI cC cE cI g):=by rw [hw0];exact (Arr.world (heap_alloc_new w _)).lie
  have hg0:w.grownBy w0 none:=by rw [hw0];exact World.grownBy_alloc _ _ _
  have hL0:=hide (hL.on hg0)
  obtain ⟨B,hB⟩:∃B,w.heap.size=B:=⟨_,rfl⟩
  rw [hB] at hbox
  have hbox':=hide hbox
  have hg0':=hide hg0
  obtain ⟨_,_,_,_,_,_,b6,_⟩:=hbox.eleven
  clear hL hbox hg0
  unfold Gd.world at hw0 ⊢
  go_enter Tryz.func141,Tryz.ntmps141
  go_upto_region 1 with fail
  rw [←hw0]
  clear hw0 hB
  go_wp2_with fail
  go_loopw [6,7,13] (fun a d i wr=>∃k:Nat,k≤40∧i=.int .i64 (k:Int)∧a=.int .i64 (Gd.three (Gd.wornK I seat 2 k))∧d=.int .i64 (Gd.two (Gd.wornK I seat 3 k))∧w0.grownBy wr none) (fun _ _ i _=>200 - (intOf i).toNat)
  case atStart=>exact ⟨0,by omega,rfl,rfl,rfl,World.grownBy.refl _ _⟩
  case round =>
    obtain ⟨k,hk,rfl,rfl,rfl,hgr⟩:=hrel
    have hgr':=hide hgr
    clear hgr b6
    by_cases hlt:k<40
    · obtain ⟨u0,u1,u2,u3⟩:=((uh hL0).on (uh hgr')).its.row hlt
      have hlt':(k:Int)<40:=by omega
      have HL:=hide hlt
      have hnx:=hide (fun (o:Obj)=>gal (uh hgr') o)
      have e2:=hide (show Gd.wornK I seat 2 (k+1)=(Gd.wornK I seat 2 k || (decide (I k 1=3∧I k 2=seat) && decide (I k 0=2))) from rfl)
      have e3:=hide (show Gd.wornK I seat 3 (k+1)=(Gd.wornK I seat 3 k || (decide (I k 1=3∧I k 2=seat) && decide (I k 0=3))) from rfl)
      clear hlt
      by_cases h1:I k 1=3
      · by_cases h2:I k 2=seat
        · by_cases k2:I k 0=2
          · have r2:Hid (Gd.wornK I seat 2 (k+1)=true):=by show _=_;rw [uh e2];simp [h1,h2,k2]
            have r3:Hid (Gd.wornK I seat 3 (k+1)=Gd.wornK I seat 3 k):=by show _=_;rw [uh e3];simp [k2]
            clear e2 e3
            go_wp2
            go_roundw
            case rel=>exact ⟨k+1,by have:=uh HL;omega,by go_num,by rw [uh r2];rfl,by rw [uh r3],uh hnx _⟩
            case measure=>simp [intOf];omega
          · have m2:(I k 0 == 2)=false:=by simp [k2]
            have r2:Hid (Gd.wornK I seat 2 (k+1)=Gd.wornK I seat 2 k):=by show _=_;rw [uh e2];simp [k2]
            by_cases k3:I k 0=3
            · have r3:Hid (Gd.wornK I seat 3 (k+1)=true):=by show _=_;rw [uh e3];simp [h1,h2,k3]
              clear e2 e3
              go_wp2
              go_roundw
              case rel=>exact ⟨k+1,by have:=uh HL;omega,by go_num,by rw [uh r2],by rw [uh r3];rfl,uh hnx _⟩
              case measure=>simp [intOf];omega
            · have m3:(I k 0 == 3)=false:=by simp [k3]
              have r3:Hid (Gd.wornK I seat 3 (k+1)=Gd.wornK I seat 3 k):=by show _=_;rw [uh e3];simp [k3]
              clear e2 e3
              go_wp2
              go_roundw
              case rel=>exact ⟨k+1,by have:=uh HL;omega,by go_num,by rw [uh r2],by rw [uh r3],uh hnx _⟩
              case measure=>simp [intOf];omega
        · have m2:(I k 2 == seat)=false:=by simp [h2]
          have r2:Hid (Gd.wornK I seat 2 (k+1)=Gd.wornK I seat 2 k):=by show _=_;rw [uh e2];simp [h2]
          have r3:Hid (Gd.wornK I seat 3 (k+1)=Gd.wornK I seat 3 k):=by show _=_;rw [uh e3];simp [h2]
          clear e2 e3
          go_wp2
          go_roundw
          case rel=>exact ⟨k+1,by have:=uh HL;omega,by go_num,by rw [uh r2],by rw [uh r3],uh hnx _⟩
          case measure=>simp [intOf];omega
      · have m1:(I k 1 == 3)=false:=by simp [h1]
        have r2:Hid (Gd.wornK I seat 2 (k+1)=Gd.wornK I seat 2 k):=by show _=_;rw [uh e2];simp [h1]
        have r3:Hid (Gd.wornK I seat 3 (k+1)=Gd.wornK I seat 3 k):=by show _=_;rw [uh e3];simp [h1]
        clear e2 e3
        go_wp2
        go_roundw
        case rel=>exact ⟨k+1,by have:=uh HL;omega,by go_num,by rw [uh r2],by rw [uh r3],uh hnx _⟩
        case measure=>simp [intOf];omega
    · have hge:¬(k:Int)<40:=by omega
      have hfin:=hide (gtr (uh hg0') (uh hgr'))
      obtain rfl:k=40:=by omega
      go_wp2
      refine bodyPost_ret (v:=.tuple #[.int .i64 (Gd.three (Gd.wornK I seat 2 40)),.int .i64 (Gd.two (Gd.wornK I seat 3 40))]) (by simp [results,Tryz.results141,go_sem]) rfl ?_
      exact ⟨rfl,uh hfin⟩


open Go.RowKit

def Md.Fine (E:Nat→Nat→Int):Prop:=∀k,k<32→E k 0≠0→0≤E k 3∧E k 3<24∧0≤E k 4∧E k 4<16∧0≤E k 6∧E k 6≤20

def Md.who (E:Nat→Nat→Int) (x y:Int) (d:Nat):Int:=En.first (En.atQ E (x+(Fx.way (d:Int)).1) (y+(Fx.way (d:Int)).2)) 32

def Md.foe (E:Nat→Nat→Int) (x y:Int) (d:Nat):Bool:=decide (0≤Md.who E x y d) && !(decide (E (Md.who E x y d).toNat 0=1))

def Md.robotAt (c:Nat→Int) (E I:Nat→Nat→Int) (seat:Int) (k:Nat) (v:Int):Prop :=
 if E k 5≤E k 6 / 3∧0≤Gd.has I 40 seat 1 1 then v=6
 else if Nv.wayFrom (Md.foe E (E k 3) (E k 4)) 4 1≠0 then v=Nv.wayFrom (Md.foe E (E k 3) (E k 4)) 4 1
 else if 0≤Gd.find I 40 1 (E k 3) (E k 4)∧(I (Gd.find I 40 1 (E k 3) (E k 4)).toNat 0=4∨0≤Gd.slot I 40 seat) then v=5
 else if Gr.at 384 c (E k 3) (E k 4)=4 then v=9
 else Nv.IsToward c (fun _=>Gr.find 384 c 4) 1 E 32 (E k 3) (E k 4) v

def Md.IsRobot (c:Nat→Int) (E I:Nat→Nat→Int) (seat v:Int):Prop :=
 if Gd.hero E seat<0 then v=0 else Md.robotAt c E I seat (Gd.hero E seat).toNat v

theorem Md.hero_row {E:Nat→Nat→Int} {seat:Int} (h:¬Gd.hero E seat<0):∃k:Nat,k<32∧Gd.hero E seat=(k:Int)∧E k 0=1∧E k 2=seat:=by
 unfold Gd.hero at h ⊢
 rcases En.first_cases (En.heroQ E seat) 32 with ⟨he,_⟩ | ⟨k,hk,he,hq,_⟩
 ·omega
 ·simp only [En.heroQ,Bool.and_eq_true,decide_eq_true_eq] at hq
  exact ⟨k,hk,he,hq.1,hq.2⟩

theorem Md.who_row {E:Nat→Nat→Int} {x y:Int} {d:Nat}:Md.who E x y d=-1∨∃j:Nat,j<32∧Md.who E x y d=(j:Int):=by
 unfold Md.who
 rcases En.first_cases (En.atQ E (x+(Fx.way (d:Int)).1) (y+(Fx.way (d:Int)).2)) 32 with ⟨he,_⟩ | ⟨j,hj,he,_⟩
 ·exact .inl he
 ·exact .inr ⟨j,hj,he⟩

theorem Md.way_small (d:Nat):-1≤(Fx.way (d:Int)).1∧(Fx.way (d:Int)).1≤1∧-1≤(Fx.way (d:Int)).2∧(Fx.way (d:Int)).2≤1:=by
 unfold Fx.way
 split
 ·simp
 ·split
  ·simp
  ·split
   ·simp
   ·split <;> simp


open Go.RowKit

theorem Lie.copied (x:World) (e:Nat→Int) (T:TypeId):Lie (x.alloc (.cells (En.cells e) T)) x.heap.size T 11 (Ints e) :=
 Lie.congr (m:=11) (Arr.lit (heap_alloc_new x (.cells (En.cells e) T))).lie fun j hj=>by
  rcases (show j=0∨j=1∨j=2∨j=3∨j=4∨j=5∨j=6∨j=7∨j=8∨j=9∨j=10 by omega) with rfl | rfl | rfl | rfl | rfl | rfl | rfl | rfl | rfl | rfl | rfl <;> rfl

structure Gd.Shown (w x:World) (B gC gE gI cC cE cI:Nat) (s g c:Nat→Int) (E I:Nat→Nat→Int):Prop where
 box:Lie x B 28 11 (Gd.box s gC gE gI cC cE cI g)
 lists:Gd.Lists x gC gE gI c E I
 grown:w.grownBy x none

theorem Gd.Shown.on {w x y:World} {B gC gE gI cC cE cI:Nat} {s g c:Nat→Int} {E I:Nat→Nat→Int} (h:Gd.Shown w x B gC gE gI cC cE cI s g c E I) (hg:x.grownBy y none):Gd.Shown w y B gC gE gI cC cE cI s g c E I :=
 ⟨h.box.on hg,h.lists.on hg,gtr h.grown hg⟩

def Md.Says (w:World) (p:Int→Prop) (e:Ending) (w':World):Prop:=∃v,p v∧e=.returned (.int .i64 v)∧w.grownBy w' none

theorem Md.find_bd (f:Nat→Int) (kind:Int):∀(n k:Nat),-1≤Gr.findFrom f kind n k∧Gr.findFrom f kind n k≤(k:Int)+n
 | 0,k=>by unfold Gr.findFrom;omega
 | n+1,k=>by
  unfold Gr.findFrom
  have:=Md.find_bd f kind n (k+1)
  split <;> omega


open Go.RowKit

structure Md.Good (c:Nat→Int) (E I:Nat→Nat→Int):Prop where
 fine:Md.Fine E
 gens:En.Gens 32 E
 words:Nv.Words 32 E
 ok:Gd.Ok c 40 I

theorem Md.good_of {c:Nat→Int} {E I:Nat→Nat→Int} (hE:Md.Fine E) (hz:∀k,k<32→(0≤E k 1∧E k 1≤255)∧(E k 0=0→E k 3=0∧E k 4=0)) (hok:Gd.Ok c 40 I):Md.Good c E I :=
 ⟨hE,fun k hk=>(hz k hk).1,fun k hk=>by
  by_cases k0:E k 0=0
  ·have:=(hz k hk).2 k0
   omega
  ·have:=hE k hk k0
   omega,hok⟩


open Go.RowKit

theorem Gd.ent_box (w:World) (e:Nat→Int):(w.alloc (.cells (En.cells e) 42)).cell? ⟨w.heap.size,3,none⟩=some (.int .i64 (e 3))∧(w.alloc (.cells (En.cells e) 42)).cell? ⟨w.heap.size,4,none⟩=some (.int .i64 (e 4))∧(w.alloc (.cells (En.cells e) 42)).cell? ⟨w.heap.size,5,none⟩=some (.int .i64 (e 5))∧(w.alloc (.cells (En.cells e) 42)).cell? ⟨w.heap.size,6,none⟩=some (.int .i64 (e 6)):=by
 have h:=Arr.lit (heap_alloc_new w (.cells (En.cells e) 42))
 exact ⟨h.cell (i:=3) (by show 3<11;omega),h.cell (i:=4) (by show 4<11;omega),h.cell (i:=5) (by show 5<11;omega),h.cell (i:=6) (by show 6<11;omega)⟩

theorem Gd.ent_far {w x:World} {B gC gE gI cC cE cI:Nat} {s g c:Nat→Int} {E I:Nat→Nat→Int} (h:Gd.Boxed w x B gC gE gI cC cE cI s g c E I):x.heap.size≠gE∧x.heap.size≠gI∧x.heap.size≠B:=by
 have h1:=h.hold.lists.ents.lt
 have h2:=h.hold.lists.items.lt
 have h3:=h.hold.box.lt
 exact ⟨by omega,by omega,by omega⟩

theorem Gd.Boxed.items {w x y:World} {B gC gE gI cC cE cI:Nat} {s g c:Nat→Int} {E I J:Nat→Nat→Int} (h:Gd.Boxed w x B gC gE gI cC cE cI s g c E I) (hg:x.grownBy y (some gI)) (hI:Lie y gI 47 160 (Gd.flat J)):Gd.Boxed w y B gC gE gI cC cE cI s g c E J:=by
 have h1:=h.at_
 have h2:=h.lI
 exact { h with hold:=h.hold.items hg hI,res:=h.res.grown hg (by simp;omega),grown:=gow h.grown hg (fun n e=>by cases e;omega) }

theorem Gd.BoxW.ents {w x y:World} {B gC gE gI cC cE cI:Nat} {s g c:Nat→Int} {E I F:Nat→Nat→Int} (h:Gd.BoxW w x B gC gE gI cC cE cI s g c E I) (hg:x.grownBy y (some gE)) (hE:Lie y gE 42 352 (En.flat F)):Gd.BoxW w y B gC gE gI cC cE cI s g c F I:=by
 have h1:=h.at_
 have h2:=h.lE
 exact { h with hold:=h.hold.ents hg hE,res:=h.res.grown hg (by simp;omega),grown:=gow h.grown hg (fun n e=>by cases e;omega) }

theorem Gd.BoxW.stat {w x:World} {B gC gE gI cC cE cI:Nat} {s g c:Nat→Int} {E I:Nat→Nat→Int} (h:Gd.BoxW w x B gC gE gI cC cE cI s g c E I) (k j:Nat) (hj:j<11) (v:Int):Gd.BoxW w (x.setCell ⟨gE,k*11+j,none⟩ (.int .i64 v)) B gC gE gI cC cE cI s g c (Gd.set E k j v) I :=
 h.ents (gs0 x gE (k*11+j) (.int .i64 v)) (h.hold.lists.ents.stat k j hj v)


open Go.RowKit

theorem mPlace_at (x0 x1 x2 x3 x4 x5 x6 x7 x8 x9 x10:Int) (w:World):Calls Tryz.prog 178 #[.agg #[.int .i64 x0,.int .i64 x1,.int .i64 x2,.int .i64 x3,.int .i64 x4,.int .i64 x5,.int .i64 x6,.int .i64 x7,.int .i64 x8,.int .i64 x9,.int .i64 x10]] w fun x w'=>x=.returned (.complex .f64 (floatOfInt .f64 x3) (floatOfInt .f64 x4))∧w.grownBy w' none:=by
 go_enter Tryz.func178,Tryz.ntmps178
 go_wp2
 go_ret
 exact ⟨rfl,World.grownBy_alloc _ _ _⟩

theorem mPlace_any (e:Nat→Int) (w:World):Calls Tryz.prog 178 #[.agg (En.cells e)] w fun x w'=>x=.returned (.complex .f64 (floatOfInt .f64 (e 3)) (floatOfInt .f64 (e 4)))∧w.grownBy w' none:=mPlace_at _ _ _ _ _ _ _ _ _ _ _ w

theorem mParts_any (a b : Nat) (x y : Int) (w : World) (ha : Fl.Rep a x) (hb : Fl.Rep b y) (x1 : -9007199254740992 < x) (x2 : x < 9007199254740992) (y1 : -9007199254740992 < y) (y2 : y < 9007199254740992) :
    Calls Tryz.prog 177 #[.complex .f64 a b] w fun e w'=>e=.returned (.tuple #[.int .i64 x,.int .i64 y])∧w'=w:=by
  have t1:=Fl.rep_toInt ha x1 x2
  have t2:=Fl.rep_toInt hb y1 y2
  have hr1:=fun w:World=>run_convert_float_int (P:=Tryz.prog) w 144 3 .f64 .i64 a _ (by kernel_rfl) (by kernel_rfl) t1
  have hr2:=fun w:World=>run_convert_float_int (P:=Tryz.prog) w 144 3 .f64 .i64 b _ (by kernel_rfl) (by kernel_rfl) t2
  clear t1 t2 ha hb
  go_enter Tryz.func177,Tryz.ntmps177
  go_wp2
  go_ret2
  exact ⟨rfl,rfl⟩

theorem mAhead_any (e : Nat → Int) (d : Int) (w : World) (x0 : 0 ≤ e 3) (x9 : e 3 < 24) (y0 : 0 ≤ e 4) (y9 : e 4 < 16) :
    Calls Tryz.prog 179 #[.agg (En.cells e),.int .i64 d] w fun x w'=>(∃a b,x=.returned (.complex .f64 a b)∧Fl.Rep a (e 3+(Fx.way d).1)∧Fl.Rep b (e 4+(Fx.way d).2))∧w.grownBy w' none:=by
  have wb:=Fx.way_bd d
  obtain ⟨d1,d2,d3,d4⟩:=wb
  obtain ⟨r1,e1,R1⟩:=Fl.rep_add (Fl.rep_int (e 3) (by omega) (by omega)) (Fl.rep_int (Fx.way d).1 (by omega) (by omega)) (by omega) (by omega)
  obtain ⟨r2,e2,R2⟩:=Fl.rep_add (Fl.rep_int (e 4) (by omega) (by omega)) (Fl.rep_int (Fx.way d).2 (by omega) (by omega)) (by omega) (by omega)
  have hsum:=fun wq:World=>run_complex_sum (P:=Tryz.prog) wq .add (.inl rfl) 141 .f64 (floatOfInt .f64 (e 3)) (floatOfInt .f64 (e 4)) (floatOfInt .f64 (Fx.way d).1) (floatOfInt .f64 (Fx.way d).2) r1 r2 (by unfold cSumBits;rw [e1,e2];rfl)
  have hR:=hide (And.intro R1 R2)
  have cp:=hide (fun wq=>mPlace_any e wq)
  have hu:Hid (En.cells e=#[.int .i64 (e 0),.int .i64 (e 1),.int .i64 (e 2),.int .i64 (e 3),.int .i64 (e 4),.int .i64 (e 5),.int .i64 (e 6),.int .i64 (e 7),.int .i64 (e 8),.int .i64 (e 9),.int .i64 (e 10)]):=rfl
  rw [uh hu] at cp ⊢
  have hgw:Hid (w.grownBy (w.alloc (.cells #[.int .i64 (e 0),.int .i64 (e 1),.int .i64 (e 2),.int .i64 (e 3),.int .i64 (e 4),.int .i64 (e 5),.int .i64 (e 6),.int .i64 (e 7),.int .i64 (e 8),.int .i64 (e 9),.int .i64 (e 10)] 42)) none):=World.grownBy_alloc _ _ _
  clear R1 R2 e1 e2 x0 x9 y0 y9 d1 d2 d3 d4
  go_enter Tryz.func179,Tryz.ntmps179
  go_wp2_with fail
  refine (way_any _ _).mono ?_
  rintro x w1 ⟨rfl,hw⟩
  subst w1
  go_wp2_with fail
  refine (uh cp _).mono ?_
  rintro x w1 ⟨rfl,hg⟩
  have hg1:=hide (gtr (uh hgw) hg)
  clear hg hgw
  go_wp2
  go_ret
  exact ⟨⟨_,_,rfl,(uh hR).1,(uh hR).2⟩,uh hg1⟩

theorem mLess (e f : Nat → Int) (x0 : 0 ≤ e 3) (x9 : e 3 < 24) (y0 : 0 ≤ e 4) (y9 : e 4 < 16) (u0 : 0 ≤ f 3) (u9 : f 3 < 24) (v0 : 0 ≤ f 4) (v9 : f 4 < 16) :
    ∃r1 r2,(∀wq:World,(binOp .sub 141 (.complex .f64 (floatOfInt .f64 (f 3)) (floatOfInt .f64 (f 4))) (.complex .f64 (floatOfInt .f64 (e 3)) (floatOfInt .f64 (e 4)))).run Tryz.prog wq=.ok (.complex .f64 r1 r2) wq)∧Fl.Rep r1 (f 3 - e 3)∧Fl.Rep r2 (f 4 - e 4):=by
  obtain ⟨r1,e1,R1⟩:=Fl.rep_sub (Fl.rep_int (f 3) (by omega) (by omega)) (Fl.rep_int (e 3) (by omega) (by omega)) (by omega) (by omega)
  obtain ⟨r2,e2,R2⟩:=Fl.rep_sub (Fl.rep_int (f 4) (by omega) (by omega)) (Fl.rep_int (e 4) (by omega) (by omega)) (by omega) (by omega)
  exact ⟨r1,r2,fun wq=>run_complex_sum (P:=Tryz.prog) wq .sub (.inr rfl) 141 .f64 _ _ _ _ r1 r2 (by unfold cSumBits;rw [e1,e2];rfl),R1,R2⟩

end Go.Proofs.YtbanjoflgoiegabGreat
