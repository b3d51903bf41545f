import Derived.Test.YtkcooekhigmioaaGreatPart21
import Derived.Test.YtkcooekhigmioaaGreatPart22
import Derived.Deep.Fields
import Derived.Test.YtkcooekhigmioaaGreatProg
namespace Go.Proofs.YtkcooekhigmioaaGreat
open Go.RowKit

def Sn.allB (q:Nat→Bool):Nat→Bool
 | 0=>true
 | n+1=>Sn.allB q n && q n

theorem Sn.allB_yes {q:Nat→Bool}:∀{n:Nat},(∀k,k<n→q k=true)→Sn.allB q n=true
 | 0,_=>rfl
 | n+1,h=>by
  show (Sn.allB q n && q n)=true
  rw [Sn.allB_yes (fun k hk=>h k (by omega)),h n (by omega)]
  rfl

theorem Sn.allB_no {q:Nat→Bool} {k:Nat} (hk:q k=false):∀{n:Nat},k<n→Sn.allB q n=false
 | 0,h=>absurd h (by omega)
 | n+1,h=>by
  show (Sn.allB q n && q n)=false
  by_cases e:k=n
  ·rw [←e,hk,Bool.and_false]
  ·rw [Sn.allB_no hk (by omega),Bool.false_and]

theorem Sn.allB_iff {q:Nat→Bool} {n:Nat}:Sn.allB q n=true↔∀k,k<n→q k=true:=by
 constructor
 ·intro h k hk
  cases e:q k with
  | true=>rfl
  | false=>rw [Sn.allB_no e hk] at h;exact absurd h (by simp)
 ·exact Sn.allB_yes

set_option maxRecDepth 8000 in
set_option maxHeartbeats 3200000 in
theorem snEqualB_any (G H cap cap':Nat) (c d:Nat→Int) (w:World) (h1:Lie w G 5 384 (Byts c)) (h2:Lie w H 5 384 (Byts d)) :
  Calls Tryz.prog 44 #[.slice (some ⟨G,0,none⟩) 384 cap,.slice (some ⟨H,0,none⟩) 384 cap'] w (Says w (.bool (Sn.allB (fun i=>c i == d i) 384))):=by
 have h1':=hide h1
 have h2':=hide h2
 obtain ⟨A,hA⟩:∃A,Sn.allB (fun i=>c i == d i) 384=A:=⟨_,rfl⟩
 have hno:Hid (∀k,k<384→(fun i=>c i == d i) k=false→false=A):=fun k hk h=>by rw [←hA,Sn.allB_no h hk]
 have hyes:Hid ((∀k,k<384→(fun i=>c i == d i) k=true)→true=A):=fun h=>by rw [←hA,Sn.allB_yes h]
 rw [hA]
 clear h1 h2 hA
 go_enter Tryz.func44,Tryz.ntmps44
 go_wp2_with fail
 go_loopw [5,13] (fun v5 v13 wr=>∃k:Nat,k≤384∧v13=.int .i64 (k:Int)∧Hid (∀j,j<k→(fun i=>c i == d i) j=true)∧Hid (w.grownBy wr none)) (fun _ v13 _=>400 - (intOf v13).toNat)
 case atStart=>exact ⟨0,by omega,rfl,fun j hj=>absurd hj (by omega),World.grownBy.refl _ _⟩
 case round =>
  obtain ⟨k,hk,rfl,hall,hg⟩:=hrel
  by_cases hlt:k<384
  ·have hlt':(k:Int)<384:=by omega
   have HL:=hide hlt
   clear hlt hk
   have u0:wr.cell? ⟨G,k,none⟩=some (.int .u8 (c k)):=((uh h1').on (uh hg)).cell (uh HL)
   have v0:wr.cell? ⟨H,k,none⟩=some (.int .u8 (d k)):=((uh h2').on (uh hg)).cell (uh HL)
   obtain ⟨p,hpe⟩:∃p,(c k == d k)=p:=⟨_,rfl⟩
   have hq:Hid ((fun i=>c i == d i) k=p):=hpe
   have hp:(c k != d k)=!p:=by rw [←hpe];rfl
   clear hpe
   have hdr:Hid (∀m,w.grownBy (wr.drewN m) none):=fun m=>gdw (uh hg) m
   cases p with
   | true =>
    go_wp2_with fail
    go_quiet (fail)
    go_wp2
    go_roundw
    case rel=>exact ⟨k+1,by have:=uh HL;omega,by go_num,fun j hj=>by
     by_cases e:j=k
     ·rw [e];exact uh hq
     ·exact uh hall j (by omega),uh hdr _⟩
    case measure=>simp [intOf];have:=uh HL;omega
   | false =>
    have hf:=hide (uh hno k (uh HL) (uh hq))
    go_wp2_with fail
    go_quiet (fail)
    have hgf:=hide (uh hdr nq)
    go_wp2
    go_ret
    exact ⟨ret_bool (uh hf),uh hgf⟩
  ·have hge:¬(k:Int)<384:=by omega
   have hf:=hide (uh hyes (fun j hj=>uh hall j (by omega)))
   clear hlt hk
   go_wp2
   go_ret
   exact ⟨ret_bool (uh hf),uh hg⟩


open Go.RowKit

theorem Lie.copied (x:World) (e:Nat→Int) (T:TypeId):Lie (x.alloc (.cells (En.cells e) T)) x.heap.size T 11 (Ints e) :=
 Lie.congr (m:=11) (Arr.lit (heap_alloc_new x (.cells (En.cells e) T))).lie fun j hj=>by
  rcases (show j=0∨j=1∨j=2∨j=3∨j=4∨j=5∨j=6∨j=7∨j=8∨j=9∨j=10 by omega) with rfl | rfl | rfl | rfl | rfl | rfl | rfl | rfl | rfl | rfl | rfl <;> rfl

structure Gd.Shown (w x:World) (B gC gE gI cC cE cI:Nat) (s g c:Nat→Int) (E I:Nat→Nat→Int):Prop where
 box:Lie x B 31 11 (Gd.box s gC gE gI cC cE cI g)
 lists:Gd.Lists x gC gE gI c E I
 grown:w.grownBy x none

theorem Gd.Shown.on {w x y:World} {B gC gE gI cC cE cI:Nat} {s g c:Nat→Int} {E I:Nat→Nat→Int} (h:Gd.Shown w x B gC gE gI cC cE cI s g c E I) (hg:x.grownBy y none):Gd.Shown w y B gC gE gI cC cE cI s g c E I :=
 ⟨h.box.on hg,h.lists.on hg,gtr h.grown hg⟩

def Md.Says (w:World) (p:Int→Prop) (e:Ending) (w':World):Prop:=∃v,p v∧e=.returned (.int .i64 v)∧w.grownBy w' none

theorem Md.find_bd (f:Nat→Int) (kind:Int):∀(n k:Nat),-1≤Gr.findFrom f kind n k∧Gr.findFrom f kind n k≤(k:Int)+n
 | 0,k=>by unfold Gr.findFrom;omega
 | n+1,k=>by
  unfold Gr.findFrom
  have:=Md.find_bd f kind n (k+1)
  split <;> omega

set_option maxRecDepth 8000 in
set_option maxHeartbeats 12800000 in
theorem refRobot_any (s g c:Nat→Int) (E I:Nat→Nat→Int) (gC gE gI cC cE cI:Nat) (seat:Int) (w:World) (hL:Gd.Lists w gC gE gI c E I) (hc:∀i,0≤c i∧c i≤255) (hcE:32≤cE) (hE:Md.Fine E) :
  Calls Tryz.prog 59 #[.agg (Gd.world s gC gE gI cC cE cI g),.int .i64 seat] w (Md.Says w (Md.IsRobot c E I seat)):=by
 obtain ⟨w0,hw0⟩:∃w0,w0=w.alloc (.cells (Gd.world s gC gE gI cC cE cI g) 31):=⟨_,rfl⟩
 have hg0:w.grownBy w0 none:=by rw [hw0];exact World.grownBy_alloc _ _ _
 have hO:Hid (Gd.Shown w w0 w.heap.size gC gE gI cC cE cI s g c E I):=by
  refine ⟨?_,hL.on hg0,hg0⟩
  rw [hw0]
  exact (Arr.world (heap_alloc_new w _)).lie
 have hc':=hide hc
 have hcE':=hide hcE
 have hE':=hide hE
 have hdef:Hid (∀v,Md.IsRobot c E I seat v↔if Gd.hero E seat<0 then v=0 else Md.robotAt c E I seat (Gd.hero E seat).toNat v):=fun v=>Iff.rfl
 have ch:=hide (refHero7_any gE cE E seat w0 (uh hO).lists.own)
 have hrow:=hide (@Md.hero_row E seat)
 obtain ⟨h,hh⟩:∃h,Gd.hero E seat=h:=⟨_,rfl⟩
 rw [hh] at ch hdef hrow
 clear hL hc hcE hE hg0 hh
 unfold Gd.world at hw0 ⊢
 go_enter Tryz.func59,Tryz.ntmps59
 go_upto_region 1 with fail
 rw [←hw0]
 clear hw0
 obtain ⟨B,hB⟩:∃B,w.heap.size=B:=⟨_,rfl⟩
 rw [hB] at hO ⊢
 clear hB
 have q5:=(uh hO).box.eleven.2.2.2.2.2.1
 go_wp2_with fail
 refine (uh ch).mono ?_
 rintro e w1 ⟨rfl,hg1⟩
 have hO1:=hide ((uh hO).on hg1)
 clear q5 ch hg1 hO
 by_cases hneg:h<0
 ·have hfin:Hid (Md.Says w (Md.IsRobot c E I seat) (.returned (.int .i64 0)) w1):=⟨0,(uh hdef 0).2 (by rw [if_pos hneg]),rfl,(uh hO1).grown⟩
  go_wp2
  go_ret
  exact uh hfin
 obtain ⟨k,hk,rfl,hk0,-⟩:=uh hrow (by omega)
 have hto:Hid (∀v,Md.robotAt c E I seat k v→Md.IsRobot c E I seat v):=fun v hv=>(uh hdef v).2 (by
  rw [if_neg (by omega),Int.toNat_natCast]
  exact hv)
 obtain ⟨x0,x9,y0,y9,m0,m9⟩:=uh hE' k hk (by omega)
 have hk':(k:Int)<32:=by omega
 have HK:=hide hk
 have q5:=(uh hO1).box.eleven.2.2.2.2.2.1
 obtain ⟨u0,u1,u2,u3,u4,u5,u6,u7,u8,u9,u10⟩:=(uh hO1).lists.own.ents.row hk
 have hQ:=hide (Lie.copied w1 (E k) 70)
 have hO2:=hide ((uh hO1).on (World.grownBy_alloc w1 (.cells (En.cells (E k)) 70) none))
 clear hk hk0 hneg hrow hE' hdef
 unfold En.cells at hQ hO2
 go_upto_region 5 with fail
 obtain ⟨Q,hQe⟩:∃Q,w1.heap.size=Q:=⟨_,rfl⟩
 rw [hQe] at hQ ⊢
 generalize w1.alloc (.cells #[.int .i64 (E k 0),.int .i64 (E k 1),.int .i64 (E k 2),.int .i64 (E k 3),.int .i64 (E k 4),.int .i64 (E k 5),.int .i64 (E k 6),.int .i64 (E k 7),.int .i64 (E k 8),.int .i64 (E k 9),.int .i64 (E k 10)] 70)=w2 at hQ hO2 ⊢
 clear hQe q5 u0 u1 u2 u3 u4 u5 u6 u7 u8 u9 u10 hO1
 have q4:=(uh hO2).box.eleven.2.2.2.2.1
 have q5:=(uh hO2).box.eleven.2.2.2.2.2.1
 have q6:=(uh hO2).box.eleven.2.2.2.2.2.2.1
 have z3:w2.cell? ⟨Q,3,none⟩=some (.int .i64 (E k 3)):=(uh hQ).cell (c:=3) (by omega)
 have z4:w2.cell? ⟨Q,4,none⟩=some (.int .i64 (E k 4)):=(uh hQ).cell (c:=4) (by omega)
 have z5:w2.cell? ⟨Q,5,none⟩=some (.int .i64 (E k 5)):=(uh hQ).cell (c:=5) (by omega)
 have z6:w2.cell? ⟨Q,6,none⟩=some (.int .i64 (E k 6)):=(uh hQ).cell (c:=6) (by omega)
 have hat:Hid (∀v,Md.robotAt c E I seat k v↔if E k 5≤E k 6 / 3∧0≤Gd.has I 40 seat 1 1 then v=6 else if Nv.wayFrom (Md.foe E (E k 3) (E k 4)) 4 1≠0 then v=Nv.wayFrom (Md.foe E (E k 3) (E k 4)) 4 1 else if 0≤Gd.find I 40 1 (E k 3) (E k 4)∧(I (Gd.find I 40 1 (E k 3) (E k 4)).toNat 0=4∨0≤Gd.slot I 40 seat) then v=5 else if Gr.at 384 c (E k 3) (E k 4)=4 then v=9 else Nv.IsToward c (fun _=>Gr.find 384 c 4) 1 E 32 (E k 3) (E k 4) v):=fun v=>Iff.rfl
 have cP:=hide (refPotion_same gI 40 cI I seat w2 (uh hO2).lists.its)
 obtain ⟨P,hP⟩:∃P,Gd.has I 40 seat 1 1=P:=⟨_,rfl⟩
 rw [hP] at cP hat
 clear hP
 obtain ⟨p,hp⟩:∃p:Bool,decide (E k 5≤E k 6 / 3∧0≤P)=p:=⟨_,rfl⟩
 go_cut [35] from 12 to 34 (fun va wx=>va=.bool p∧wx=w2)
 case first =>
  have hd:(E k 6).tdiv 3=E k 6 / 3:=Int.tdiv_eq_ediv_of_nonneg m0
  by_cases h1:E k 5≤E k 6 / 3
  ·by_cases h2:0≤P
   ·obtain rfl:p=true:=by rw [←hp];simp [h1,h2]
    go_wp2_with fail
    refine (uh cP).mono ?_
    rintro e wy ⟨rfl,hy⟩
    subst wy
    go_wp2_with fail
    go_meet
    exact ⟨rfl,rfl⟩
   ·obtain rfl:p=false:=by rw [←hp];simp [h2]
    go_wp2_with fail
    refine (uh cP).mono ?_
    rintro e wy ⟨rfl,hy⟩
    subst wy
    go_wp2_with fail
    go_meet
    exact ⟨by simp [h2],rfl⟩
  ·obtain rfl:p=false:=by rw [←hp];simp [h1]
   go_wp2_with fail
   go_meet
   exact ⟨rfl,rfl⟩
 case rest =>
  obtain ⟨rfl,hwe⟩:=hcut
  subst hwe
  clear z5 z6 cP m0 m9
  cases p
  rotate_left
  ·have hfin:Hid (Md.Says w (Md.IsRobot c E I seat) (.returned (.int .i64 6)) wc):=⟨6,uh hto 6 ((uh hat 6).2 (by rw [if_pos (by simpa using hp)])),rfl,(uh hO2).grown⟩
   clear hp
   go_wp2
   go_ret
   exact uh hfin
  have hat2:Hid (∀v,(if Nv.wayFrom (Md.foe E (E k 3) (E k 4)) 4 1≠0 then v=Nv.wayFrom (Md.foe E (E k 3) (E k 4)) 4 1 else if 0≤Gd.find I 40 1 (E k 3) (E k 4)∧(I (Gd.find I 40 1 (E k 3) (E k 4)).toNat 0=4∨0≤Gd.slot I 40 seat) then v=5 else if Gr.at 384 c (E k 3) (E k 4)=4 then v=9 else Nv.IsToward c (fun _=>Gr.find 384 c 4) 1 E 32 (E k 3) (E k 4) v)→Md.IsRobot c E I seat v):=fun v hv=>uh hto v ((uh hat v).2 (by rw [if_neg (by simpa using hp)];exact hv))
  clear hp hat hto
  obtain ⟨x,hx⟩:∃x,E k 3=x:=⟨_,rfl⟩
  obtain ⟨y,hy⟩:∃y,E k 4=y:=⟨_,rfl⟩
  rw [hx] at z3 x0 x9 hat2
  rw [hy] at z4 y0 y9 hat2
  have hQ3:Hid (∀z,wc.grownBy z none→z.cell? ⟨Q,3,none⟩=some (.int .i64 x)∧z.cell? ⟨Q,4,none⟩=some (.int .i64 y)):=fun z hz=>by
   have h3:=((uh hQ).on hz).cell (c:=3) (by omega)
   have h4:=((uh hQ).on hz).cell (c:=4) (by omega)
   rw [←hx,←hy]
   exact ⟨h3,h4⟩
  clear hx hy hQ
  go_wp2_with fail
  go_loopw [7,8,9,10] (fun v7 v8 v9 v10 wr=>∃d:Nat,1≤d∧d≤5∧v7=.int .i64 (d:Int)∧wr=wc∧Hid (∀j,1≤j→j<d→Md.foe E x y j=false)) (fun v7 _ _ _ _=>10 - (intOf v7).toNat)
  case atStart=>exact ⟨1,by omega,by omega,rfl,rfl,fun j h1 h2=>by omega⟩
  case round =>
   obtain ⟨d,hd1,hd5,rfl,hwe,hno⟩:=hrel
   subst hwe
   by_cases hlt:d≤4
   ·have hlt':(d:Int)≤4:=by omega
    have HD:=hide (show 1≤d∧d≤4 from ⟨hd1,hlt⟩)
    have cw:=hide (fun wq=>refWay_any (d:Int) wq)
    obtain ⟨s1,s2,s3,s4⟩:=Md.way_small d
    have ca:=hide (entRefAt_same gE 32 cE E (x+(Fx.way (d:Int)).1) (y+(Fx.way (d:Int)).2) wr (uh hO2).lists.own.ents)
    have hwho:=hide (@Md.who_row E x y d)
    have hfd:Hid (Md.foe E x y d=(decide (0≤Md.who E x y d) && !(decide (E (Md.who E x y d).toNat 0=1)))):=rfl
    have hwd:Hid (Md.who E x y d=En.first (En.atQ E (x+(Fx.way (d:Int)).1) (y+(Fx.way (d:Int)).2)) 32):=rfl
    rw [←uh hwd] at ca
    obtain ⟨dx,hdx⟩:∃z,(Fx.way (d:Int)).1=z:=⟨_,rfl⟩
    obtain ⟨dy,hdy⟩:∃z,(Fx.way (d:Int)).2=z:=⟨_,rfl⟩
    obtain ⟨h,hh⟩:∃z,Md.who E x y d=z:=⟨_,rfl⟩
    rw [hdx] at s1 s2 cw ca
    rw [hdy] at s3 s4 cw ca
    rw [hh] at ca hwho hfd
    clear hdx hdy hh hwd hd1 hd5 hlt
    have w1:IntKind.i64.wrap (x+dx)=x+dx:=by rw [IntKind.wrap_i64];omega
    have w2:IntKind.i64.wrap (y+dy)=y+dy:=by rw [IntKind.wrap_i64];omega
    go_wp2_with fail
    refine (uh cw _).mono ?_
    rintro e wy ⟨rfl,hy⟩
    subst wy
    go_wp2_with fail
    refine (uh ca).mono ?_
    rintro e wy ⟨rfl,hy⟩
    subst wy
    clear ca cw
    rcases uh hwho with rfl | ⟨j,hj,rfl⟩
    ·have hf:Hid (Md.foe E x y d=false):=(show Md.foe E x y d=false by rw [uh hfd];rfl)
     clear hfd hwho
     go_wp2
     go_roundw
     case rel=>exact ⟨d+1,by omega,by have:=uh HD;omega,by go_num,by first | rfl | trivial,fun j h1 h2=>by
      by_cases e:j=d
      ·rw [e];exact uh hf
      ·exact uh hno j h1 (by omega)⟩
     case measure=>simp [intOf];have:=uh HD;omega
    ·have u0:=((uh hO2).lists.own.ents.row hj).1
     have hj':(j:Int)<32:=by omega
     rw [Int.toNat_natCast] at hfd
     by_cases h1:E j 0=1
     ·have hf:Hid (Md.foe E x y d=false):=(show Md.foe E x y d=false by rw [uh hfd,h1];simp)
      rw [h1] at u0
      clear hfd hwho h1 hj
      go_wp2
      go_roundw
      case rel=>exact ⟨d+1,by omega,by have:=uh HD;omega,by go_num,by first | rfl | trivial,fun j h1 h2=>by
       by_cases e:j=d
       ·rw [e];exact uh hf
       ·exact uh hno j h1 (by omega)⟩
      case measure=>simp [intOf];have:=uh HD;omega
     ·have hf:Hid (Md.foe E x y d=true):=(show Md.foe E x y d=true by rw [uh hfd];simp [h1])
      have h1':(E j 0 == 1)=false:=by simpa using h1
      have hw:Hid (Nv.wayFrom (Md.foe E x y) 4 1=(d:Int)):=Nv.way_hit 4 d 1 (uh hno) (uh hf) (uh HD).1 (by have:=(uh HD).2;omega)
      have hfin:Hid (Md.Says w (Md.IsRobot c E I seat) (.returned (.int .i64 (d:Int))) wr):=⟨(d:Int),uh hat2 _ (by rw [uh hw,if_pos (by have:=(uh HD).1;omega)]),rfl,(uh hO2).grown⟩
      clear hfd hwho h1 hj hw hf
      go_wp2
      go_ret
      exact uh hfin
   ·obtain rfl:d=5:=by omega
    have hge:¬((5:Nat):Int)≤4:=by omega
    have hw:Hid (Nv.wayFrom (Md.foe E x y) 4 1=0):=Nv.way_none 4 1 fun j h1 h2=>uh hno j h1 (by omega)
    have hat3:Hid (∀v,(if 0≤Gd.find I 40 1 x y∧(I (Gd.find I 40 1 x y).toNat 0=4∨0≤Gd.slot I 40 seat) then v=5 else if Gr.at 384 c x y=4 then v=9 else Nv.IsToward c (fun _=>Gr.find 384 c 4) 1 E 32 x y v)→Md.IsRobot c E I seat v):=fun v hv=>uh hat2 v (by rw [uh hw,if_neg (by simp)];exact hv)
    clear hlt hd1 hd5 hno hw hat2
    have ci:=hide (refIn7_same gI 40 cI I 1 x y wr (uh hO2).lists.its)
    have cs:=hide (refSlot_same gI 40 cI I seat wr (uh hO2).lists.its)
    have hfc:=hide (Gd.find_cases I 40 1 x y)
    obtain ⟨f,hf⟩:∃f,Gd.find I 40 1 x y=f:=⟨_,rfl⟩
    obtain ⟨S,hS⟩:∃S,Gd.slot I 40 seat=S:=⟨_,rfl⟩
    rw [hf] at ci hat3 hfc
    rw [hS] at cs hat3
    clear hf hS
    obtain ⟨p,hp⟩:∃p:Bool,decide (0≤f∧(I f.toNat 0=4∨0≤S))=p:=⟨_,rfl⟩
    go_wp2_with fail
    refine (uh ci).mono ?_
    rintro e wy ⟨rfl,hy⟩
    subst wy
    clear ci
    go_upto_region 15 with fail
    go_cut [92] from 36 to 91 (fun va wx=>va=.bool p∧wx=wr)
    case first =>
     rcases uh hfc with ⟨rfl,-⟩ | ⟨j,hj,rfl,-⟩
     ·obtain rfl:p=false:=by rw [←hp];simp
      clear hp hfc
      go_wp2_with fail
      go_meet
      exact ⟨rfl,rfl⟩
     ·have v0:=((uh hO2).lists.its.row hj).1
      have hj':(j:Int)<40:=by omega
      rw [Int.toNat_natCast] at hp
      clear hfc hj
      by_cases h4:I j 0=4
      ·obtain rfl:p=true:=by rw [←hp];simp [h4]
       rw [h4] at v0
       clear hp h4
       go_wp2_with fail
       go_meet
       exact ⟨rfl,rfl⟩
      ·have h4':(I j 0 == 4)=false:=by simpa using h4
       by_cases h5:0≤S
       ·obtain rfl:p=true:=by rw [←hp];simp [h5]
        clear hp h4
        go_wp2_with fail
        refine (uh cs).mono ?_
        rintro e wy ⟨rfl,hy⟩
        subst wy
        go_wp2_with fail
        go_meet
        exact ⟨by first | rfl | simp [h5],rfl⟩
       ·obtain rfl:p=false:=by rw [←hp];simp [h4,h5]
        clear hp h4
        go_wp2_with fail
        refine (uh cs).mono ?_
        rintro e wy ⟨rfl,hy⟩
        subst wy
        go_wp2_with fail
        go_meet
        exact ⟨by first | rfl | simp [h5],rfl⟩
    case rest =>
     obtain ⟨rfl,hwe⟩:=hcut
     subst hwe
     clear cs hfc
     cases p
     rotate_left
     ·have hfin:Hid (Md.Says w (Md.IsRobot c E I seat) (.returned (.int .i64 5)) wc):=⟨5,uh hat3 5 (by rw [if_pos (by simpa using hp)]),rfl,(uh hO2).grown⟩
      clear hp
      go_wp2
      go_ret
      exact uh hfin
     have hat4:Hid (∀v,(if Gr.at 384 c x y=4 then v=9 else Nv.IsToward c (fun _=>Gr.find 384 c 4) 1 E 32 x y v)→Md.IsRobot c E I seat v):=fun v hv=>uh hat3 v (by rw [if_neg (by simpa using hp)];exact hv)
     have cg:=hide (refAt_any wc.heap.size (some ⟨gC,0,none⟩) 384 cC c x y wc (uh hO2).lists.vec (uh hc'))
     obtain ⟨a,ha⟩:∃a,Gr.at 384 c x y=a:=⟨_,rfl⟩
     rw [ha] at cg hat4
     clear hp hat3 ha
     go_wp2_with fail
     refine (uh cg).mono ?_
     rintro e wy ⟨rfl,hy⟩
     subst wy
     clear cg
     by_cases h4:a=4
     ·have hfin:Hid (Md.Says w (Md.IsRobot c E I seat) (.returned (.int .i64 9)) wc):=⟨9,uh hat4 9 (by rw [if_pos h4]),rfl,(uh hO2).grown⟩
      subst h4
      go_wp2
      go_ret
      exact uh hfin
     have h4':(a == 4)=false:=by simpa using h4
     have hat5:Hid (∀v,Nv.IsToward c (fun _=>Gr.find 384 c 4) 1 E 32 x y v→Md.IsRobot c E I seat v):=fun v hv=>uh hat4 v (by rw [if_neg h4];exact hv)
     clear h4 hat4
     have cf:=hide (fun z (hz:wc.grownBy z none)=>refFind_any z.heap.size (some ⟨gC,0,none⟩) 384 cC c 4 z ((uh hO2).lists.on hz).vec (uh hc'))
     have hfb:=Md.find_bd c 4 384 0
     obtain ⟨F,hF⟩:∃F,Gr.find 384 c 4=F:=⟨_,rfl⟩
     have hfb':-1≤F∧F≤384:=by rw [←hF];exact hfb
     rw [hF] at cf hat5
     have hgz:=hide (gd1 (World.grownBy_alloc wc (.cells #[.int .i64 F] 3) none))
     have ct:Hid (∀b,b=wc.heap.size→Calls Tryz.prog 95 #[.slice (some ⟨gC,0,none⟩) 384 cC,.slice (some ⟨gE,0,none⟩) 32 cE,.int .i64 x,.int .i64 y,.slice (some ⟨b,0,none⟩) 1 1] (wc.alloc (.cells #[.int .i64 F] 3)).drew (Nv.SaysToward (wc.alloc (.cells #[.int .i64 F] 3)).drew c (fun _=>F) 1 E 32 x y)):=fun b hb=>by
      subst hb
      have hL:=(uh hO2).lists.on (uh hgz)
      exact refToward_any (some ⟨gC,0,none⟩) (some ⟨wc.heap.size,0,none⟩) cC gE 32 cE 1 1 c (fun _=>F) E x y _ hL.vec (uh hc') hL.own.ents (uh hcE') (Nv.one_row wc F 3) (fun _=>by omega)
     have hdr:=hide (gd1 (World.grownBy.refl wc none))
     have hkeep:Hid (∀z,wc.grownBy z none→(z.cell? ⟨B,4,none⟩=some (.slice (some ⟨gC,0,none⟩) 384 cC)∧z.cell? ⟨B,5,none⟩=some (.slice (some ⟨gE,0,none⟩) 32 cE)∧z.cell? ⟨Q,3,none⟩=some (.int .i64 x)∧z.cell? ⟨Q,4,none⟩=some (.int .i64 y))):=fun z hz=>⟨((uh hO2).on hz).box.eleven.2.2.2.2.1,((uh hO2).on hz).box.eleven.2.2.2.2.2.1,(uh hQ3 z hz).1,(uh hQ3 z hz).2⟩
     have hS0:=uh hkeep wc (World.grownBy.refl _ none)
     clear hfb hF hfb'
     go_upto_region 19 with fail
     go_region_held3 (fun z=>z.cell? ⟨B,4,none⟩=some (.slice (some ⟨gC,0,none⟩) 384 cC)∧z.cell? ⟨B,5,none⟩=some (.slice (some ⟨gE,0,none⟩) 32 cE)∧z.cell? ⟨Q,3,none⟩=some (.int .i64 x)∧z.cell? ⟨Q,4,none⟩=some (.int .i64 y)) (go_keep) (first
      | (go_at_call 65;refine (uh cf _ (uh hdr)).mono ?_;rintro e wy ⟨rfl,hy⟩;subst wy)
      | (go_at_call 95;refine (uh ct _ rfl).mono ?_;rintro e w4 ⟨v,hv,rfl,hg⟩;have hg4:=hide (gtr (uh hgz) hg);have hv':=hide hv;have hS1:=uh hkeep _ (uh hg4);clear hg hv))
     have hfin:Hid (Md.Says w (Md.IsRobot c E I seat) (.returned (.int .i64 v)) w4):=⟨v,uh hat5 v (uh hv'),rfl,gtr (uh hO2).grown (uh hg4)⟩
     clear hS0 hS1
     go_wp2
     go_ret
     exact uh hfin


open Go.RowKit

def Md.Takes (c:Nat→Int) (x y hx hy r b a:Int):Prop:=r≤1536∧Gr.Sees 384 c x y hx hy∧(a<0∨r<b)

def Md.Seen (c:Nat→Int) (E:Nat→Nat→Int) (x y:Int):Nat→Int→Int→Prop
  | 0,b,a=>b=0∧a=-1
  | t + 1, b, a => ∃ b0 a0, Md.Seen c E x y t b0 a0 ∧
      ((Gd.hero E (t : Int) < 0 ∧ b = b0 ∧ a = a0) ∨
       ∃ (h : Nat) (r : Int), Gd.hero E (t : Int) = (h : Int) ∧ Fx.isRoot (((E h 3 - x) * (E h 3 - x) + (E h 4 - y) * (E h 4 - y)) * 65536) r ∧
         ((Md.Takes c x y (E h 3) (E h 4) r b0 a0∧b=r∧a=(h:Int))∨(¬Md.Takes c x y (E h 3) (E h 4) r b0 a0∧b=b0∧a=a0)))

def Md.stray (s c:Nat→Int) (E:Nat→Nat→Int) (k:Nat):Int :=
 if (1≤Dc.die 8 (s 0) [s 1,(k:Int),90]∧Dc.die 8 (s 0) [s 1,(k:Int),90]≤4)∧Gr.walkB (Gr.at 384 c (E k 3+(Fx.way (Dc.die 8 (s 0) [s 1,(k:Int),90])).1) (E k 4+(Fx.way (Dc.die 8 (s 0) [s 1,(k:Int),90])).2))=true∧En.first (En.atQ E (E k 3+(Fx.way (Dc.die 8 (s 0) [s 1,(k:Int),90])).1) (E k 4+(Fx.way (Dc.die 8 (s 0) [s 1,(k:Int),90])).2)) 32<0
 then Dc.die 8 (s 0) [s 1,(k:Int),90] else 0

def Md.monsterAt (s c:Nat→Int) (E:Nat→Nat→Int) (k:Nat) (v:Int):Prop :=
  ∃b a,Md.Seen c E (E k 3) (E k 4) 4 b a ∧
    ((a < 0 ∧ v = Md.stray s c E k) ∨
     ∃ h : Nat, a = (h : Int) ∧
       if 0 < Nv.beside (E h 3 - E k 3) (E h 4 - E k 4) then v = Nv.beside (E h 3 - E k 3) (E h 4 - E k 4)
       else Nv.IsToward c (fun _=>E h 4*24+E h 3) 1 E 32 (E k 3) (E k 4) v)

def Md.IsMonster (s c:Nat→Int) (E:Nat→Nat→Int) (row v:Int):Prop :=
 if (row<0∨32≤row)∨E row.toNat 0=0∨E row.toNat 0=1 then v=0 else Md.monsterAt s c E row.toNat v


open Go.RowKit

def En.upd (e:Nat→Int) (j:Nat) (v:Int):Nat→Int:=fun l=>if l=j then v else e l

theorem En.upd_same (e:Nat→Int) (j:Nat) (v:Int):En.upd e j v j=v:=if_pos rfl
theorem En.upd_other {e:Nat→Int} {j l:Nat} {v:Int} (h:l≠j):En.upd e j v l=e l:=if_neg h

theorem Lie.upd {x:World} {Q:Nat} {T:TypeId} {e:Nat→Int} (h:Lie x Q T 11 (Ints e)) (j:Nat) (v:Int):Lie (x.setCell ⟨Q,j,none⟩ (.int .i64 v)) Q T 11 (Ints (En.upd e j v)):=by
 refine (h.store j (.int .i64 v)).congr fun l _=>?_
 unfold Ints En.upd
 split <;> rfl

theorem Lie.ent {x:World} {Q:Nat} {T:TypeId} {e:Nat→Int} (h:Lie x Q T 11 (Ints e)):x.cell? ⟨Q,0,none⟩=some (.int .i64 (e 0))∧x.cell? ⟨Q,1,none⟩=some (.int .i64 (e 1))∧x.cell? ⟨Q,2,none⟩=some (.int .i64 (e 2))∧x.cell? ⟨Q,3,none⟩=some (.int .i64 (e 3))∧x.cell? ⟨Q,4,none⟩=some (.int .i64 (e 4))∧x.cell? ⟨Q,5,none⟩=some (.int .i64 (e 5))∧x.cell? ⟨Q,6,none⟩=some (.int .i64 (e 6))∧x.cell? ⟨Q,7,none⟩=some (.int .i64 (e 7))∧x.cell? ⟨Q,8,none⟩=some (.int .i64 (e 8))∧x.cell? ⟨Q,9,none⟩=some (.int .i64 (e 9))∧x.cell? ⟨Q,10,none⟩=some (.int .i64 (e 10)) :=
 ⟨h.cell (by omega),h.cell (by omega),h.cell (by omega),h.cell (by omega),h.cell (by omega),h.cell (by omega),h.cell (by omega),h.cell (by omega),h.cell (by omega),h.cell (by omega),h.cell (by omega)⟩

theorem Lie.born (x:World) (e:Nat→Int) (T:TypeId):Lie (x.alloc (.cells (En.cells e) T)) x.heap.size T 11 (Ints e) :=
 Lie.congr (m:=11) (Arr.lit (heap_alloc_new x (.cells (En.cells e) T))).lie fun j hj=>by
  rcases (show j=0∨j=1∨j=2∨j=3∨j=4∨j=5∨j=6∨j=7∨j=8∨j=9∨j=10 by omega) with rfl | rfl | rfl | rfl | rfl | rfl | rfl | rfl | rfl | rfl | rfl <;> rfl

def Ft.Born (E:Nat→Nat→Int):Prop:=∀k,k<32→E k 0≠0→E k 6=En.stats (E k 0) 6∧E k 7=En.stats (E k 0) 7∧E k 8=En.stats (E k 0) 8

theorem Ft.Born.put {E:Nat→Nat→Int} (h:Ft.Born E) {r:Nat} {e:Nat→Int} (he:e 6=En.stats (e 0) 6∧e 7=En.stats (e 0) 7∧e 8=En.stats (e 0) 8):Ft.Born (En.put E r e):=fun k hk h0=>by
 by_cases x:k=r
 ·rw [x,En.put_same]
  exact he
 ·rw [En.put_other x] at h0 ⊢
  exact h k hk h0


open Go.RowKit

structure Ft.Stands (c:Nat→Int) (E:Nat→Nat→Int):Prop where
 on:∀k,k<32→E k 0≠0→0≤E k 3∧E k 3<24∧0≤E k 4∧E k 4<16∧Gr.walkB (c (E k 4*24+E k 3).toNat)=true
 apart:∀j k,j<32→k<32→E j 0≠0→E k 0≠0→E j 3=E k 3→E j 4=E k 4→j=k

structure Ft.Set (c:Nat→Int) (E:Nat→Nat→Int):Prop where
 born:Ft.Born E
 stands:Ft.Stands c E

def Ft.Room (c:Nat→Int) (E:Nat→Nat→Int) (q:Nat):Prop:=Gr.walkB (c q)=true∧En.first (En.atQ E ((q:Int) % 24) ((q:Int) / 24)) 32<0

theorem Ft.cell_num {q:Nat} (hq:q<384):0≤(q:Int) % 24∧(q:Int) % 24<24∧0≤(q:Int) / 24∧(q:Int) / 24<16∧((q:Int) / 24*24+(q:Int) % 24).toNat=q:=by omega

theorem Ft.room_none {E:Nat→Nat→Int} {x y:Int} (h:En.first (En.atQ E x y) 32<0):∀j,j<32→E j 0≠0→¬(E j 3=x∧E j 4=y):=by
 rcases En.first_cases (En.atQ E x y) 32 with ⟨_,hno⟩ | ⟨k,_,he,_⟩
 ·intro j hj h0 hxy
  have:=hno j hj
  simp [En.atQ,h0,hxy.1,hxy.2] at this
 ·omega

theorem Ft.Set.put {c:Nat→Int} {E:Nat→Nat→Int} (h:Ft.Set c E) {r q:Nat} {e:Nat→Int} {gn:Int} (_h0:E r 0=0) (hq:q<384) (hr:Ft.Room c E q) (hx:e 3=(q:Int) % 24) (hy:e 4=(q:Int) / 24) (he:e 6=En.stats (e 0) 6∧e 7=En.stats (e 0) 7∧e 8=En.stats (e 0) 8):Ft.Set c (En.put E r (En.gen e gn)):=by
 obtain ⟨n1,n2,n3,n4,n5⟩:=Ft.cell_num hq
 have hno:=Ft.room_none hr.2
 have e3:En.gen e gn 3=(q:Int) % 24:=hx
 have e4:En.gen e gn 4=(q:Int) / 24:=hy
 refine ⟨h.born.put he,⟨fun k hk k0=>?_,fun j k hj hk j0 k0 hx' hy'=>?_⟩⟩
 ·by_cases e':k=r
  ·subst e'
   rw [En.put_same,e3,e4,n5]
   exact ⟨n1,n2,n3,n4,hr.1⟩
  ·rw [En.put_other e'] at k0 ⊢
   exact h.stands.on k hk k0
 ·by_cases ej:j=r
  ·by_cases ek:k=r
   ·omega
   ·subst ej
    rw [En.put_same,En.put_other ek,e3] at hx'
    rw [En.put_same,En.put_other ek,e4] at hy'
    rw [En.put_other ek] at k0
    exact absurd ⟨hx'.symm,hy'.symm⟩ (hno k hk k0)
  ·by_cases ek:k=r
   ·subst ek
    rw [En.put_same,En.put_other ej,e3] at hx'
    rw [En.put_same,En.put_other ej,e4] at hy'
    rw [En.put_other ej] at j0
    exact absurd ⟨hx',hy'⟩ (hno j hj j0)
   ·rw [En.put_other ej,En.put_other ek] at hx' hy'
    rw [En.put_other ej] at j0
    rw [En.put_other ek] at k0
    exact h.stands.apart j k hj hk j0 k0 hx' hy'


open Go.RowKit

theorem Nv.reach_walk {f t:Nat→Int} {tlen blen:Nat} {g:Nat→Bool} {F:Nat→Int} (h:Gr.IsField (fun i=>Gr.openB f blen g i=true) (Gr.tgt f t tlen) F) {p:Nat} (hp:p<384) (h0:0≤F p):Gr.walkB (f p)=true:=by
 by_cases e:F p=0
 ·exact ((h.zero p hp).1 e).1
 ·have ho:=(h.back p hp (by omega)).1
  by_cases hw:Gr.walkB (f p)=true
  ·exact hw
  ·rw [Bool.not_eq_true] at hw
   rw [Gr.open_no hw] at ho
   cases ho

theorem Nv.Floor.all {cs:Nat→Int} (hf:Nv.Floor cs) {H:Nat→Int} {b:Nat} (hb:b<384) (hcb:cs b≠0) (h:Gr.IsField (fun i=>Gr.openB cs 0 (fun _=>false) i=true) (Gr.tgt cs (fun _=>(b:Int)) 1) H) (i:Nat) (hi:i<384) (hci:cs i≠0):0≤H i:=by
 have hw:∀j,cs j≠0→Gr.walkB (cs j)=true:=fun j hj=>(Gn.walk_nz (hf.five j)).2 hj
 refine hf.hang (fun j=>0≤H j) ?_ b hb hcb ?_ i hi hci
 ·intro j e hj he hP hn hc
  exact (h.fwd j hj hP e he hn (by show Gr.openB cs 0 (fun _=>false) _=true;exact Gr.open_past (hw _ hc) (by omega))).1
 ·have:H b=0:=(h.zero b hb).2 ⟨hw b hcb,0,by omega,rfl⟩
  show 0≤H b
  omega

theorem Md.at_stand {c:Nat→Int} {E:Nat→Nat→Int} (hS:Ft.Stands c E) {k:Nat} (hk:k<32) (k0:E k 0≠0):Gr.walkB (Gr.at 384 c (E k 3) (E k 4))=true:=by
 obtain ⟨a1,a2,a3,a4,a5⟩:=hS.on k hk k0
 unfold Gr.at
 rw [if_pos ⟨(Gr.inB_iff _ _).2 (by omega),by omega⟩]
 exact a5


open Go.RowKit

namespace Gn

def nzs (c:Nat→Int):Nat→Nat
 | 0=>0
 | n+1=>nzs c n+if c n=0 then 0 else 1

theorem nzs_mono (c:Nat→Int) {m n:Nat} (h:m≤n):nzs c m≤nzs c n:=by
 induction n with
 | zero =>
  obtain rfl:m=0:=by omega
  exact Nat.le_refl _
 | succ n ih =>
  by_cases e:m=n+1
  ·rw [e];exact Nat.le_refl _
  ·have:=ih (by omega)
   rw [nzs]
   omega

theorem nzs_three (c:Nat→Int) (a:Nat) (h0:c a≠0) (h1:c (a+1)≠0) (h2:c (a+2)≠0):nzs c (a+3)=nzs c a+3:=by
 rw [show a+3=a+2+1 by omega,nzs,show a+2=a+1+1 by omega,nzs,nzs,if_neg h0,if_neg h1,if_neg h2]

theorem Facts.six {d:Dice} (hd:Fair d) {c F:Nat→Int} {far:Nat} (h:Facts d c F far):6≤nzs c 384:=by
 have hb:=room_bd hd 0
 obtain ⟨a,ha⟩:∃a:Nat,ry d 0*24+rx d 0=(a:Int):=⟨(ry d 0*24+rx d 0).toNat,by omega⟩
 have hin:∀x y:Int,0≤x→x<3→0≤y→y<2→c ((ry d 0+y)*24+(rx d 0+x)).toNat≠0:=by
  intro x y h1 h2 h3 h4
  exact (h.nz _).2 ((dug_nz d 5 _).2 (.inl ⟨0,by omega,inRoom_at hd (by omega) (by omega) (by omega) (by omega)⟩))
 have e:∀x y:Int,∀n:Nat,(a:Int)+y*24+x=(n:Int)→((ry d 0+y)*24+(rx d 0+x)).toNat=n:=by
  intro x y n hn
  omega
 have h00:=hin 0 0 (by omega) (by omega) (by omega) (by omega)
 have h10:=hin 1 0 (by omega) (by omega) (by omega) (by omega)
 have h20:=hin 2 0 (by omega) (by omega) (by omega) (by omega)
 have h01:=hin 0 1 (by omega) (by omega) (by omega) (by omega)
 have h11:=hin 1 1 (by omega) (by omega) (by omega) (by omega)
 have h21:=hin 2 1 (by omega) (by omega) (by omega) (by omega)
 rw [e 0 0 a (by omega)] at h00
 rw [e 1 0 (a+1) (by omega)] at h10
 rw [e 2 0 (a+2) (by omega)] at h20
 rw [e 0 1 (a+24) (by omega)] at h01
 rw [e 1 1 (a+24+1) (by omega)] at h11
 rw [e 2 1 (a+24+2) (by omega)] at h21
 have n1:=nzs_three c a h00 h10 h20
 have n2:=nzs_three c (a+24) h01 h11 h21
 have m1:=nzs_mono c (show a+3≤a+24 by omega)
 have m2:=nzs_mono c (show a+24+3≤384 by omega)
 omega

end Gn


open Go.RowKit

namespace Gn

theorem nodup_inj {l:List Nat} (h:l.Nodup) {i j:Nat} (hi:i<l.length) (hj:j<l.length) (e:l[i]=l[j]):i=j:=by
 rcases Nat.lt_trichotomy i j with g | g | g
 ·exact absurd e (List.pairwise_iff_getElem.1 h i j hi hj g)
 ·exact g
 ·exact absurd e.symm (List.pairwise_iff_getElem.1 h j i hj hi g)

theorem erase_mem {l:List Nat} {n x:Nat} (hl:l.Nodup) (hn:n<l.length) (h:x∈l.eraseIdx n):x≠l[n]?.getD 0:=by
 intro e
 rw [List.getElem?_eq_getElem hn] at e
 obtain ⟨i,hi,hx⟩:=List.getElem_of_mem h
 have hle:(l.eraseIdx n).length=l.length - 1:=by rw [List.length_eraseIdx,if_pos hn]
 rw [List.getElem_eraseIdx] at hx
 rw [e] at hx
 simp only [Option.getD_some] at hx
 split at hx
 ·have:=nodup_inj hl _ _ hx
  omega
 ·have:=nodup_inj hl _ _ hx
  omega

theorem pick_lt {d:Dice} (hd:Fair d) (a:Int) {l:List Nat} (hl:l.length≠0):(d a 0 (l.length:Int)).toNat<l.length:=by
 have:=hd a 0 (l.length:Int) (by omega)
 omega

theorem pick_mem {l:List Nat} {n:Nat} (hn:n<l.length):l[n]?.getD 0∈l:=by
 rw [List.getElem?_eq_getElem hn]
 exact List.getElem_mem hn

theorem mons_all {d:Dice} (hd:Fair d) (f:Int) (h1:1≤f):∀(m k:Nat) (l:List Nat) (p:Int × Nat),p∈mons d f m k l→p.2∈l∧2≤p.1∧p.1≤4
 | 0,_,_,_,h=>by cases h
 | m+1,k,l,p,h=>by
  unfold mons at h
  split at h
  ·cases h
  ·rename_i hl
   have hn:=pick_lt hd (7+(k:Int)) hl
   rcases List.mem_cons.1 h with rfl | h
   ·refine ⟨pick_mem hn,?_⟩
    have hM:1≤(if 3<f+1 then (3:Int) else f+1)∧(if 3<f+1 then (3:Int) else f+1)≤3:=by split <;> omega
    have:=hd (16+(k:Int)) 1 (if 3<f+1 then 3 else f+1) hM.1
    show 2≤kind d f k∧kind d f k≤4
    unfold kind
    omega
   ·have ih:=mons_all hd f h1 m (k+1) _ p h
    exact ⟨List.mem_of_mem_eraseIdx ih.1,ih.2⟩

theorem those_nodupS (p:Nat→Bool) (n:Nat):(those p n).Nodup:=List.Nodup.sublist List.filter_sublist List.nodup_range

theorem those_mem {p:Nat→Bool} {n i:Nat} (h:i∈those p n):i<n∧p i=true:=by
 have:=List.mem_filter.1 h
 exact ⟨List.mem_range.1 this.1,this.2⟩

theorem ents_at {d:Dice} (hd:Fair d) {f:Int} (h1:1≤f) {c F:Nat→Int} {i:Nat} {p:Int × Nat} (h:(ents d f c F)[i]?=some p):2≤p.1∧p.1≤4∧p.2<384∧c p.2=1∧4≤F p.2:=by
 have hm:=List.mem_of_getElem? h
 obtain ⟨h2,h3,h4⟩:=mons_all hd f h1 _ _ _ p hm
 obtain ⟨h5,h6⟩:=List.mem_filter.1 h2
 obtain ⟨h7,h8⟩:=those_mem h5
 refine ⟨h3,h4,h7,by simpa using h8,?_⟩
 unfold afar at h6
 simp at h6
 exact h6

theorem pair_at {α:Type} {R:α→α→Prop} {l:List α} (h:l.Pairwise R) {i j:Nat} {p q:α} (hij:i<j) (hp:l[i]?=some p) (hq:l[j]?=some q):R p q:=by
 obtain ⟨h1,rfl⟩:=List.getElem?_eq_some_iff.1 hp
 obtain ⟨h2,rfl⟩:=List.getElem?_eq_some_iff.1 hq
 exact List.pairwise_iff_getElem.1 h i j h1 h2 hij

theorem lie_all {d:Dice} (hd:Fair d):∀(m k:Nat) (l:List Nat) (p:Itm),p∈lie d m k l→∃(K:Int) (cl:Nat),p=(K,1,(cl:Int) % 24,(cl:Int) / 24)∧cl∈l∧1≤K∧K≤4
 | 0,_,_,_,h=>by cases h
 | m+1,k,l,p,h=>by
  unfold lie at h
  split at h
  ·cases h
  ·rename_i hl
   have hn:=pick_lt hd (40+(k:Int)) hl
   rcases List.mem_cons.1 h with rfl | h
   ·have:=hd (40+(k:Int)) 1 4 (by omega)
    exact ⟨_,_,rfl,pick_mem hn,by omega,by omega⟩
   ·obtain ⟨K,cl,he,hc,hk⟩:=lie_all hd m (k+1) _ p h
    exact ⟨K,cl,he,List.mem_of_mem_eraseIdx hc,hk⟩

theorem lie_apart {d:Dice} (hd:Fair d):∀(m k:Nat) (l:List Nat),l.Nodup→(lie d m k l).Pairwise (fun p q=>¬(p.2.2.1=q.2.2.1∧p.2.2.2=q.2.2.2))
 | 0,_,_,_=>List.Pairwise.nil
 | m+1,k,l,hl=>by
  unfold lie
  split
  ·exact List.Pairwise.nil
  ·rename_i h0
   have hn:=pick_lt hd (40+(k:Int)) h0
   refine List.Pairwise.cons (fun q hq=>?_) (lie_apart hd m (k+1) _ (hl.sublist (List.eraseIdx_sublist l _)))
   obtain ⟨K,cl,rfl,hc,_⟩:=lie_all hd m (k+1) _ q hq
   have:=erase_mem hl hn hc
   rintro ⟨e1,e2⟩
   simp only at e1 e2
   omega

def lying (d:Dice) (c:Nat→Int):Nat:=(lie d 4 0 (those (fun i=>c i == 1) 384)).length

theorem items_lie {d:Dice} (hd:Fair d) {c:Nat→Int} {i:Nat} {p:Itm} (hi:i<lying d c) (h:(items d c)[i]?=some p):∃(K:Int) (cl:Nat),p=(K,1,(cl:Int) % 24,(cl:Int) / 24)∧cl<384∧c cl=1∧1≤K∧K≤4:=by
 unfold items at h
 rw [List.getElem?_append_left hi] at h
 obtain ⟨K,cl,he,hc,hk⟩:=lie_all hd _ _ _ p (List.mem_of_getElem? h)
 obtain ⟨h7,h8⟩:=those_mem hc
 exact ⟨K,cl,he,h7,by simpa using h8,hk⟩

theorem items_apart {d:Dice} (hd:Fair d) {c:Nat→Int} {i j:Nat} {p q:Itm} (hij:i<j) (hj:j<lying d c) (hp:(items d c)[i]?=some p) (hq:(items d c)[j]?=some q):¬(p.2.2.1=q.2.2.1∧p.2.2.2=q.2.2.2):=by
 unfold items at hp hq
 rw [List.getElem?_append_left (by unfold lying at hj;omega)] at hp
 rw [List.getElem?_append_left hj] at hq
 exact pair_at (lie_apart hd 4 0 _ (those_nodupS _ _)) hij hp hq

theorem items_len (d:Dice) (c:Nat→Int):(items d c).length=lying d c+(if Gr.find 384 c 5<0 then 0 else 3)∧lying d c≤4:=by
 unfold items lying
 rw [List.length_append]
 refine ⟨?_,lie_len d 4 0 _⟩
 split <;> rfl

theorem flat_at (es:List (Int × Nat)):∀(i j:Nat) (p:Int × Nat),es[i]?=some p→j<11→(flat es)[i*11+j]?=(entCells p)[j]?:=by
 induction es with
 | nil=>intro i j p h;simp at h
 | cons q es ih =>
  intro i j p h hj
  have hf:flat (q :: es)=entCells q ++ flat es:=rfl
  have hq:(entCells q).length=11:=rfl
  rw [hf]
  cases i with
  | zero =>
   simp only [List.getElem?_cons_zero,Option.some.injEq] at h
   rw [List.getElem?_append_left (by omega),h]
   congr 1
   omega
  | succ i =>
   rw [List.getElem?_cons_succ] at h
   rw [List.getElem?_append_right (by omega),hq,show (i+1)*11+j - 11=i*11+j by omega]
   exact ih i j p h hj

theorem flatI_at (es:List Itm):∀(i j:Nat) (p:Itm),es[i]?=some p→j<4→(flatI es)[i*4+j]?=(itemCells p)[j]?:=by
 induction es with
 | nil=>intro i j p h;simp at h
 | cons q es ih =>
  intro i j p h hj
  have hf:flatI (q :: es)=itemCells q ++ flatI es:=rfl
  have hq:(itemCells q).length=4:=rfl
  rw [hf]
  cases i with
  | zero =>
   simp only [List.getElem?_cons_zero,Option.some.injEq] at h
   rw [List.getElem?_append_left (by omega),h]
   congr 1
   omega
  | succ i =>
   rw [List.getElem?_cons_succ] at h
   rw [List.getElem?_append_right (by omega),hq,show (i+1)*4+j - 4=i*4+j by omega]
   exact ih i j p h hj

end Gn

theorem ents_cells {w:World} {b nE cE:Nat} {aE:Option Addr} {es:List (Int × Nat)} (h:w.ownsRow b 70 11 (.slice aE nE cE) nE (Gn.flat es)) {i:Nat} {p:Int × Nat} (hp:es[i]?=some p) (hi:i<nE) :
  ∃g,aE=some ⟨g,0,none⟩∧g<w.heap.size∧∀j,j<11→w.cell? ⟨g,i*11+j,none⟩=(Gn.entCells p)[j]?:=by
 rcases h.2 with ⟨h',h0⟩ | ⟨g,cap,cur,h',_,hg,_⟩
 ·omega
 ·simp only [Value.slice.injEq] at h'
  obtain ⟨rfl,_,rfl⟩:=h'
  refine ⟨g,rfl,lt_of_block hg,fun j hj=>?_⟩
  rw [h.cellAt (i*11+j) (by omega)]
  exact Gn.flat_at es i j p hp hj

theorem items_cells {w:World} {b nE cE:Nat} {aE:Option Addr} {es:List Gn.Itm} (h:w.ownsRow b 72 4 (.slice aE nE cE) nE (Gn.flatI es)) {i:Nat} {p:Gn.Itm} (hp:es[i]?=some p) (hi:i<nE) :
  ∃g,aE=some ⟨g,0,none⟩∧g<w.heap.size∧∀j,j<4→w.cell? ⟨g,i*4+j,none⟩=(Gn.itemCells p)[j]?:=by
 rcases h.2 with ⟨h',h0⟩ | ⟨g,cap,cur,h',_,hg,_⟩
 ·omega
 ·simp only [Value.slice.injEq] at h'
  obtain ⟨rfl,_,rfl⟩:=h'
  refine ⟨g,rfl,lt_of_block hg,fun j hj=>?_⟩
  rw [h.cellAt (i*4+j) (by omega)]
  exact Gn.flatI_at es i j p hp hj

end Go.Proofs.YtkcooekhigmioaaGreat

namespace Go.Proofs.YtkcooekhigmioaaGreat

def wpTill (P:Program) (md:Region.Mode) (ops:Array Oper) (Q:Exit→Act→World→Prop) (S:World→Prop) (h:Nat):Nat→Array Bool→Act→World→Prop
 | 0,up,a,w=>Region.ready md ops up=[]∧Q .normal a w
 | n+1,up,a,w=>(Region.ready md ops up=[]→Q .normal a w)∧∀i∈Region.ready md ops up,wpOp P ops Q i (fun b x=>((up.setIfInBounds i true).getD h true=false→S x)∧wpTill P md ops Q S h n (up.setIfInBounds i true) b x) a w

theorem wpAny_of_till {P:Program} {ops:Array Oper} {Q:Exit→Act→World→Prop} {md:Region.Mode} {S:World→Prop} {h:Nat}:∀(n:Nat) (up:Array Bool) (a:Act) (w:World),wpTill P md ops Q S h n up a w→wpAny P md ops Q n up a w
 | 0,_,_,_,g=>g
 | n+1,_,_,_,g=>⟨g.1,fun i hi=>wpOp_mono (fun b x k=>wpAny_of_till n _ b x k.2) (g.2 i hi)⟩

def Region.waits (md:Region.Mode) (ops:Array Oper) (up:Array Bool) (i h:Nat) (ch:List Nat):Bool :=
 ch.contains h && ch.all fun c=>!(up.getD c true) && match ops[c]? with
  | some o=>o.after.any fun e=>Region.binds md e && (e.on == i || ch.contains e.on)
  | none=>false

theorem Region.waits_spec {ops:Array Oper} {md:Region.Mode} {up:Array Bool} {i h:Nat} {ch:List Nat} (hw:Region.waits md ops up i h ch=true) :
  h∈ch∧(∀c∈ch,up.getD c true=false)∧∀c∈ch,∀o,ops[c]?=some o→∃e∈o.after,Region.binds md e=true∧(e.on=i∨e.on∈ch):=by
 unfold Region.waits at hw
 simp only [Bool.and_eq_true,List.contains_iff_mem,List.all_eq_true,Bool.not_eq_true'] at hw
 refine ⟨hw.1,fun c hc=>(hw.2 c hc).1,fun c hc o ho=>?_⟩
 have h2:=(hw.2 c hc).2
 rw [ho] at h2
 obtain ⟨e,he,hb⟩:=Array.any_eq_true'.1 h2
 simp only [Bool.and_eq_true,Bool.or_eq_true,beq_iff_eq,List.contains_iff_mem] at hb
 exact ⟨e,he,hb.1,hb.2⟩

theorem wpTill_first {P:Program} {ops:Array Oper} {Q:Exit→Act→World→Prop} {md:Region.Mode} {S:World→Prop} {i h:Nat} {oi:Oper} {v:Value} {ch:List Nat} (hi:ops[i]?=some oi) (hsel:∀(j:Nat) (o:Oper) cs b,ops[j]?=some o→o.op≠.select cs b)
    (hQ:∀c a w,Q (.panic c) (a.put oi.dst v) w→Q (.panic c) a w) (hh:h∈ch)
    (hch:∀c∈ch,∀o,ops[c]?=some o→∃e∈o.after,Region.binds md e=true∧(e.on=i∨e.on∈ch)) :
    ∀(n:Nat) (up:Array Bool) (a:Act) (w:World),
      (∀j oj,ops[j]?=some oj→j≠i→up.getD j true=false→(∀e∈oj.after,Region.binds md e=true→e.on≠i)→oi.apart ops oj=true) →
      i∈Region.ready md ops up→(∀c∈ch,up.getD c true=false)→YieldsIf P ops S oi v a→S w →
      wpTill P md ops Q S h n (up.setIfInBounds i true) (a.put oi.dst v) w→wpTill P md ops Q S h (n+1) up a w:=by
  have key:∀(up:Array Bool) (j:Nat),i∈Region.ready md ops up→(∀c∈ch,up.getD c true=false)→j∈Region.ready md ops up→j ∉ ch:=by
    intro up j hr hc hj hm
    obtain ⟨_,oj,hoj,hall⟩:=mem_ready.1 hj
    obtain ⟨e,he,hb,hon⟩:=hch j hm oj hoj
    have h1:=hall e he hb
    have h0:up.getD e.on true=false:=by
      rcases hon with hon | hon
      · rw [hon];exact (mem_ready.1 hr).1
      · exact hc _ hon
    rcases Nat.lt_or_ge e.on up.size with h' | h'
    · simp [h'] at h0 h1;rw [h0] at h1;cases h1
    · simp [Array.getElem?_eq_none h'] at h1
  intro n
  induction n with
  | zero =>
    intro up a w _ hr hc hy hS H
    refine ⟨fun g=>(by rw [g] at hr;cases hr),fun j hj=>?_⟩
    by_cases hji:j=i
    · subst hji;exact hy.wpOp hi hS ⟨fun _=>hS,H⟩
    · have:=ready_mono hj hji
      rw [H.1] at this
      cases this
  | succ n ih =>
    intro up a w hfree hr hc hy hS H
    refine ⟨fun g=>(by rw [g] at hr;cases hr),fun j hj=>?_⟩
    by_cases hji:j=i
    · subst hji;exact hy.wpOp hi hS ⟨fun _=>hS,H⟩
    · have h1:=H.2 j (ready_mono hj hji)
      have hjc:=key up j hr hc hj
      have hic:=key up i hr hc hr
      obtain ⟨hjun,oj,hoj,hall⟩:=mem_ready.1 hj
      have hnot:∀e∈oj.after,Region.binds md e=true→e.on≠i:=fun e he hb heq=>by
        have h1:=hall e he hb
        have h0:=(mem_ready.1 hr).1
        rw [heq] at h1
        rcases Nat.lt_or_ge i up.size with h' | h'
        · simp [h'] at h0 h1;rw [h0] at h1;cases h1
        · simp [Array.getElem?_eq_none h'] at h1
      have h2:=wpOp_putIf hoj (hfree j oj hoj hji hjun hnot) (fun cs b=>hsel i oi cs b hi) (fun cs b=>hsel j oj cs b hoj) hQ hy h1
      have hc':∀c∈ch,(up.setIfInBounds j true).getD c true=false:=fun c hm=>by
        rw [getD_set_ne true (show j≠c from fun e=>hjc (e ▸ hm))]
        exact hc c hm
      have hfree' : ∀ k ok, ops[k]? = some ok → k ≠ i → (up.setIfInBounds j true).getD k true = false →
          (∀e∈ok.after,Region.binds md e=true→e.on≠i)→oi.apart ops ok=true:=fun k ok hk hki hun hno=>by
        refine hfree k ok hk hki ?_ hno
        by_cases hjk:j=k
        · subst hjk;exact hjun
        · rw [getD_set_ne true hjk] at hun;exact hun
      refine wpOp_mono (fun b x h3=>?_) h2
      have hS':S x:=h3.2.1 (by
        rw [getD_set_ne true (show j≠h from fun e=>hjc (e ▸ hh)),getD_set_ne true (show i≠h from fun e=>hic (e ▸ hh))]
        exact hc h hh)
      refine ⟨fun _=>hS',ih (up.setIfInBounds j true) b x hfree' (ready_mono hr (Ne.symm hji)) hc' h3.1 hS' ?_⟩
      rw [Array.setIfInBounds_comm _ _ hji]
      exact h3.2.2

theorem wtk {P:Program} {ops:Array Oper} {Q:Exit→Act→World→Prop} {md:Region.Mode} {S:World→Prop} {i h:Nat} {oi:Oper} {v:Value} {n:Nat} {up:Array Bool} {a:Act} {w:World} (ch:List Nat) (hi:ops[i]?=some oi)
  (hs:Region.noSelect ops=true) (hf:Region.free md ops up i=true) (hr:(Region.ready md ops up).contains i=true) (hw:Region.waits md ops up i h ch=true)
  (hQ:∀c a w,Q (.panic c) (a.put oi.dst v) w→Q (.panic c) a w) (hS:S w) (hy:YieldsIf P ops S oi v a)
  (H:wpTill P md ops Q S h n (up.setIfInBounds i true) (a.put oi.dst v) w):wpTill P md ops Q S h (n+1) up a w:=by
 obtain ⟨hh,hc,hch⟩:=Region.waits_spec hw
 exact wpTill_first hi (Region.noSelect_spec hs) hQ hh hch n up a w (Region.free_spec hi hf) (by simpa using hr) hc hy hS H

theorem wto {P:Program} {ops:Array Oper} {Q:Exit→Act→World→Prop} {md:Region.Mode} {S:World→Prop} {j h:Nat} {o:Oper} {n:Nat} {up:Array Bool} {a:Act} {w:World} (hr:Region.ready md ops up=[j]) (ho:ops[j]?=some o)
  (H:∀K:Act→World→Prop,Shut (∀b x,((up.setIfInBounds j true).getD h true=false→S x)→wpTill P md ops Q S h n (up.setIfInBounds j true) b x→K b x)→if Region.wanted o (yielded ops a.tmps)=true then Oper.wp P o a w K Q else K (a.put o.dst undef) w) :
  wpTill P md ops Q S h (n+1) up a w:=by
 refine ⟨fun g=>(by rw [hr] at g;cases g),fun i hi=>?_⟩
 rw [hr] at hi
 obtain rfl:i=j:=by simpa using hi
 exact wpOp_step ho (fun K hK=>H K (fun b x h1 h2=>hK b x ⟨h1,h2⟩))

theorem wpTill_done {P:Program} {ops:Array Oper} {Q:Exit→Act→World→Prop} {md:Region.Mode} {S:World→Prop} {h:Nat} {up:Array Bool} {a:Act} {w:World} (hr:Region.ready md ops up=[]) (H:Q .normal a w):∀n,wpTill P md ops Q S h n up a w
 | 0=>⟨hr,H⟩
 | _+1=>⟨fun _=>H,by rw [hr];simp⟩

theorem wp_region_till {P:Program} {ops:Array Oper} {Q:Exit→Act→World→Prop} {S:World→Prop} {h id:Nat} {a:Act} {w:World} (hm:P.follows .mixedOrders=true)
  (H:wpTill P .any ops Q S h ops.size (Array.replicate ops.size false) a w.drew):(Code.region id ops true).wp P Q a w :=
 wp_region_any hm (wpAny_of_till _ _ _ _ H)

end Go.Proofs.YtkcooekhigmioaaGreat
