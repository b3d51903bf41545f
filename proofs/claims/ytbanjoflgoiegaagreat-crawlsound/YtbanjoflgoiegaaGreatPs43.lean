import Derived.Test.YtbanjoflgoiegaaGreatPs33
namespace Go.Proofs.YtbanjoflgoiegaaGreat
open Go.RowKit

theorem Fx.root_nat:∀n:Nat,∃r:Nat,r*r≤n∧n<(r+1)*(r+1)
 | 0=>⟨0,by omega,by omega⟩
 | n+1=>by
  obtain ⟨r,h1,h2⟩:=Fx.root_nat n
  by_cases h:n+1<(r+1)*(r+1)
  ·exact ⟨r,by omega,h⟩
  ·refine ⟨r+1,by omega,?_⟩
   have h3:(r+1+1)*(r+1+1)=(r+1)*(r+1)+(2*r+3):=by
    simp only [Nat.add_mul,Nat.mul_add,Nat.one_mul,Nat.mul_one]
    omega
   omega

theorem Fx.root_is (n:Int) (h:0≤n):∃r,Fx.isRoot n r:=by
 obtain ⟨r,h1,h2⟩:=Fx.root_nat n.toNat
 refine ⟨(r:Int),by omega,?_,?_⟩
 ·have:((r*r:Nat):Int)≤n:=by omega
  rwa [Int.natCast_mul] at this
 ·have:n<(((r+1)*(r+1):Nat):Int):=by omega
  rw [Int.natCast_mul] at this
  exact this

theorem Md.square_pos (a b:Int):0≤(a*a+b*b)*65536:=by
 have sq:∀z:Int,0≤z*z:=fun z=>by
  rcases Int.le_total 0 z with h | h
  ·exact Int.mul_nonneg h h
  ·rw [←Int.neg_mul_neg]
   exact Int.mul_nonneg (by omega) (by omega)
 have h1:=sq a
 have h2:=sq b
 omega

def Md.NearSays (w:World) (c:Nat→Int) (E:Nat→Nat→Int) (x y:Int) (e:Ending) (w':World):Prop:=∃b a,Md.Seen c E x y 4 b a∧(a=-1∨∃h:Nat,h<32∧a=(h:Int)∧E h 0=1)∧e=.returned (.int .i64 a)∧w.grownBy w' none

def Md.Least (a b L:Int):Prop:=(a=-1∧L=1537)∨(0≤a∧L=b∧b≤1536)

set_option maxRecDepth 8000 in
set_option maxHeartbeats 12800000 in
theorem mNearest_any (s g c:Nat→Int) (E I:Nat→Nat→Int) (e:Nat→Int) (gC gE gI cC cE cI:Nat) (w:World) (hL:Gd.Lists w gC gE gI c E I) (hc:∀i,0≤c i∧c i≤255) (hcE:32≤cE) (hE:Md.Fine E) (x0:0≤e 3) (x9:e 3<24) (y0:0≤e 4) (y9:e 4<16) :
  Calls Tryz.prog 212 #[.agg (Gd.world s gC gE gI cC cE cI g),.agg (En.cells e)] w (Md.NearSays w c E (e 3) (e 4)):=by
 obtain ⟨wz,hwz⟩:∃wz,wz=w.alloc (.cells (Gd.world s gC gE gI cC cE cI g) 30):=⟨_,rfl⟩
 obtain ⟨w0,hw0⟩:∃w0,w0=wz.alloc (.cells (En.cells e) 54):=⟨_,rfl⟩
 have hgz:w.grownBy wz none:=by rw [hwz];exact World.grownBy_alloc _ _ _
 have hg0:wz.grownBy w0 none:=by rw [hw0];exact World.grownBy_alloc _ _ _
 have hO:Hid (Gd.Shown w w0 w.heap.size gC gE gI cC cE cI s g c E I):=by
  refine ⟨?_,hL.on (gtr hgz hg0),gtr hgz hg0⟩
  refine Lie.on ?_ hg0
  rw [hwz]
  exact (Arr.world (heap_alloc_new w _)).lie
 have hQ:Hid (Lie w0 wz.heap.size 54 11 (Ints e)):=by rw [hw0];exact Lie.copied _ _ _
 have hsz:wz.heap.size=w.heap.size+1:=by rw [hwz];simp
 have hc':=hide hc
 have hcE':=hide hcE
 have hE':=hide hE
 have hxy:=hide (show (0≤e 3∧e 3<24)∧0≤e 4∧e 4<16 from ⟨⟨x0,x9⟩,y0,y9⟩)
 rw [hsz] at hQ
 clear hL hc hcE hE hg0 hgz x0 x9 y0 y9 hsz
 unfold Gd.world at hwz ⊢
 unfold En.cells at hw0 ⊢
 rw [hwz] at hw0
 clear hwz
 go_enter Tryz.func212,Tryz.ntmps212
 go_upto_region 1 with fail
 rw [←hw0]
 clear hw0
 obtain ⟨B,hB⟩:∃B,w.heap.size=B:=⟨_,rfl⟩
 rw [hB] at hO hQ ⊢
 clear hB
 obtain ⟨Q,hQe⟩:∃Q,B+1=Q:=⟨_,rfl⟩
 rw [hQe] at hQ ⊢
 clear hQe
 go_wp2_with fail
 go_loopw [5,6,7,8,9,10] (fun v5 v6 _ _ _ v10 wr=>∃(t:Nat) (b a L:Int),t≤4∧v5=.int .i64 a∧v6=.int .i64 L∧v10=.int .i64 (t:Int)∧Hid (Md.Seen c E (e 3) (e 4) t b a)∧Hid (Md.Least a b L)∧Hid (a=-1∨∃h:Nat,h<32∧a=(h:Int)∧E h 0=1)∧Hid (Gd.Shown w wr B gC gE gI cC cE cI s g c E I)∧Hid (Lie wr Q 54 11 (Ints e))) (fun _ _ _ _ _ v10 _=>10 - (intOf v10).toNat)
 case atStart=>exact ⟨0,0,-1,1537,by omega,rfl,rfl,rfl,⟨rfl,rfl⟩,.inl ⟨rfl,rfl⟩,.inl rfl,hO,hQ⟩
 case round =>
  clear hO hQ
  obtain ⟨t,b,a,L,ht,rfl,rfl,rfl,hSeen,hLst,hAt,hO,hQ⟩:=hrel
  by_cases hlt:t<4
  ·have hlt':(t:Int)<4:=by omega
   have HT:=hide hlt
   have q5:=(uh hO).box.eleven.2.2.2.2.2.1
   have ch:Hid (Calls Tryz.prog 68 #[.slice (some ⟨gE,0,none⟩) 32 cE,.int .i64 (t:Int)] wr (Says wr (.int .i64 (Gd.hero E (t:Int))))):=hero_any gE 32 cE E (t:Int) wr (uh hO).lists.own.ents (uh hcE')
   have hrow:=hide (@Md.hero_row E (t:Int))
   obtain ⟨h0,hh⟩:∃h,Gd.hero E (t:Int)=h:=⟨_,rfl⟩
   have hh':=hide hh
   rw [hh] at ch
   clear hh hlt ht
   go_wp2_with fail
   refine (uh ch).mono ?_
   rintro x w3 ⟨rfl,hg⟩
   have hO3:=hide ((uh hO).on hg)
   have hQ3:=hide ((uh hQ).on hg)
   clear hg ch q5 hO hQ
   by_cases hneg:h0<0
   ·have hs2:Hid (Md.Seen c E (e 3) (e 4) (t+1) b a):=⟨b,a,uh hSeen,.inl ⟨by rw [uh hh'];exact hneg,rfl,rfl⟩⟩
    clear hrow hh'
    go_wp2_with fail
    go_quiet (fail)
    go_wp2
    go_roundw
    case rel=>exact ⟨t+1,b,a,L,by have:=uh HT;omega,rfl,rfl,by go_num,hs2,hLst,hAt,(uh hO3).on (gdw (World.grownBy.refl _ none) _),(uh hQ3).on (gdw (World.grownBy.refl _ none) _)⟩
    case measure=>simp [intOf];have:=uh HT;omega
   obtain ⟨h,hh32,hhe,hk1,-⟩:=uh hrow (by rw [uh hh'];omega)
   obtain rfl:h0=(h:Int):=by rw [←uh hh'];exact hhe
   obtain ⟨p0,p9,r0,r9,-,-⟩:=uh hE' h hh32 (by omega)
   have HH:=hide (show h<32∧E h 0=1 from ⟨hh32,hk1⟩)
   have hh3:(h:Int)<32:=by omega
   have hneg':¬(h:Int)<0:=by omega
   have HP:=hide (show (0≤E h 3∧E h 3<24)∧0≤E h 4∧E h 4<16 from ⟨⟨p0,p9⟩,r0,r9⟩)
   clear hrow hhe hk1 hneg hh32 p0 p9 r0 r9
   have cs:=hide (fun z (hz:w3.grownBy z none)=>sees_any (some ⟨gC,0,none⟩) 384 cC c (e 3) (e 4) (E h 3) (E h 4) z ((uh hO3).lists.on hz).vec (uh hc'))
   have hdr:=hide (gd1 (World.grownBy.refl w3 none))
   have hkeep:Hid (∀z,w3.grownBy z none→(z.cell? ⟨B,4,none⟩=some (.slice (some ⟨gC,0,none⟩) 384 cC)∧z.cell? ⟨B,5,none⟩=some (.slice (some ⟨gE,0,none⟩) 32 cE)∧z.cell? ⟨Q,3,none⟩=some (.int .i64 (e 3))∧z.cell? ⟨Q,4,none⟩=some (.int .i64 (e 4))∧z.cell? ⟨gE,h*11+3,none⟩=some (.int .i64 (E h 3))∧z.cell? ⟨gE,h*11+4,none⟩=some (.int .i64 (E h 4)))):=fun z hz=>by
    have hO5:=(uh hO3).on hz
    have hQ5:=((uh hQ3).on hz).elevenInts
    have hr:=hO5.lists.own.ents.row (uh HH).1
    exact ⟨hO5.box.eleven.2.2.2.2.1,hO5.box.eleven.2.2.2.2.2.1,hQ5.2.2.2.1,hQ5.2.2.2.2.1,hr.2.2.2.1,hr.2.2.2.2.1⟩
   have hS0:=uh hkeep w3 (World.grownBy.refl _ none)
   go_upto_region 6 with fail
   go_region_held3 (fun z=>z.cell? ⟨B,4,none⟩=some (.slice (some ⟨gC,0,none⟩) 384 cC)∧z.cell? ⟨B,5,none⟩=some (.slice (some ⟨gE,0,none⟩) 32 cE)∧z.cell? ⟨Q,3,none⟩=some (.int .i64 (e 3))∧z.cell? ⟨Q,4,none⟩=some (.int .i64 (e 4))∧z.cell? ⟨gE,h*11+3,none⟩=some (.int .i64 (E h 3))∧z.cell? ⟨gE,h*11+4,none⟩=some (.int .i64 (E h 4))) (go_keep) (first
    | (go_at_call 216;refine (uh cs _ (uh hdr)).mono ?_;rintro x w5 ⟨sb,rfl,hsb,hg⟩;have hg5:=hide (gtr (uh hdr) (below_grown hg));have hsb':=hide hsb;have hS1:=uh hkeep _ (uh hg5);clear hg hsb))
   have hO5:=hide ((uh hO3).on (uh hg5))
   have hQ5:=hide ((uh hQ3).on (uh hg5))
   clear hS0 hS1 hkeep hdr cs hO3 hQ3 hg5
   rw [decide_eq_false (show ¬(h:Int)<0 by omega),Bool.false_or]
   cases sb
   ·have hs2:Hid (Md.Seen c E (e 3) (e 4) (t+1) b a):=by
     obtain ⟨r,hr⟩:=Fx.root_is _ (Md.square_pos (E h 3 - e 3) (E h 4 - e 4))
     exact ⟨b,a,uh hSeen,.inr ⟨h,r,uh hh',hr,.inr ⟨fun hT=>absurd ((uh hsb').2 hT.2.1) (by simp),rfl,rfl⟩⟩⟩
    clear hh' hsb'
    go_wp2
    go_roundw
    case rel=>exact ⟨t+1,b,a,L,by have:=uh HT;omega,rfl,rfl,by go_num,hs2,hLst,hAt,hO5,hQ5⟩
    case measure=>simp [intOf];have:=uh HT;omega
   ·obtain ⟨r1,r2,hsub,R1,R2⟩:=mLess e (E h) (uh hxy).1.1 (uh hxy).1.2 (uh hxy).2.1 (uh hxy).2.2 (uh HP).1.1 (uh HP).1.2 (uh HP).2.1 (uh HP).2.2
    have cq:Hid (∀wq,Calls Tryz.prog 218 #[.complex .f64 r1 r2] wq fun x w'=>x=.returned (.tuple #[.int .i64 (E h 3 - e 3),.int .i64 (E h 4 - e 4)])∧w'=wq):=fun wq=>by
     have h1:=uh hxy
     have h2:=uh HP
     exact mParts_any r1 r2 _ _ wq R1 R2 (by omega) (by omega) (by omega) (by omega)
    have cd:Hid (∀wq,Calls Tryz.prog 217 #[.int .i64 (E h 3 - e 3),.int .i64 (E h 4 - e 4)] wq fun x w'=>∃r,x=.returned (.int .i64 r)∧Fx.isRoot (((E h 3 - e 3)*(E h 3 - e 3)+(E h 4 - e 4)*(E h 4 - e 4))*65536) r∧w'=wq):=fun wq=>by
     have h1:=uh hxy
     have h2:=uh HP
     exact dist_any _ _ wq (by omega) (by omega) (by omega) (by omega)
    have cp:=hide mPlace_at
    have hdr:=hide (gd1 (World.grownBy.refl w5 none))
    have hkeep:Hid (∀z,w5.grownBy z none→(z.cell? ⟨B,5,none⟩=some (.slice (some ⟨gE,0,none⟩) 32 cE)∧z.cell? ⟨gE,h*11,none⟩=some (.int .i64 (E h 0))∧z.cell? ⟨gE,h*11+1,none⟩=some (.int .i64 (E h 1))∧z.cell? ⟨gE,h*11+2,none⟩=some (.int .i64 (E h 2))∧z.cell? ⟨gE,h*11+3,none⟩=some (.int .i64 (E h 3))∧z.cell? ⟨gE,h*11+4,none⟩=some (.int .i64 (E h 4))∧z.cell? ⟨gE,h*11+5,none⟩=some (.int .i64 (E h 5))∧z.cell? ⟨gE,h*11+6,none⟩=some (.int .i64 (E h 6))∧z.cell? ⟨gE,h*11+7,none⟩=some (.int .i64 (E h 7))∧z.cell? ⟨gE,h*11+8,none⟩=some (.int .i64 (E h 8))∧z.cell? ⟨gE,h*11+9,none⟩=some (.int .i64 (E h 9))∧z.cell? ⟨gE,h*11+10,none⟩=some (.int .i64 (E h 10))∧z.cell? ⟨Q,0,none⟩=some (.int .i64 (e 0))∧z.cell? ⟨Q,1,none⟩=some (.int .i64 (e 1))∧z.cell? ⟨Q,2,none⟩=some (.int .i64 (e 2))∧z.cell? ⟨Q,3,none⟩=some (.int .i64 (e 3))∧z.cell? ⟨Q,4,none⟩=some (.int .i64 (e 4))∧z.cell? ⟨Q,5,none⟩=some (.int .i64 (e 5))∧z.cell? ⟨Q,6,none⟩=some (.int .i64 (e 6))∧z.cell? ⟨Q,7,none⟩=some (.int .i64 (e 7))∧z.cell? ⟨Q,8,none⟩=some (.int .i64 (e 8))∧z.cell? ⟨Q,9,none⟩=some (.int .i64 (e 9))∧z.cell? ⟨Q,10,none⟩=some (.int .i64 (e 10)))):=fun z hz=>by
     have hO6:=(uh hO5).on hz
     have hQ6:=((uh hQ5).on hz).elevenInts
     have hr:=hO6.lists.own.ents.row (uh HH).1
     obtain ⟨u0,u1,u2,u3,u4,u5,u6,u7,u8,u9,u10⟩:=hr
     exact ⟨hO6.box.eleven.2.2.2.2.2.1,u0,u1,u2,u3,u4,u5,u6,u7,u8,u9,u10,hQ6⟩
    have hS0:=uh hkeep w5 (World.grownBy.refl _ none)
    clear R1 R2
    go_upto_region 7 with fail
    go_region_held3 (fun z=>z.cell? ⟨B,5,none⟩=some (.slice (some ⟨gE,0,none⟩) 32 cE)∧z.cell? ⟨gE,h*11,none⟩=some (.int .i64 (E h 0))∧z.cell? ⟨gE,h*11+1,none⟩=some (.int .i64 (E h 1))∧z.cell? ⟨gE,h*11+2,none⟩=some (.int .i64 (E h 2))∧z.cell? ⟨gE,h*11+3,none⟩=some (.int .i64 (E h 3))∧z.cell? ⟨gE,h*11+4,none⟩=some (.int .i64 (E h 4))∧z.cell? ⟨gE,h*11+5,none⟩=some (.int .i64 (E h 5))∧z.cell? ⟨gE,h*11+6,none⟩=some (.int .i64 (E h 6))∧z.cell? ⟨gE,h*11+7,none⟩=some (.int .i64 (E h 7))∧z.cell? ⟨gE,h*11+8,none⟩=some (.int .i64 (E h 8))∧z.cell? ⟨gE,h*11+9,none⟩=some (.int .i64 (E h 9))∧z.cell? ⟨gE,h*11+10,none⟩=some (.int .i64 (E h 10))∧z.cell? ⟨Q,0,none⟩=some (.int .i64 (e 0))∧z.cell? ⟨Q,1,none⟩=some (.int .i64 (e 1))∧z.cell? ⟨Q,2,none⟩=some (.int .i64 (e 2))∧z.cell? ⟨Q,3,none⟩=some (.int .i64 (e 3))∧z.cell? ⟨Q,4,none⟩=some (.int .i64 (e 4))∧z.cell? ⟨Q,5,none⟩=some (.int .i64 (e 5))∧z.cell? ⟨Q,6,none⟩=some (.int .i64 (e 6))∧z.cell? ⟨Q,7,none⟩=some (.int .i64 (e 7))∧z.cell? ⟨Q,8,none⟩=some (.int .i64 (e 8))∧z.cell? ⟨Q,9,none⟩=some (.int .i64 (e 9))∧z.cell? ⟨Q,10,none⟩=some (.int .i64 (e 10))) (go_keep) (first
     | (go_at_call 219;refine (uh cp _ _ _ _ _ _ _ _ _ _ _ _).mono ?_;rintro x w7 ⟨rfl,hg⟩;have hg7:=hide (gtr (uh hdr) hg);have hS7:=uh hkeep _ (uh hg7);clear hg)
     | (go_at_call 219;refine (uh cp _ _ _ _ _ _ _ _ _ _ _ _).mono ?_;rintro x w8 ⟨rfl,hg⟩;have hg8:=hide (gtr (uh hg7) hg);have hS8:=uh hkeep _ (uh hg8);clear hg)
     | (go_at_call 218;refine (uh cq _).mono ?_;rintro x wy ⟨rfl,hw⟩;subst wy)
     | (go_at_call 217;refine (uh cd _).mono ?_;rintro x wy ⟨r,rfl,hr,hw⟩;subst wy;have hr':=hide hr;clear hr))
    have hO6:=hide ((uh hO5).on (uh hg8))
    have hQ6:=hide ((uh hQ5).on (uh hg8))
    clear hS0 hS7 hS8 hkeep hdr cq cd cp hsub hO5 hQ5 hg7 hg8
    by_cases hrl:r<L
    ·have hs2:Hid (Md.Seen c E (e 3) (e 4) (t+1) r (h:Int)):=⟨b,a,uh hSeen,.inr ⟨h,r,uh hh',uh hr',.inl ⟨⟨by have h1:(a=-1∧L=1537)∨(0≤a∧L=b∧b≤1536):=uh hLst;omega,(by first | exact (uh hsb').1 rfl | exact (uh hsb').1 trivial | exact uh hsb'),by have h1:(a=-1∧L=1537)∨(0≤a∧L=b∧b≤1536):=uh hLst;omega⟩,rfl,rfl⟩⟩⟩
     have hL2:Hid (Md.Least (h:Int) r r):=.inr ⟨by omega,rfl,by have h1:(a=-1∧L=1537)∨(0≤a∧L=b∧b≤1536):=uh hLst;omega⟩
     have hA2:Hid ((h:Int)=-1∨∃h':Nat,h'<32∧(h:Int)=(h':Int)∧E h' 0=1):=.inr ⟨h,(uh HH).1,rfl,(uh HH).2⟩
     clear hh' hsb' hr'
     go_wp2
     go_roundw
     case rel=>exact ⟨t+1,r,(h:Int),r,by have:=uh HT;omega,rfl,rfl,by go_num,hs2,hL2,hA2,hO6,hQ6⟩
     case measure=>simp [intOf];have:=uh HT;omega
    ·have hs2:Hid (Md.Seen c E (e 3) (e 4) (t+1) b a):=⟨b,a,uh hSeen,.inr ⟨h,r,uh hh',uh hr',.inr ⟨fun hT=>by
      have h1:(a=-1∧L=1537)∨(0≤a∧L=b∧b≤1536):=uh hLst
      have h2:=hT.1
      have h3:=hT.2.2
      omega,rfl,rfl⟩⟩⟩
     clear hh' hsb' hr'
     go_wp2
     go_roundw
     case rel=>exact ⟨t+1,b,a,L,by have:=uh HT;omega,rfl,rfl,by go_num,hs2,hLst,hAt,hO6,hQ6⟩
     case measure=>simp [intOf];have:=uh HT;omega
  ·obtain rfl:t=4:=by omega
   have hge:¬((4:Nat):Int)<4:=by omega
   have hfin:Hid (Md.NearSays w c E (e 3) (e 4) (.returned (.int .i64 a)) wr):=⟨b,a,uh hSeen,uh hAt,rfl,(uh hO).grown⟩
   clear hlt ht
   go_wp2
   go_ret
   exact uh hfin

end Go.Proofs.YtbanjoflgoiegaaGreat
