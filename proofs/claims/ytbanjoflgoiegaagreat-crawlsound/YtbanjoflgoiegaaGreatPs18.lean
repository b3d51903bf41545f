import Derived.Test.YtbanjoflgoiegaaGreatPs14
import Derived.Deep.Cut
import Derived.Deep.RegionWith
namespace Go.Proofs.YtbanjoflgoiegaaGreat
open Go.RowKit

theorem place_cells {x:World} {P:Nat} {a b c:Int} (h:Arr x P 189 3 (fun j=>#[Value.int .i64 a,.int .i64 b,.int .i64 c][j]?.getD undef)):x.cell? ⟨P,0,none⟩=some (.int .i64 a)∧x.cell? ⟨P,1,none⟩=some (.int .i64 b)∧x.cell? ⟨P,2,none⟩=some (.int .i64 c) :=
 ⟨h.cell (i:=0) (by omega),h.cell (i:=1) (by omega),h.cell (i:=2) (by omega)⟩

theorem place_put {x:World} {Q:Nat} {T:TypeId} {F:Nat→Value} {a b c:Value} (h:Arr x Q T 3 F):Arr (((x.setCell ⟨Q,0,none⟩ a).setCell ⟨Q,1,none⟩ b).setCell ⟨Q,2,none⟩ c) Q T 3 (fun j=>#[a,b,c][j]?.getD undef):=by
 refine (((h.store 0 a).store 1 b).store 2 c).congr fun j hj=>?_
 rcases (show j=0∨j=1∨j=2 by omega) with rfl | rfl | rfl <;> rfl

theorem place_grown {x y:World} {Q:Nat} {a b c:Value} (h:x.grownBy y none) (hQ:x.heap.size≤Q):x.grownBy (((y.setCell ⟨Q,0,none⟩ a).setCell ⟨Q,1,none⟩ b).setCell ⟨Q,2,none⟩ c) none :=
 gsr (gsr (gsr h ⟨Q,0,none⟩ hQ a) ⟨Q,1,none⟩ hQ b) ⟨Q,2,none⟩ hQ c

theorem Lie.put {x:World} {g m:Nat} {T:TypeId} {I:Nat→Nat→Int} (h:Lie x g T m (Gd.flat I)) (k:Nat) (a b c d:Int):Lie ((((x.setCell ⟨g,k*4,none⟩ (.int .i64 a)).setCell ⟨g,k*4+1,none⟩ (.int .i64 b)).setCell ⟨g,k*4+2,none⟩ (.int .i64 c)).setCell ⟨g,k*4+3,none⟩ (.int .i64 d)) g T m (Gd.flat (En.put I k (Gd.row a b c d))):=h.item k (Gd.row a b c d)

theorem grown_put4 {x y:World} {g:Nat} (h:x.grownBy y (some g)) (k:Nat) (a b c d:Value):x.grownBy ((((y.setCell ⟨g,k*4,none⟩ a).setCell ⟨g,k*4+1,none⟩ b).setCell ⟨g,k*4+2,none⟩ c).setCell ⟨g,k*4+3,none⟩ d) (some g) :=
 gst (gst (gst (gst h _ _) _ _) _ _) _ _

theorem grown_some {x y:World} {r:Option Nat} (h:x.grownBy y none):x.grownBy y r :=
 ⟨h.os,h.tape,h.output,h.size,fun i hi _=>h.block i hi (fun e=>by cases e)⟩

theorem Gd.wear_some {I:Nat→Nat→Int} {i f:Nat} (h:Gd.find I 40 3 (I i 2) (I i 0 - 2)=(f:Int)) (h2:I i 1=2):Gd.wearAt I 40 (I i 2) i=En.put (En.put I f (Gd.row (I f 0) (I i 1) (I i 2) (I i 3))) i (Gd.row (I i 0) 3 (I i 2) (I i 0 - 2)):=by
 obtain ⟨k,hk,e,_,hka,_⟩:=Gd.find_pos (I:=I) (n:=40) (w:=3) (a:=I i 2) (b:=I i 0 - 2) (by omega)
 have hkf:k=f:=by omega
 rw [hkf] at hka
 unfold Gd.wearAt
 rw [if_pos (by omega),h,Int.toNat_natCast,hka,h2]

theorem Gd.wear_none {I:Nat→Nat→Int} {i:Nat} (h:Gd.find I 40 3 (I i 2) (I i 0 - 2)<0):Gd.wearAt I 40 (I i 2) i=En.put I i (Gd.row (I i 0) 3 (I i 2) (I i 0 - 2)):=by
 unfold Gd.wearAt
 rw [if_neg (by omega)]

set_option maxHeartbeats 3200000 in
theorem wear_any (g c i:Nat) (I:Nat→Nat→Int) (w:World) (hL:Lie w g 62 160 (Gd.flat I)) (hi:i<40) (k0:0≤I i 0) (k1:I i 0≤100) (h2:I i 1=2) :
  Calls Tryz.prog 184 #[.slice (some ⟨g,0,none⟩) 40 c,.int .i64 (i:Int)] w fun e w'=>e=.returned (.tuple #[])∧Lie w' g 62 160 (Gd.flat (Gd.wearAt I 40 (I i 2) i))∧w.grownBy w' (some g):=by
 have hi':(i:Int)<40:=by omega
 have hL':=hide hL
 have hn:=hL.its (n:=40) (by omega) (by omega)
 obtain ⟨u0,u1,u2,u3⟩:=hn.row hi
 have cp:=hide (goodsPlace_any (I i 0) (I i 1) (I i 2) (I i 3) w)
 have h2':=hide h2
 clear hL hn h2
 go_enter Tryz.func184,Tryz.ntmps184
 go_wp2_with fail
 refine (uh cp).mono ?_
 rintro e w1 ⟨rfl,hg1⟩
 clear cp u0 u1 u2 u3
 go_upto_region 1 with fail
 have hP2:=Arr.lit (heap_alloc_new w1 (.cells #[.int .i64 (I i 1),.int .i64 (I i 2),.int .i64 (I i 3)] 189))
 have hg2:=gal hg1 (.cells #[.int .i64 (I i 1),.int .i64 (I i 2),.int .i64 (I i 3)] 189)
 obtain ⟨w2,hw2⟩:∃w2,w1.alloc (.cells #[.int .i64 (I i 1),.int .i64 (I i 2),.int .i64 (I i 3)] 189)=w2:=⟨_,rfl⟩
 have hPw:w.heap.size≤w1.heap.size:=hg1.size
 obtain ⟨P,hP⟩:∃P,w1.heap.size=P:=⟨_,rfl⟩
 rw [hw2] at hP2 hg2 ⊢
 rw [hP] at hP2 hPw ⊢
 have hP2':=hide hP2
 have hg2':=hide hg2
 have hlP:=hP2.lt
 have hlg:=Nat.lt_of_lt_of_le (uh hL').lt hg2.size
 clear hw2 hP hg1 w1
 have k0':=k0
 have keep:Hid (∀x,Hid (w2.grownBy x none)→(x.cell? ⟨P,1,none⟩=some (.int .i64 (I i 2))∧x.cell? ⟨g,i*4,none⟩=some (.int .i64 (I i 0)))):=fun x hx=>⟨(place_cells ((uh hP2').grown (uh hx) (by simp))).2.1,((((uh hL').on (uh hg2')).on (uh hx)).its (n:=40) (by omega) (by omega)).row hi |>.1⟩
 obtain ⟨q1,q2⟩:=uh keep w2 (World.grownBy.refl _ _)
 have cw:Hid (∀x,Hid (w2.grownBy x none)→Calls Tryz.prog 193 #[.int .i64 (I i 2),.int .i64 (I i 0)] x fun e w'=>e=.returned (.agg #[.int .i64 3,.int .i64 (I i 2),.int .i64 (I i 0 - 2)])∧Hid (w2.grownBy w' none)):=fun x hx=>(wornBy_any (I i 2) (I i 0) k0 k1 x).mono fun e w' ⟨h1,h2⟩=>⟨h1,gtr (uh hx) h2⟩
 have hd0:Hid (w2.grownBy w2.drew none):=gd1 (World.grownBy.refl _ _)
 obtain ⟨Z,hZ⟩:∃Z,Z=w2.alloc (.cells #[.int .i64 0,.int .i64 0,.int .i64 0] 189):=⟨_,rfl⟩
 have hZg:w2.grownBy Z none:=by rw [hZ];exact World.grownBy_alloc _ _ _
 have hZa:Arr Z w2.heap.size 189 3 (fun j=>#[Value.int .i64 0,.int .i64 0,.int .i64 0][j]?.getD undef):=by rw [hZ];exact Arr.lit (heap_alloc_new w2 _)
 have cw2:Hid (Calls Tryz.prog 193 #[.int .i64 (I i 2),.int .i64 (I i 0)] Z.drew fun e w'=>e=.returned (.agg #[.int .i64 3,.int .i64 (I i 2),.int .i64 (I i 0 - 2)])∧Hid (w2.grownBy w' none)∧Hid (Arr w' w2.heap.size 189 3 (fun j=>#[Value.int .i64 0,.int .i64 0,.int .i64 0][j]?.getD undef))):=(wornBy_any (I i 2) (I i 0) k0 k1 Z.drew).mono fun e w' ⟨h1,h2⟩=>⟨h1,gtr (gd1 hZg) h2,hZa.grown (gtr (gd1 (World.grownBy.refl _ _)) h2) (by simp)⟩
 rw [hZ] at cw2
 have fr:Hid (∀x:World,Hid (Arr x w2.heap.size 189 3 (fun j=>#[Value.int .i64 0,.int .i64 0,.int .i64 0][j]?.getD undef))→(x.cell? ⟨w2.heap.size,0,none⟩=some (.int .i64 0)∧x.cell? ⟨w2.heap.size,1,none⟩=some (.int .i64 0)∧x.cell? ⟨w2.heap.size,2,none⟩=some (.int .i64 0))∧x.frozen? ⟨w2.heap.size,0,none⟩=false∧x.frozen? ⟨w2.heap.size,1,none⟩=false∧x.frozen? ⟨w2.heap.size,2,none⟩=false):=fun x h=>⟨place_cells (uh h),(uh h).free 0,(uh h).free 1,(uh h).free 2⟩
 clear hP2 hg2 k0 k1 k0' hZ hZg hZa Z
 go_cut [5] from 12 (fun v5 wx=>∃Q,v5=.pointer (some ⟨Q,0,none⟩)∧Hid (Arr wx Q 189 3 (fun j=>#[Value.int .i64 3,.int .i64 (I i 2),.int .i64 (I i 0 - 2)][j]?.getD undef))∧Hid (w2.grownBy wx none)∧Hid (w2.heap.size≤Q))
 case first =>
  go_region_with (first | (go_at_call 193;refine (uh cw _ hd0).mono ?_;rintro e w3 ⟨rfl,hg3⟩;obtain ⟨z1,z2⟩:=uh keep w3 hg3;have hA3:=hide hg3) | (go_at_call 193;refine (uh cw2).mono ?_;rintro e w3 ⟨rfl,hg3,hA3⟩;obtain ⟨z1,z2⟩:=uh keep w3 hg3;obtain ⟨⟨y0,y1,y2⟩,f0,f1,f2⟩:=uh fr w3 hA3))
  all_goals
   go_wp2_with fail
   go_meet
   first | exact ⟨w3.heap.size,rfl,Arr.lit (heap_alloc_new w3 _),gal (uh hg3) _,(uh hg3).size⟩ | exact ⟨w2.heap.size,rfl,place_put (uh hA3),place_grown (uh hg3) (Nat.le_refl _),Nat.le_refl _⟩
 case rest =>
  obtain ⟨Q,rfl,hQ,hgc,hQw0⟩:=hcut
  have hQw:Hid (w.heap.size≤Q):=Nat.le_trans (uh hg2').size (uh hQw0)
  clear keep q1 q2 cw hd0 cw2 fr
  obtain ⟨r0,r1,r2⟩:=place_cells (uh hQ)
  have hLc:=hide (((uh hL').on (uh hg2')).on (uh hgc))
  have hPc:=hide ((uh hP2').grown (uh hgc) (by simp))
  have hgw:=hide (gtr (uh hg2') (uh hgc))
  clear hP2' hg2' hgc hlP hlg hQw0
  have cat:=hide (goodsAt_any g 40 c I 3 (I i 2) (I i 0 - 2) wc ((uh hLc).its (n:=40) (by omega) (by omega)))
  obtain ⟨f,hf⟩:∃f,Gd.find I 40 3 (I i 2) (I i 0 - 2)=f:=⟨_,rfl⟩
  rw [hf] at cat
  have hf':=hide hf
  clear hf
  go_wp2_with fail
  refine (uh cat).mono ?_
  rintro e w4 ⟨rfl,hg4⟩
  clear cat r0 r1 r2
  have hgw4:=hide (gtr (uh hgw) hg4)
  have hgneP:Hid (g≠P):=by
   show g≠P
   have:=(uh hL').lt
   omega
  have hQa:=hide ((uh hQ).grown hg4 (by simp))
  have hgneQ:Hid (g≠Q):=by
   show g≠Q
   have:=(uh hL').lt
   have:=uh hQw
   omega
  by_cases hpos:0≤f
  ·obtain ⟨m,rfl⟩:∃m:Nat,f=(m:Int):=⟨f.toNat,by omega⟩
   obtain ⟨hm,hmi⟩:m<40∧i≠m:=by
    obtain ⟨k,hk,e,hk1,_⟩:=Gd.find_pos (I:=I) (n:=40) (w:=3) (a:=I i 2) (b:=I i 0 - 2) (by rw [uh hf'];exact hpos)
    have:=uh hf'
    have hkm:k=m:=by omega
    have h2:=uh h2'
    subst hkm
    exact ⟨hk,by rintro rfl;omega⟩
   have hm':(m:Int)<40:=by omega
   have HRa:=hide hm
   have HRz:=hide hi
   have hJi:=hide (show En.put I m (Gd.row (I m 0) (I i 1) (I i 2) (I i 3)) i=I i from En.put_other hmi)
   have hLa:=hide ((uh hLc).on hg4)
   have hPa:=hide ((uh hPc).grown hg4 (by simp))
   clear hg4 hm hi hmi hLc hPc hQ hgw hPw hQw
   have keepa:Hid (∀x,Hid (w4.grownBy x none)→(x.cell? ⟨g,m*4,none⟩=some (.int .i64 (I m 0))∧x.cell? ⟨g,m*4+1,none⟩=some (.int .i64 (I m 1))∧x.cell? ⟨g,m*4+2,none⟩=some (.int .i64 (I m 2))∧x.cell? ⟨g,m*4+3,none⟩=some (.int .i64 (I m 3))∧x.cell? ⟨P,0,none⟩=some (.int .i64 (I i 1))∧x.cell? ⟨P,1,none⟩=some (.int .i64 (I i 2))∧x.cell? ⟨P,2,none⟩=some (.int .i64 (I i 3)))∧x.frozen? ⟨g,m*4,none⟩=false∧x.frozen? ⟨g,m*4+1,none⟩=false∧x.frozen? ⟨g,m*4+2,none⟩=false∧x.frozen? ⟨g,m*4+3,none⟩=false):=fun x hx=>by
    have h1:=((uh hLa).on (uh hx)).its (n:=40) (by omega) (by omega) |>.row (uh HRa)
    have h2:=place_cells ((uh hPa).grown (uh hx) (by simp))
    have h3:=fun j=>((uh hLa).on (uh hx)).free j
    exact ⟨⟨h1.1,h1.2.1,h1.2.2.1,h1.2.2.2,h2.1,h2.2.1,h2.2.2⟩,h3 _,h3 _,h3 _,h3 _⟩
   have cma:Hid (∀x,Hid (w4.grownBy x none)→Calls Tryz.prog 183 #[.agg #[.int .i64 (I m 0),.int .i64 (I m 1),.int .i64 (I m 2),.int .i64 (I m 3)],.agg #[.int .i64 (I i 1),.int .i64 (I i 2),.int .i64 (I i 3)]] x fun e w'=>e=.returned (.agg #[.int .i64 (I m 0),.int .i64 (I i 1),.int .i64 (I i 2),.int .i64 (I i 3)])∧Hid (w4.grownBy w' none)):=fun x hx=>(moved_any _ _ _ _ _ _ _ x).mono fun e w' ⟨h1,h2⟩=>⟨h1,gtr (uh hx) h2⟩
   have hda:Hid (w4.grownBy w4.drew none):=gd1 (World.grownBy.refl _ _)
   obtain ⟨⟨x0,x1,x2,x3,x4,x5,x6⟩,y0,y1,y2,y3⟩:=uh keepa w4 (World.grownBy.refl _ _)
   go_upto_region 4 with fail
   go_cut [] from 25 (fun wx=>Hid (Lie wx g 62 160 (Gd.flat (En.put I m (Gd.row (I m 0) (I i 1) (I i 2) (I i 3)))))∧Hid (w4.grownBy wx (some g)))
   case first =>
    go_region_with (first | (go_at_call 183;refine (uh cma _ hda).mono ?_;rintro e w5 ⟨rfl,hga⟩;obtain ⟨⟨z0,z1,z2,z3,z4,z5,z6⟩,f0,f1,f2,f3⟩:=uh keepa w5 hga))
    all_goals
     go_wp2_with fail
     go_meet
     exact ⟨((uh hLa).on (uh hga)).put m (I m 0) (I i 1) (I i 2) (I i 3),grown_put4 (grown_some (r:=some g) (uh hga)) m _ _ _ _⟩
   case rest =>
    obtain ⟨hLna,hgna⟩:=hcut
    clear keepa cma hda x0 x1 x2 x3 x4 x5 x6 y0 y1 y2 y3
    have hgb:=hide (gtr (grown_some (r:=some g) (uh hgw4)) (uh hgna))
    have hPb0:=(uh hQa).grown (uh hgna) (by simpa using uh hgneQ)
    have hfin0:=Gd.wear_some (uh hf') (uh h2')
    have hLb0:=uh hLna
    obtain ⟨J,hJ⟩:∃J,En.put I m (Gd.row (I m 0) (I i 1) (I i 2) (I i 3))=J:=⟨_,rfl⟩
    rw [hJ] at hLb0 hJi hfin0
    have hfin:Hid (Gd.wearAt I 40 (I i 2) i=En.put J i (Gd.row (J i 0) 3 (J i 2) (J i 0 - 2))):=by
     show _=_
     rw [uh hJi]
     exact hfin0
    have hLz:=hide hLb0
    rw [←uh hJi] at hPb0 ⊢
    have hPz:=hide hPb0
    clear hPb0 hfin0 hLb0 hJ hLna hgna hQa hgw4 hf' hPa hLa
    have keepz:Hid (∀x,Hid (wc.grownBy x none)→(x.cell? ⟨g,i*4,none⟩=some (.int .i64 (J i 0))∧x.cell? ⟨g,i*4+1,none⟩=some (.int .i64 (J i 1))∧x.cell? ⟨g,i*4+2,none⟩=some (.int .i64 (J i 2))∧x.cell? ⟨g,i*4+3,none⟩=some (.int .i64 (J i 3))∧x.cell? ⟨Q,0,none⟩=some (.int .i64 3)∧x.cell? ⟨Q,1,none⟩=some (.int .i64 (J i 2))∧x.cell? ⟨Q,2,none⟩=some (.int .i64 (J i 0 - 2)))∧x.frozen? ⟨g,i*4,none⟩=false∧x.frozen? ⟨g,i*4+1,none⟩=false∧x.frozen? ⟨g,i*4+2,none⟩=false∧x.frozen? ⟨g,i*4+3,none⟩=false):=fun x hx=>by
     have h1:=((uh hLz).on (uh hx)).its (n:=40) (by omega) (by omega) |>.row (uh HRz)
     have h2:=place_cells ((uh hPz).grown (uh hx) (by simp))
     have h3:=fun j=>((uh hLz).on (uh hx)).free j
     exact ⟨⟨h1.1,h1.2.1,h1.2.2.1,h1.2.2.2,h2.1,h2.2.1,h2.2.2⟩,h3 _,h3 _,h3 _,h3 _⟩
    have cmz:Hid (∀x,Hid (wc.grownBy x none)→Calls Tryz.prog 183 #[.agg #[.int .i64 (J i 0),.int .i64 (J i 1),.int .i64 (J i 2),.int .i64 (J i 3)],.agg #[.int .i64 3,.int .i64 (J i 2),.int .i64 (J i 0 - 2)]] x fun e w'=>e=.returned (.agg #[.int .i64 (J i 0),.int .i64 3,.int .i64 (J i 2),.int .i64 (J i 0 - 2)])∧Hid (wc.grownBy w' none)):=fun x hx=>(moved_any _ _ _ _ _ _ _ x).mono fun e w' ⟨h1,h2⟩=>⟨h1,gtr (uh hx) h2⟩
    have hdz:Hid (wc.grownBy wc.drew none):=gd1 (World.grownBy.refl _ _)
    obtain ⟨⟨x0,x1,x2,x3,x4,x5,x6⟩,y0,y1,y2,y3⟩:=uh keepz wc (World.grownBy.refl _ _)
    go_upto_region 5 with fail
    go_region_with (first | (go_at_call 183;refine (uh cmz _ hdz).mono ?_;rintro e w6 ⟨rfl,hgz⟩;obtain ⟨⟨z0,z1,z2,z3,z4,z5,z6⟩,f0,f1,f2,f3⟩:=uh keepz w6 hgz))
    all_goals
     have hfl:=hide (((uh hLz).on (uh hgz)).put i (J i 0) 3 (J i 2) (J i 0 - 2))
     have hfg:=hide (gtr (uh hgb) (grown_put4 (grown_some (r:=some g) (uh hgz)) i (.int .i64 (J i 0)) (.int .i64 3) (.int .i64 (J i 2)) (.int .i64 (J i 0 - 2))))
     go_wp2
     go_end0
     exact ⟨rfl,by rw [uh hfin];exact uh hfl,uh hfg⟩
  ·have hneg:f<0:=by omega
   have hfin:=hide (Gd.wear_none (I:=I) (i:=i) (by rw [uh hf'];exact hneg))
   have HRz:=hide hi
   have hLz:=hide ((uh hLc).on hg4)
   have hPz:=hQa
   have hgb:=hide (grown_some (r:=some g) (uh hgw4))
   clear hg4 hi hLc hPc hQ hgw hPw hQw hQa hgw4 hf'
   have keepz:Hid (∀x,Hid (w4.grownBy x none)→(x.cell? ⟨g,i*4,none⟩=some (.int .i64 (I i 0))∧x.cell? ⟨g,i*4+1,none⟩=some (.int .i64 (I i 1))∧x.cell? ⟨g,i*4+2,none⟩=some (.int .i64 (I i 2))∧x.cell? ⟨g,i*4+3,none⟩=some (.int .i64 (I i 3))∧x.cell? ⟨Q,0,none⟩=some (.int .i64 3)∧x.cell? ⟨Q,1,none⟩=some (.int .i64 (I i 2))∧x.cell? ⟨Q,2,none⟩=some (.int .i64 (I i 0 - 2)))∧x.frozen? ⟨g,i*4,none⟩=false∧x.frozen? ⟨g,i*4+1,none⟩=false∧x.frozen? ⟨g,i*4+2,none⟩=false∧x.frozen? ⟨g,i*4+3,none⟩=false):=fun x hx=>by
    have h1:=((uh hLz).on (uh hx)).its (n:=40) (by omega) (by omega) |>.row (uh HRz)
    have h2:=place_cells ((uh hPz).grown (uh hx) (by simp))
    have h3:=fun j=>((uh hLz).on (uh hx)).free j
    exact ⟨⟨h1.1,h1.2.1,h1.2.2.1,h1.2.2.2,h2.1,h2.2.1,h2.2.2⟩,h3 _,h3 _,h3 _,h3 _⟩
   have cmz:Hid (∀x,Hid (w4.grownBy x none)→Calls Tryz.prog 183 #[.agg #[.int .i64 (I i 0),.int .i64 (I i 1),.int .i64 (I i 2),.int .i64 (I i 3)],.agg #[.int .i64 3,.int .i64 (I i 2),.int .i64 (I i 0 - 2)]] x fun e w'=>e=.returned (.agg #[.int .i64 (I i 0),.int .i64 3,.int .i64 (I i 2),.int .i64 (I i 0 - 2)])∧Hid (w4.grownBy w' none)):=fun x hx=>(moved_any _ _ _ _ _ _ _ x).mono fun e w' ⟨h1,h2⟩=>⟨h1,gtr (uh hx) h2⟩
   have hdz:Hid (w4.grownBy w4.drew none):=gd1 (World.grownBy.refl _ _)
   obtain ⟨⟨x0,x1,x2,x3,x4,x5,x6⟩,y0,y1,y2,y3⟩:=uh keepz w4 (World.grownBy.refl _ _)
   go_upto_region 5 with fail
   go_region_with (first | (go_at_call 183;refine (uh cmz _ hdz).mono ?_;rintro e w6 ⟨rfl,hgz⟩;obtain ⟨⟨z0,z1,z2,z3,z4,z5,z6⟩,f0,f1,f2,f3⟩:=uh keepz w6 hgz))
   all_goals
    have hfl:=hide (((uh hLz).on (uh hgz)).put i (I i 0) 3 (I i 2) (I i 0 - 2))
    have hfg:=hide (gtr (uh hgb) (grown_put4 (grown_some (r:=some g) (uh hgz)) i (.int .i64 (I i 0)) (.int .i64 3) (.int .i64 (I i 2)) (.int .i64 (I i 0 - 2))))
    go_wp2
    go_end0
    exact ⟨rfl,by rw [uh hfin];exact uh hfl,uh hfg⟩

end Go.Proofs.YtbanjoflgoiegaaGreat
