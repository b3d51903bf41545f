import Derived.Test.YtkcooekhigmioaaGreatPart37
import Derived.Test.YtkcooekhigmioaaGreatPart40
namespace Go.Proofs.YtkcooekhigmioaaGreat
open Go.RowKit

set_option maxRecDepth 8000 in
set_option maxHeartbeats 3200000 in
theorem back_old (p m cap:Nat) (a:Option Addr) (j:Int) (s g:Nat→Int) (gC gE gI cC cE cI:Nat) (x:World) (h:x.cell? ⟨p,1,none⟩=some (.slice a m cap)) (hj:Sn.inB j 0 (m:Int)=false) :
  Calls Tryz.prog 27 #[.pointer (some ⟨p,0,none⟩),.agg (Gd.world s gC gE gI cC cE cI g),.int .i64 j] x fun e y=>e=.returned (.tuple #[.agg Sn.void,.int .i64 19])∧x.grownBy y none:=by
 obtain ⟨x1,hx1⟩:∃y,x.alloc (.cells (Gd.world s gC gE gI cC cE cI g) 31)=y:=⟨_,rfl⟩
 obtain ⟨w0,hw0⟩:∃w0,w0=x1.alloc (.cells #[.int .i64 0,.int .i64 0,.int .i64 0,.int .i64 0,.slice none 0 0,.slice none 0 0,.slice none 0 0,.int .i64 0,.int .i64 0,.int .i64 0,.int .i64 0] 31):=⟨_,rfl⟩
 obtain ⟨P,hP⟩:∃P,x1.heap.size=P:=⟨_,rfl⟩
 have hg1:x.grownBy x1 none:=by rw [←hx1];exact World.grownBy_alloc _ _ _
 have hg0:x.grownBy w0 none:=by rw [hw0];exact gtr hg1 (World.grownBy_alloc _ _ _)
 have hR:Lie w0 P 31 11 (fun j=>#[.int .i64 0,.int .i64 0,.int .i64 0,.int .i64 0,.slice none 0 0,.slice none 0 0,.slice none 0 0,.int .i64 0,.int .i64 0,.int .i64 0,Value.int .i64 0][j]?.getD undef):=by
  rw [hw0,←hP]
  exact (Arr.lit (heap_alloc_new x1 _)).lie
 have fz:=hR.free
 obtain ⟨z0,z1,z2,z3,z4,z5,z6,z7,z8,z9,z10⟩:=Gd.res_cells hR
 have hgo:Hid (∀l,x.grownBy (w0.setCells P 0 l) none):=fun l=>own_sets (by have:=hg1.size;omega) l 0 w0 hg0
 have c1:w0.cell? ⟨p,1,none⟩=some (.slice a m cap):=(gce hg0 p 1 (Go.block_lt_of_cell h) (by simp)).trans h
 have cL:=hide (lenRing_any p m cap a w0 c1)
 have cW:=snWithin_any j 0 (m:Int) w0
 rw [hj] at cW
 have CW:=hide cW
 have HP:=hide hP
 clear cW hg0 hR hP h hj hg1
 go_enter Tryz.func27,Tryz.ntmps27
 go_upto_region 1 with fail
 rw [←hw0,uh HP]
 clear hw0 HP hx1
 go_wp2_with fail
 refine (uh cL).mono ?_
 rintro e wq ⟨rfl,hq'⟩
 obtain rfl:w0=wq:=hq'.symm
 clear cL
 go_wp2_with fail
 refine (uh CW).mono ?_
 rintro e wq ⟨rfl,hq'⟩
 obtain rfl:w0=wq:=hq'.symm
 clear CW
 go_wp2
 refine bodyPost_ret (v:=.tuple #[.agg Sn.void,.int .i64 19]) (by simp [results,Tryz.results27,go_sem,Sn.void,z0,z1,z2,z3,z4,z5,z6,z7,z8,z9,z10]) rfl ?_
 exact ⟨rfl,uh hgo [_,_,_,_,_,_,_,_,_,_,_]⟩

def Sn.voidF (j:Nat):Value:=#[.int .i64 0,.int .i64 0,.int .i64 0,.int .i64 0,.slice none 0 0,.slice none 0 0,.slice none 0 0,.int .i64 0,.int .i64 0,.int .i64 0,Value.int .i64 0][j]?.getD undef

def Sn.Backs (x:World) (base p n:Nat) (Us:List Value) (st:Nat) (T:Cr.W) (e:Ending) (y:World):Prop :=
 ∃(S:Cr.W) (jC jE jI dC dE dI:Nat) (v':Value),e=.returned (.tuple #[.agg (Gd.world S.s jC jE jI dC dE dI S.g),.int .i64 0])∧Sn.Eqw S T∧Gd.Lists y jC jE jI S.c S.E S.I∧Sn.Rng y base p n v' (Us.take st) st∧Turn (Sn.rb x base p) x y

def Sn.Held (x wr:World) (V jC jE jI dC dE dI:Nat) (S:Cr.W):Prop :=
 Sn.Left wr V jC jE jI dC dE dI S.s S.g S.c S.E S.I∧x.grownBy wr none

theorem Sn.Held.put {x wr:World} {base V jC jE jI dC dE dI:Nat} {S:Cr.W} {v:Value} {f:Cr.W→Cr.W} (H:Sn.Held x wr V jC jE jI dC dE dI S) (hA:Sn.Acts wr base v f) (hV:x.heap.size≤V) (hC:x.heap.size≤jC) (hE:x.heap.size≤jE) (hI:x.heap.size≤jI) :
  ∃T u,v=.iface T u∧∃F,((T=82∧F=146∧∃s g:Nat→Int,u=.agg #[.int .i64 (s 0),.int .i64 (s 1),.int .i64 (s 2),.int .i64 (s 3),.int .i64 (g 0),.int .i64 (g 1),.int .i64 (g 2),.int .i64 (g 3)])∨(T=134∧F=147∧∃G,u=.slice (some ⟨G,0,none⟩) 384 384)∨(T=136∧F=148∧∃(k:Nat) (e:Nat→Int),u=.agg #[.int .i64 (k:Int),.int .i64 (e 0),.int .i64 (e 1),.int .i64 (e 2),.int .i64 (e 3),.int .i64 (e 4),.int .i64 (e 5),.int .i64 (e 6),.int .i64 (e 7),.int .i64 (e 8),.int .i64 (e 9),.int .i64 (e 10)])∨(T=138∧F=149∧∃(k:Nat) (e:Nat→Int),u=.agg #[.int .i64 (k:Int),.int .i64 (e 0),.int .i64 (e 1),.int .i64 (e 2),.int .i64 (e 3)])) ∧
   Calls Tryz.prog F #[u,.pointer (some ⟨V,0,none⟩)] wr fun e y=>e=.returned (.tuple #[])∧Sn.Held x y V jC jE jI dC dE dI (f S)∧Turn (fun k=>k=V∨k=jC∨k=jE∨k=jI) wr y:=by
 have key:∀{y:World} {q:Nat},x.heap.size≤q→Turn (fun k=>k=q) wr y→x.grownBy y none:=fun hq ht=>Turn.grownBy ((Turn.new (B:=fun _=>False) H.2).trans ht (fun i hi e=>by omega))
 rcases hA with ⟨s,g,rfl,rfl⟩ | ⟨G,c,rfl,_,hG,rfl⟩ | ⟨k,e,hk,rfl,rfl⟩ | ⟨k,e,hk,rfl,rfl⟩
 ·refine ⟨_,_,rfl,_,.inl ⟨rfl,rfl,s,g,rfl⟩,(headPut_any s g S.s S.g S.c S.E S.I V jC jE jI dC dE dI wr H.1).mono ?_⟩
  rintro e y ⟨rfl,h1,h2⟩
  exact ⟨rfl,⟨h1,key hV h2⟩,h2.mono fun k e=>.inl e⟩
 ·refine ⟨_,_,rfl,_,.inr (.inl ⟨rfl,rfl,G,rfl⟩),(cellsPut_any G c S.s S.g S.c S.E S.I V jC jE jI dC dE dI wr hG H.1).mono ?_⟩
  rintro e y ⟨rfl,h1,h2⟩
  exact ⟨rfl,⟨h1,key hC h2⟩,h2.mono fun k e=>.inr (.inl e)⟩
 ·refine ⟨_,_,rfl,_,.inr (.inr (.inl ⟨rfl,rfl,k,e,rfl⟩)),(entPut_any k e S.s S.g S.c S.E S.I V jC jE jI dC dE dI wr hk H.1).mono ?_⟩
  rintro e y ⟨rfl,h1,h2⟩
  exact ⟨rfl,⟨h1,key hE h2⟩,h2.mono fun k e=>.inr (.inr (.inl e))⟩
 ·refine ⟨_,_,rfl,_,.inr (.inr (.inr ⟨rfl,rfl,k,e,rfl⟩)),(itemPut_any k e S.s S.g S.c S.E S.I V jC jE jI dC dE dI wr hk H.1).mono ?_⟩
  rintro e y ⟨rfl,h1,h2⟩
  exact ⟨rfl,⟨h1,key hI h2⟩,h2.mono fun k e=>.inr (.inr (.inr e))⟩

theorem Sn.run_next {fs:List (Cr.W→Cr.W)} {t:Nat} {f:Cr.W→Cr.W} (h:fs[t]?=some f) (S:Cr.W):Sn.run (fs.take (t+1)) S=f (Sn.run (fs.take t) S):=by
 have ht:t<fs.length:=(List.getElem?_eq_some_iff.1 h).1
 have e:fs.take (t+1)=fs.take t ++ [f]:=by
  rw [List.take_add_one,h]
  rfl
 rw [e,Sn.run_append]
 rfl

set_option maxRecDepth 8000 in
set_option maxHeartbeats 6400000 in
theorem back_any (base p n m j:Nat) (v:Value) (Us:List Value) (A:Nat→Cr.W) (Lc:Nat→Nat) (N:Cr.W) (gC gE gI cC cE cI:Nat) (x:World) (H:Sn.Rng x base p n v Us m) (hF:∀k u,Us[k]?=some u→Sn.Frm x base u (Lc k) (A k) (A (k+1))) (hm:m≤64) (hj:j≤m) (hL:Gd.Lists x gC gE gI N.c N.E N.I) (hN:Sn.Eqw N (A m)) :
  Calls Tryz.prog 27 #[.pointer (some ⟨p,0,none⟩),.agg (Gd.world N.s gC gE gI cC cE cI N.g),.int .i64 (j:Int)] x (Sn.Backs x base p n Us (m - j) (A (m - j))):=by
 obtain ⟨D,hD⟩:∃D,Sn.Backs x base p n Us (m - j) (A (m - j))=D:=⟨_,rfl⟩
 rw [hD]
 have HDD:=hide hD
 obtain ⟨x1,hx1⟩:∃y,x.alloc (.cells (Gd.world N.s gC gE gI cC cE cI N.g) 31)=y:=⟨_,rfl⟩
 obtain ⟨w0,hw0⟩:∃w0,w0=x1.alloc (.cells #[.int .i64 0,.int .i64 0,.int .i64 0,.int .i64 0,.slice none 0 0,.slice none 0 0,.slice none 0 0,.int .i64 0,.int .i64 0,.int .i64 0,.int .i64 0] 31):=⟨_,rfl⟩
 obtain ⟨P,hP⟩:∃P,x1.heap.size=P:=⟨_,rfl⟩
 have hg1:x.grownBy x1 none:=by rw [←hx1];exact World.grownBy_alloc _ _ _
 have hg0:x.grownBy w0 none:=by rw [hw0];exact gtr hg1 (World.grownBy_alloc _ _ _)
 have hR:Lie w0 P 31 11 Sn.voidF:=by
  rw [hw0,←hP]
  exact (Arr.lit (heap_alloc_new x1 _)).lie
 have y1:Lie w0 x.heap.size 31 11 (Gd.box N.s gC gE gI cC cE cI N.g):=by
  rw [hw0,←hx1]
  exact ((Arr.world (heap_alloc_new x _)).alloc _).lie
 obtain ⟨a0,a1,a2,a3,a4,a5,a6,a7,a8,a9,a10⟩:=y1.eleven
 obtain ⟨av,cv,rfl,hcells⟩:∃a cap,v=.slice a m cap∧Hid (0<m→∃g,a=some ⟨g,0,none⟩∧g<x.heap.size∧∀k,k<m→∃u,Us[k]?=some u∧x.cell? ⟨g,k,none⟩=some u):=by
  rcases H.own.2 with ⟨rfl,h0⟩ | ⟨g,cap,cur,rfl,_,hg,_⟩
  ·exact ⟨none,0,by rw [h0],fun q=>by omega⟩
  ·refine ⟨_,cap,rfl,fun _=>⟨g,rfl,(Array.getElem?_eq_some_iff.1 hg).1,fun k hk=>?_⟩⟩
   have hUl:Us.length=m:=by have:=H.own.1;omega
   have hc:=H.own.cellAt k (by omega)
   rw [List.getElem?_eq_getElem (by omega)] at hc
   exact ⟨_,List.getElem?_eq_getElem (by omega),hc⟩
 have c1x:x.cell? ⟨p,1,none⟩=some (.slice av m cv):=H.box.cell (c:=1) (by omega)
 have hpl:p<x.heap.size:=Go.block_lt_of_cell c1x
 have hc1:Hid (∀y,x.grownBy y none→y.cell? ⟨p,1,none⟩=some (.slice av m cv)):=fun y hy=>(gce hy p 1 hpl (by simp)).trans c1x
 have cLen:Hid (∀y,x.grownBy y none→Calls Tryz.prog 25 #[.pointer (some ⟨p,0,none⟩)] y fun e w'=>e=.returned (.int .i64 (m:Int))∧w'=y):=fun y hy=>lenRing_any p m cv av y (uh hc1 y hy)
 have cL:=hide (uh cLen w0 hg0)
 have cW:=snWithin_any (j:Int) 0 (m:Int) w0
 rw [show Sn.inB (j:Int) 0 (m:Int)=true by unfold Sn.inB;simp;omega] at cW
 have CW:=hide cW
 have cT:=hide (snTwin_any N.s N.g N.c N.E N.I gC gE gI cC cE cI w0 (hL.on hg0))
 have HP:=hide hP
 have HG0:=hide hg0
 have HR:=hide hR
 have HH:=hide H
 have HF:=hide hF
 have HM:=hide (And.intro hm hj)
 have HN:=hide hN
 have hxP:Hid (x.heap.size≤P∧P<w0.heap.size):=⟨by rw [←hP];exact hg1.size,hR.lt⟩
 clear cW hg0 hR hP hg1 hpl c1x y1 H hF hm hj hL hN hD
 go_enter Tryz.func27,Tryz.ntmps27
 go_upto_region 1 with fail
 rw [←hw0,uh HP]
 clear hw0 HP hx1
 go_wp2_with fail
 refine (uh cL).mono ?_
 rintro e wq ⟨rfl,hq'⟩
 obtain rfl:w0=wq:=hq'.symm
 clear cL
 go_wp2_with fail
 refine (uh CW).mono ?_
 rintro e wq ⟨rfl,hq'⟩
 obtain rfl:w0=wq:=hq'.symm
 clear CW
 unfold Gd.world at cT
 go_wp2_with fail
 refine (uh cT).mono ?_
 rintro e x2 ⟨jC,jE,jI,dC,dE,dI,rfl,h32,hjC,hjE,hjI,-,-,-,hL2,hg2⟩
 have hg02:=hide (gtr (uh HG0) hg2)
 obtain ⟨V,hV⟩:∃V,x2.heap.size=V:=⟨_,rfl⟩
 obtain ⟨x3,hx3⟩:∃y,x2.alloc (.cells (Gd.world N.s jC jE jI dC dE dI N.g) 31)=y:=⟨_,rfl⟩
 have hg23:x2.grownBy x3 none:=by rw [←hx3];exact World.grownBy_alloc _ _ _
 have hg03:=hide (gtr (uh hg02) hg23)
 have hlow:Hid (x.heap.size≤V∧x.heap.size≤jC∧x.heap.size≤jE∧x.heap.size≤jI):=⟨by rw [←hV];exact (uh hg02).size,Nat.le_trans (uh HG0).size hjC,Nat.le_trans (uh HG0).size hjE,Nat.le_trans (uh HG0).size hjI⟩
 have hPV:Hid (P≠V∧P≠jC∧P≠jE∧P≠jI):=by
  have h1:=(uh hxP).2
  have h2:=hg2.size
  exact ⟨by omega,by omega,by omega,by omega⟩
 have H3:Hid (Sn.Held x x3 V jC jE jI dC dE dI N):=by
  refine ⟨⟨?_,hL2.on hg23⟩,uh hg03⟩
  rw [←hx3,←hV]
  exact (Arr.world (heap_alloc_new x2 _)).lie
 have cL3:=hide (uh cLen x3 (uh hg03))
 have hR3:Hid (Lie x3 P 31 11 Sn.voidF):=(uh HR).on (gtr hg2 hg23)
 unfold Gd.world at hx3 ⊢
 clear cT h32 hjC hjE hjI hL2 hg2 hg23 HR a0 a1 a2 a3 a4 a5 a6 a7 a8 a9 a10
 go_upto_region 4 with fail
 clear hx3 hV
 have HVs:=hide (show V<x3.heap.size from (uh H3).1.v.lt)
 obtain ⟨st,hst⟩:∃st,m - j=st:=⟨_,rfl⟩
 have hstI:(m:Int) - (j:Int)=(st:Int):=by have:=uh HM;omega
 have HST:Hid (st≤m):=(show st≤m by omega)
 rw [hst] at HDD
 have m64:(m:Int)≤64:=by have:=uh HM;omega
 have jm:(j:Int)≤(m:Int):=by have:=uh HM;omega
 clear hst
 go_wp2_with fail
 refine (uh cL3).mono ?_
 rintro e wq ⟨rfl,hq''⟩
 obtain rfl:x3=wq:=hq''.symm
 go_wp2_with fail
 refine (uh cL3).mono ?_
 rintro e wq ⟨rfl,hq''⟩
 obtain rfl:x3=wq:=hq''.symm
 clear cL3
 have H0:Hid (∃S,Sn.Held x x3 V jC jE jI dC dE dI S∧Sn.Eqw S (A m)∧Lie x3 P 31 11 Sn.voidF):=⟨N,uh H3,uh HN,uh hR3⟩
 clear H3 hR3
 go_wp2_with fail
 go_loopw [10,12] (fun v10 _ wr=>∃f:Nat,st≤f∧f≤m∧v10=.int .i64 ((f:Int) - 1)∧Hid (∃S,Sn.Held x wr V jC jE jI dC dE dI S∧Sn.Eqw S (A f)∧Lie wr P 31 11 Sn.voidF)) (fun v10 _ _=>(intOf v10+1).toNat)
 case atStart=>exact ⟨m,uh HST,Nat.le_refl _,rfl,H0⟩
 case round =>
  clear H0
  obtain ⟨f,hf1,hf2,rfl,hX⟩:=hrel
  by_cases hlt:st<f
  ·obtain ⟨k,rfl⟩:∃k,f=k+1:=⟨f - 1,by omega⟩
   have hk0:(((k+1:Nat):Int)) - 1=(k:Int):=by omega
   rw [hk0]
   have hk1:(st:Int)≤(k:Int):=by omega
   have hk2:(k:Int)<(m:Int):=by omega
   obtain ⟨S,hS,hE,hR⟩:=uh hX
   obtain ⟨g,rfl,hgl,hcel⟩:=uh hcells (by omega)
   obtain ⟨u,hu,hcu⟩:=hcel k (by omega)
   obtain ⟨au,cu,l,fs,rfl,hown,hll,hprs,h74,hundo⟩:=(uh HF) k u hu
   obtain ⟨ln,hln⟩:∃ln,Lc k=ln:=⟨_,rfl⟩
   rw [hln] at hcu hown hll h74
   have c1:=uh hc1 wr hS.2
   have c2:wr.cell? ⟨g,k,none⟩=some (.slice au ln cu):=(gce hS.2 g k hgl (by simp)).trans hcu
   have ln74:(ln:Int)≤74:=by omega
   have HK:=hide (And.intro hf1 (And.intro hf2 hlt))
   have HI:Hid (Sn.Held x wr V jC jE jI dC dE dI (Sn.run (fs.take 0) S)∧Lie wr P 31 11 Sn.voidF):=⟨hS,hR⟩
   have HU:=hide (hundo S hE)
   have hrow:Hid (∀t,t<ln→∃gr v f,au=some ⟨gr,0,none⟩∧gr<x.heap.size∧x.cell? ⟨gr,t,none⟩=some v∧fs[t]?=some f∧Sn.Acts x base v f):=fun t ht=>by
    rcases hown.2 with ⟨_,h0⟩ | ⟨gr,cap,cur,e,_,hg,_⟩
    ·omega
    ·simp only [Value.slice.injEq] at e
     obtain ⟨rfl,_,_⟩:=e
     have hv:=hown.cells (g:=gr) rfl t _ (List.getElem?_eq_getElem (by omega))
     rw [Go.WideShapes.add_plain,Nat.zero_add] at hv
     obtain ⟨f,hf,hA⟩:=hprs.2 t _ (List.getElem?_eq_getElem (by omega))
     exact ⟨gr,_,f,rfl,(Array.getElem?_eq_some_iff.1 hg).1,hv,hf,hA⟩
   have HLF:Hid (fs.length=ln):=(hprs.1.symm.trans hll:fs.length=ln)
   clear hX hS hE hR hcel hu hcu hown hll hprs h74 hundo hf1 hf2 hlt hk0 hln hgl
   go_wp2_with fail
   clear c1 c2
   go_loopw [12,41] (fun _ v41 wx=>∃t:Nat,t≤ln∧v41=.int .i64 (t:Int)∧Hid (Sn.Held x wx V jC jE jI dC dE dI (Sn.run (fs.take t) S)∧Lie wx P 31 11 Sn.voidF)) (fun _ v41 _=>ln - (intOf v41).toNat)
   case atStart=>exact ⟨0,Nat.zero_le _,rfl,HI⟩
   case round =>
    clear HI
    obtain ⟨t,ht,rfl,hY⟩:=hrel
    by_cases htl:t<ln
    ·have ht1:(t:Int)<(ln:Int):=by omega
     obtain ⟨gr,v,f,rfl,hgr,hcv,hft,hA⟩:=uh hrow t htl
     have hH:=(uh hY).1
     have c3:wr.cell? ⟨gr,t,none⟩=some v:=(gce hH.2 gr t hgr (by simp)).trans hcv
     have hA2:Sn.Acts wr base v f:=hA.on fun G c _ hG=>hG.on hH.2
     obtain ⟨T,u,rfl,F,hcs,hcall⟩:=hH.put hA2 (uh hlow).1 (uh hlow).2.1 (uh hlow).2.2.1 (uh hlow).2.2.2
     rw [←Sn.run_next hft S] at hcall
     have CC:=hide hcall
     have HT:=hide htl
     have HPl:=hide (uh hY).2
     have hPk:Hid (∀y,Turn (fun k=>k=V∨k=jC∨k=jE∨k=jI) wr y→Lie y P 31 11 Sn.voidF):=fun y hy=>(uh HPl).turn hy (by have:=uh hPV;omega)
     clear hY hgr hcv hft hA hH hA2 hcall ht htl HPl
     rcases hcs with ⟨rfl,rfl,s0,g0,rfl⟩ | ⟨rfl,rfl,G,rfl⟩ | ⟨rfl,rfl,kk,ee,rfl⟩ | ⟨rfl,rfl,kk,ee,rfl⟩
     all_goals
      go_wp2_with fail
      refine (uh CC).mono ?_
      rintro e y ⟨rfl,hy1,hy2⟩
      have hR2:=hide (And.intro hy1 (uh hPk y hy2))
      clear hy1 hy2 CC hPk c3
      go_wp2_with fail
      go_roundw
      case rel=>exact ⟨t+1,by have:=uh HT;omega,by go_num,hR2⟩
      case measure=>simp [intOf];have:=uh HT;omega
    ·have hge:¬(t:Int)<(ln:Int):=by omega
     obtain rfl:ln=t:=by omega
     have hend:Hid (∃S,Sn.Held x wr V jC jE jI dC dE dI S∧Sn.Eqw S (A k)∧Lie wr P 31 11 Sn.voidF):=by
      have h:=(uh hY)
      rw [List.take_of_length_le (by rw [uh HLF];exact Nat.le_refl _)] at h
      exact ⟨_,h.1,uh HU,h.2⟩
     clear hY htl ht hrow
     go_wp2_with fail
     go_roundw
     case rel=>exact ⟨k,by omega,by have:=(uh HK).2.1;omega,by go_num,hend⟩
     case measure=>simp [intOf]
  ·have hge:¬(st:Int)≤(f:Int) - 1:=by omega
   obtain rfl:f=st:=by omega
   obtain ⟨S,hS,hE,hR⟩:=uh hX
   have cL4:=hide (uh cLen wr hS.2)
   have hRg:=(uh HH).on hS.2
   have cG:=hide (letGo_any base p n f m m _ Us wr hRg (uh HST) (Nat.le_refl _))
   have HS4:=hide (And.intro hS (And.intro hE hR))
   have HRg:=hide hRg
   clear hX hS hE hR hlt hf1 hf2 hRg
   go_wp2_with fail
   refine (uh cL4).mono ?_
   rintro e wq ⟨rfl,hq4⟩
   obtain rfl:wr=wq:=hq4.symm
   clear cL4
   go_wp2_with fail
   refine (uh cG).mono ?_
   rintro e y ⟨rfl,v',hR5,ht5⟩
   have hty:=(uh HRg).types
   have hne:∀{G q:Nat} {T:TypeId} {F:Nat→Value},Lie wr G T q F→T≠92→T≠93→¬(G=p∨(Value.slice av m cv).ownBlock=some G):=fun hl h1 h2 q=>by
    obtain ⟨cs,hc⟩:=hl.block
    rcases hty _ cs _ q hc with e | e
    ·exact h1 e
    ·exact h2 e
   have hS4:=uh HS4
   have hV5:=hS4.1.1.v.turn ht5 (hne hS4.1.1.v (by decide) (by decide))
   have hL5:Gd.Lists y jC jE jI S.c S.E S.I:=⟨hS4.1.1.lv.cells.turn ht5 (hne hS4.1.1.lv.cells (by decide) (by decide)),hS4.1.1.lv.ents.turn ht5 (hne hS4.1.1.lv.ents (by decide) (by decide)),hS4.1.1.lv.items.turn ht5 (hne hS4.1.1.lv.items (by decide) (by decide))⟩
   have hP5:=hS4.2.2.turn ht5 (hne hS4.2.2 (by decide) (by decide))
   have hT5:Turn (Sn.rb x base p) x y:=Sn.rb_trans (Turn.new hS4.1.2) (Sn.rb_own (uh HRg) ht5)
   rw [List.drop_eq_nil_of_le (by have:=(uh HRg).own.1;omega),List.append_nil,Nat.sub_self,Nat.add_zero] at hR5
   have fz:=hP5.free
   obtain ⟨b0,b1,b2,b3,b4,b5,b6,b7,b8,b9,b10⟩:=hV5.eleven
   have zc:∀c,c<11→y.cell? ⟨P,c,none⟩=some (Sn.voidF c):=fun c hc=>hP5.cell (c:=c) hc
   have z0:y.cell? ⟨P,0,none⟩=some (.int .i64 0):=zc 0 (by omega)
   have z1:y.cell? ⟨P,1,none⟩=some (.int .i64 0):=zc 1 (by omega)
   have z2:y.cell? ⟨P,2,none⟩=some (.int .i64 0):=zc 2 (by omega)
   have z3:y.cell? ⟨P,3,none⟩=some (.int .i64 0):=zc 3 (by omega)
   have z4:y.cell? ⟨P,4,none⟩=some (.slice none 0 0):=zc 4 (by omega)
   have z5:y.cell? ⟨P,5,none⟩=some (.slice none 0 0):=zc 5 (by omega)
   have z6:y.cell? ⟨P,6,none⟩=some (.slice none 0 0):=zc 6 (by omega)
   have z7:y.cell? ⟨P,7,none⟩=some (.int .i64 0):=zc 7 (by omega)
   have z8:y.cell? ⟨P,8,none⟩=some (.int .i64 0):=zc 8 (by omega)
   have z9:y.cell? ⟨P,9,none⟩=some (.int .i64 0):=zc 9 (by omega)
   have z10:y.cell? ⟨P,10,none⟩=some (.int .i64 0):=zc 10 (by omega)
   have hfin:Hid (∀vs:List Value,D (.returned (.tuple #[.agg (Gd.world S.s jC jE jI dC dE dI S.g),.int .i64 0])) (y.setCells P 0 vs)):=fun vs=>by
    rw [←uh HDD]
    have r:=gss (g:=P) vs 0 y (World.grownBy.refl _ _)
    have hp4:=uh hPV
    have ht6:Turn (fun k=>k=P) y (y.setCells P 0 vs):=Turn.grown r (fun k e=>by cases e;rfl)
    refine ⟨S,jC,jE,jI,dC,dE,dI,v',rfl,hS4.2.1,⟨hL5.cells.turn ht6 (fun e=>hp4.2.1 e.symm),hL5.ents.turn ht6 (fun e=>hp4.2.2.1 e.symm),hL5.items.turn ht6 (fun e=>hp4.2.2.2 e.symm)⟩,hR5.turn ht6 (fun k cs T e hc=>?_),hT5.trans ht6 (fun i hi e=>by have:=(uh hxP).1;omega)⟩
    subst e
    obtain ⟨cs2,hc2⟩:=hP5.block
    rw [hc2] at hc
    simp only [Option.some.injEq,Obj.cells.injEq] at hc
    rw [←hc.2.1]
    exact ⟨by decide,by decide⟩
   clear hty hne hS4 hV5 hL5 hP5 hT5 hR5 ht5 zc HS4 HRg cG
   go_wp2
   refine bodyPost_ret (v:=.tuple #[.agg (Gd.world S.s jC jE jI dC dE dI S.g),.int .i64 0]) (by simp [results,Tryz.results27,go_sem,Gd.world,z0,z1,z2,z3,z4,z5,z6,z7,z8,z9,z10]) rfl ?_
   exact uh hfin [_,_,_,_,_,_,_,_,_,_,_]


open Go.RowKit

structure Sn.Hd where
 W:Cr.W
 gC:Nat
 gE:Nat
 gI:Nat
 cC:Nat
 cE:Nat
 cI:Nat

def Sn.Hd.cells (h:Sn.Hd):List Value:=(Gd.world h.W.s h.gC h.gE h.gI h.cC h.cE h.cI h.W.g).toList

theorem Sn.Hd.len (h:Sn.Hd):h.cells.length=11:=rfl

theorem Sn.Hd.at (h:Sn.Hd) {j:Nat} (hj:j<11):h.cells[j]?=some (Gd.box h.W.s h.gC h.gE h.gI h.cC h.cE h.cI h.W.g j):=by
 have:=Gd.world_at h.W.s h.gC h.gE h.gI h.cC h.cE h.cI h.W.g j hj
 unfold Sn.Hd.cells
 rw [Array.getElem?_toList]
 exact this

def Sn.hflat:List Sn.Hd→List Value
 | []=>[]
 | h :: r=>h.cells ++ Sn.hflat r

theorem Sn.hflat_at:∀{Hs:List Sn.Hd} {k:Nat} {h:Sn.Hd},Hs[k]?=some h→∀{j:Nat},j<11→(Sn.hflat Hs)[k*11+j]?=some (Gd.box h.W.s h.gC h.gE h.gI h.cC h.cE h.cI h.W.g j)
 | [],k,h,e,_,_=>by simp at e
 | q :: r,0,h,e,j,hj=>by
  simp only [List.getElem?_cons_zero,Option.some.injEq] at e
  subst e
  unfold Sn.hflat
  rw [Nat.zero_mul,Nat.zero_add,List.getElem?_append_left (by rw [q.len];exact hj)]
  exact q.at hj
 | q :: r,k+1,h,e,j,hj=>by
  simp only [List.getElem?_cons_succ] at e
  unfold Sn.hflat
  rw [List.getElem?_append_right (by rw [q.len];omega),q.len,show (k+1)*11+j - 11=k*11+j by omega]
  exact Sn.hflat_at e hj

theorem Sn.hflat_snoc:∀(Hs:List Sn.Hd) (h:Sn.Hd),Sn.hflat (Hs ++ [h])=Sn.hflat Hs ++ h.cells
 | [],h=>by simp [Sn.hflat]
 | q :: r,h=>by
  show q.cells ++ Sn.hflat (r ++ [h])=(q.cells ++ Sn.hflat r) ++ h.cells
  rw [Sn.hflat_snoc r h,List.append_assoc]

theorem Sn.hflat_tail (Hs:List Sn.Hd):(Sn.hflat Hs).drop 11=Sn.hflat (Hs.drop 1):=by
 cases Hs with
 | nil=>rfl
 | cons q r=>exact List.drop_left' q.len

theorem Sn.hflat_take:∀(Hs:List Sn.Hd) (k:Nat),(Sn.hflat Hs).take (k*11)=Sn.hflat (Hs.take k)
 | [],k=>by simp [Sn.hflat]
 | q :: r,0=>by simp [Sn.hflat]
 | q :: r,k+1=>by
  rw [List.take_succ_cons]
  show (q.cells ++ Sn.hflat r).take ((k+1)*11)=q.cells ++ Sn.hflat (r.take k)
  rw [List.take_append,q.len,show (k+1)*11 - 11=k*11 by omega,Sn.hflat_take r k,List.take_of_length_le (by rw [q.len];omega)]

structure Sn.Line (x:World) (base:Nat) (Us:List Value) (Ls:List Nat) (Hs:List Sn.Hd):Prop where
 lenU:Us.length=Ls.length
 lenH:Hs.length=Ls.length+1
 frm:∀(j:Nat) (u:Value) (l:Nat) (P Q:Sn.Hd),Us[j]?=some u→Ls[j]?=some l→Hs[j]?=some P→Hs[j+1]?=some Q→Sn.Frm x base u l P.W Q.W
 list:∀h∈Hs,Gd.Lists x h.gC h.gE h.gI h.W.c h.W.E h.W.I

theorem Gd.Lists.turned {P:Nat→Prop} {x y:World} {gC gE gI:Nat} {c:Nat→Int} {E I:Nat→Nat→Int} (H:Gd.Lists x gC gE gI c E I) (ht:Turn P x y) (hP:∀k cs T,P k→x.heap[k]?=some (.cells cs T (0,0))→T≠5∧T≠70∧T≠72):Gd.Lists y gC gE gI c E I :=
 ⟨H.cells.turn ht (fun q=>by obtain ⟨cs,h⟩:=H.cells.block;exact (hP _ cs _ q h).1 rfl),H.ents.turn ht (fun q=>by obtain ⟨cs,h⟩:=H.ents.block;exact (hP _ cs _ q h).2.1 rfl),H.items.turn ht (fun q=>by obtain ⟨cs,h⟩:=H.items.block;exact (hP _ cs _ q h).2.2 rfl)⟩

theorem Sn.Line.turn {P:Nat→Prop} {x y:World} {base:Nat} {Us:List Value} {Ls:List Nat} {Hs:List Sn.Hd} (H:Sn.Line x base Us Ls Hs) (ht:Turn P x y) (hP:∀k cs T,P k→x.heap[k]?=some (.cells cs T (0,0))→T≠99∧T≠5∧T≠70∧T≠72):Sn.Line y base Us Ls Hs :=
 { H with
  frm:=fun j u l A B h1 h2 h3 h4=>(H.frm j u l A B h1 h2 h3 h4).turn ht (fun k cs T q h=>⟨(hP k cs T q h).1,(hP k cs T q h).2.1⟩)
  list:=fun h q=>(H.list h q).turned ht (fun k cs T q h=>⟨(hP k cs T q h).2.1,(hP k cs T q h).2.2.1,(hP k cs T q h).2.2.2⟩) }

theorem Sn.Line.push {x:World} {base:Nat} {Us:List Value} {Ls:List Nat} {Hs:List Sn.Hd} (H:Sn.Line x base Us Ls Hs) {u:Value} {l:Nat} {P h:Sn.Hd} (hP:Hs[Ls.length]?=some P) (hF:Sn.Frm x base u l P.W h.W) (hL:Gd.Lists x h.gC h.gE h.gI h.W.c h.W.E h.W.I):Sn.Line x base (Us ++ [u]) (Ls ++ [l]) (Hs ++ [h]):=by
 refine ⟨by simp [H.lenU],by simp [H.lenH],fun j u' l' A B h1 h2 h3 h4=>?_,fun q hq=>?_⟩
 ·have e1:=H.lenU
  have e2:=H.lenH
  by_cases hj:j<Ls.length
  ·rw [List.getElem?_append_left (by omega)] at h1 h2 h3 h4
   exact H.frm j u' l' A B h1 h2 h3 h4
  ·have hj2:j<(Ls ++ [l]).length:=(List.getElem?_eq_some_iff.1 h2).1
   obtain rfl:j=Ls.length:=by simp at hj2;omega
   rw [List.getElem?_append_left (by omega),hP] at h3
   rw [List.getElem?_append_right (by omega),show Ls.length+1 - Hs.length=0 by omega] at h4
   rw [List.getElem?_append_right (by omega),show Ls.length - Us.length=0 by omega] at h1
   rw [List.getElem?_append_right (by omega),Nat.sub_self] at h2
   simp at h1 h2 h3 h4
   subst h1 h2 h3 h4
   exact hF
 ·rcases List.mem_append.1 hq with q1 | q1
  ·exact H.list q q1
  ·simp at q1
   subst q1
   exact hL

theorem Sn.Line.tail {x:World} {base:Nat} {Us:List Value} {Ls:List Nat} {Hs:List Sn.Hd} (H:Sn.Line x base Us Ls Hs) (h0:0<Ls.length):Sn.Line x base (Us.drop 1) (Ls.drop 1) (Hs.drop 1):=by
 refine ⟨by simp [H.lenU],by rw [List.length_drop,List.length_drop,H.lenH];omega,fun j u l A B h1 h2 h3 h4=>?_,fun q hq=>H.list q (List.mem_of_mem_drop hq)⟩
 rw [List.getElem?_drop] at h1 h2 h3 h4
 exact H.frm (1+j) u l A B h1 h2 h3 (by rw [Nat.add_assoc];exact h4)

theorem Sn.Line.take {x:World} {base:Nat} {Us:List Value} {Ls:List Nat} {Hs:List Sn.Hd} (H:Sn.Line x base Us Ls Hs) {k:Nat} (hk:k≤Ls.length):Sn.Line x base (Us.take k) (Ls.take k) (Hs.take (k+1)):=by
 have e1:=H.lenU
 have e2:=H.lenH
 refine ⟨by simp [H.lenU],by rw [List.length_take,List.length_take];omega,fun j u l A B h1 h2 h3 h4=>?_,fun q hq=>H.list q (List.mem_of_mem_take hq)⟩
 have hj:j<(Ls.take k).length:=(List.getElem?_eq_some_iff.1 h2).1
 rw [List.length_take] at hj
 rw [List.getElem?_take_of_lt (by omega)] at h1 h2 h3 h4
 exact H.frm j u l A B h1 h2 h3 h4

def Sn.cnts (Ls:List Nat):List Value:=Ls.map fun (l:Nat)=>.int .i64 (l:Int)

end Go.Proofs.YtkcooekhigmioaaGreat
