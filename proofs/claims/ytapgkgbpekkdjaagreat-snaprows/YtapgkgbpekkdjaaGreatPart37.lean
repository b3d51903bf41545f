import Derived.Test.YtapgkgbpekkdjaaGreatPart29
import Derived.Test.YtapgkgbpekkdjaaGreatPart36
namespace Go.Proofs.YtapgkgbpekkdjaaGreat
open Go.RowKit

set_option maxRecDepth 16000 in
set_option maxHeartbeats 12800000 in
theorem snReads_any (G cap:Nat) (F:Nat→Int) (w:World) (hS:Sn.Src w G F) (hc:918≤cap) (hm:cap≤9223372036854775807) :
  Calls Tryz.prog 50 #[.slice (some ⟨G,0,none⟩) 918 cap] w (Gd.Worlds w (Sn.rs F) (Sn.rg F) (Sn.rc F) (Sn.rE F) (Sn.rI F)):=by
 obtain ⟨wa,hwa⟩:∃wa,wa=w.alloc (.cells #[.int .i64 0,.int .i64 0,.int .i64 0,.int .i64 0,.slice none 0 0,.slice none 0 0,.slice none 0 0,.int .i64 0,.int .i64 0,.int .i64 0,.int .i64 0] 31):=⟨_,rfl⟩
 obtain ⟨wb,hwb⟩:∃wb,wb=wa.alloc (.cells #[.int .i64 0,.int .i64 0,.int .i64 0,.int .i64 0,.slice none 0 0,.slice none 0 0,.slice none 0 0,.int .i64 0,.int .i64 0,.int .i64 0,.int .i64 0] 31):=⟨_,rfl⟩
 obtain ⟨x0,hx0⟩:∃x0,x0=wb.alloc (.cells #[.slice (some ⟨G,0,none⟩) 918 cap] 131):=⟨_,rfl⟩
 have ga:w.grownBy wa none:=by rw [hwa];exact World.grownBy_alloc _ _ _
 have gb:wa.grownBy wb none:=by rw [hwb];exact World.grownBy_alloc _ _ _
 have g0:wb.grownBy x0 none:=by rw [hx0];exact World.grownBy_alloc _ _ _
 have sa:wa.heap.size=w.heap.size+1:=by rw [hwa];simp
 have sb:wb.heap.size=w.heap.size+1+1:=by rw [hwb,←sa];simp
 have hP:Lie wa w.heap.size 31 11 (fun j=>#[.int .i64 0,.int .i64 0,.int .i64 0,.int .i64 0,.slice none 0 0,.slice none 0 0,.slice none 0 0,.int .i64 0,.int .i64 0,.int .i64 0,Value.int .i64 0][j]?.getD undef):=by
  rw [hwa]
  exact (Arr.lit (heap_alloc_new w _)).lie
 have hW:Lie wb wa.heap.size 31 11 (fun j=>#[.int .i64 0,.int .i64 0,.int .i64 0,.int .i64 0,.slice none 0 0,.slice none 0 0,.slice none 0 0,.int .i64 0,.int .i64 0,.int .i64 0,Value.int .i64 0][j]?.getD undef):=by
  rw [hwb]
  exact (Arr.lit (heap_alloc_new wa _)).lie
 have hR:Lie x0 wb.heap.size 131 1 (fun _=>.slice (some ⟨G,0,none⟩) (918 - 0) cap):=by
  rw [hx0]
  refine Lie.congr (m:=1) (Arr.lit (heap_alloc_new wb _)).lie fun c hc=>?_
  obtain rfl:c=0:=by omega
  rfl
 obtain ⟨Z,hZe⟩:∃Z:Nat→Value,(fun j=>#[.int .i64 0,.int .i64 0,.int .i64 0,.int .i64 0,.slice none 0 0,.slice none 0 0,.slice none 0 0,.int .i64 0,.int .i64 0,.int .i64 0,Value.int .i64 0][j]?.getD undef)=Z:=⟨_,rfl⟩
 obtain ⟨P,hPe⟩:∃P,w.heap.size=P:=⟨_,rfl⟩
 obtain ⟨W,hWe⟩:∃W,wa.heap.size=W:=⟨_,rfl⟩
 obtain ⟨R,hRe⟩:∃R,wb.heap.size=R:=⟨_,rfl⟩
 have hX0:Hid (Sn.Read w x0 P W R G 0 F Z):=by
  have hlt:=hS.lt
  refine ⟨?_,?_,⟨0,cap,?_,fun _=>rfl,by omega,hm⟩,hS.on (gtr ga (gtr gb g0)) (by simp),by omega,by omega,by omega,hlt,by omega,by omega,by omega,gtr ga (gtr gb g0)⟩
  ·rw [←hPe]
   exact hP.on (gtr gb g0)
  ·rw [←hWe,←hZe]
   exact hW.on g0
  ·rw [←hRe]
   exact hR
 have HZ:=hide hZe
 have eR:P+1+1=R:=by omega
 have eW:P+1=W:=by omega
 have eR':=hide eR
 have eW':=hide eW
 clear eR eW hWe hRe
 clear hS hc hm ga gb g0 sa sb hP hW hR hZe
 go_enter Tryz.func50,Tryz.ntmps50
 go_upto_region 3 with fail
 rw [←hwa,←hwb,←hx0,uh eR',uh eW']
 clear hwa hwb hx0 hPe eR' eW'
 clear wa wb
 have cn:=hide (snNumber_any R G 0 8 F x0 (uh hX0).rd (uh hX0).src (uh hX0).rG (by omega) (by omega) (by omega))
 obtain ⟨V0,hV0⟩:∃V,IntKind.i64.wrap (Sn.be (Sn.cut F 0 8))=V:=⟨_,rfl⟩
 have hv0:=hide hV0
 go_wp2_with fail
 refine (uh cn).mono ?_
 rintro e y ⟨u,rfl,hy,hRd⟩
 have hY:=hide ((uh hX0).step hy hRd)
 have fW:=(uh hY).box.free
 have zW:=(uh hY).box.cell (c:=0) (by omega)
 have hZ:=hide ((uh hY).field 0 (.int .i64 V0))
 clear cn hy hRd hX0 hY
 go_upto_region 4 with fail
 generalize y.setCell ⟨W,0,none⟩ (.int .i64 V0)=x1 at hZ ⊢
 have hX1:Hid (Sn.Read w x1 P W R G 8 F (Sn.put (Z) 0 (.int .i64 V0))):=hZ
 clear hZ fW zW hV0
 have cn:=hide (snNumber_any R G 8 4 F x1 (uh hX1).rd (uh hX1).src (uh hX1).rG (by omega) (by omega) (by omega))
 obtain ⟨V1,hV1⟩:∃V,IntKind.i64.wrap (Sn.be (Sn.cut F 8 4))=V:=⟨_,rfl⟩
 have hv1:=hide hV1
 go_wp2_with fail
 refine (uh cn).mono ?_
 rintro e y ⟨u,rfl,hy,hRd⟩
 have hY:=hide ((uh hX1).step hy hRd)
 have fW:=(uh hY).box.free
 have zW:=(uh hY).box.cell (c:=1) (by omega)
 have hZ:=hide ((uh hY).field 1 (.int .i64 V1))
 clear cn hy hRd hX1 hY
 go_upto_region 5 with fail
 generalize y.setCell ⟨W,1,none⟩ (.int .i64 V1)=x2 at hZ ⊢
 have hX2:Hid (Sn.Read w x2 P W R G 12 F (Sn.put (Sn.put (Z) 0 (.int .i64 V0)) 1 (.int .i64 V1))):=hZ
 clear hZ fW zW hV1
 have cn:=hide (snNumber_any R G 12 1 F x2 (uh hX2).rd (uh hX2).src (uh hX2).rG (by omega) (by omega) (by omega))
 obtain ⟨V2,hV2⟩:∃V,IntKind.i64.wrap (Sn.be (Sn.cut F 12 1))=V:=⟨_,rfl⟩
 have hv2:=hide hV2
 go_wp2_with fail
 refine (uh cn).mono ?_
 rintro e y ⟨u,rfl,hy,hRd⟩
 have hY:=hide ((uh hX2).step hy hRd)
 have fW:=(uh hY).box.free
 have zW:=(uh hY).box.cell (c:=2) (by omega)
 have hZ:=hide ((uh hY).field 2 (.int .i64 V2))
 clear cn hy hRd hX2 hY
 go_upto_region 6 with fail
 generalize y.setCell ⟨W,2,none⟩ (.int .i64 V2)=x3 at hZ ⊢
 have hX3:Hid (Sn.Read w x3 P W R G 13 F (Sn.put (Sn.put (Sn.put (Z) 0 (.int .i64 V0)) 1 (.int .i64 V1)) 2 (.int .i64 V2))):=hZ
 clear hZ fW zW hV2
 have cn:=hide (snNumber_any R G 13 1 F x3 (uh hX3).rd (uh hX3).src (uh hX3).rG (by omega) (by omega) (by omega))
 obtain ⟨V3,hV3⟩:∃V,IntKind.i64.wrap (Sn.be (Sn.cut F 13 1))=V:=⟨_,rfl⟩
 have hv3:=hide hV3
 go_wp2_with fail
 refine (uh cn).mono ?_
 rintro e y ⟨u,rfl,hy,hRd⟩
 have hY:=hide ((uh hX3).step hy hRd)
 have fW:=(uh hY).box.free
 have zW:=(uh hY).box.cell (c:=3) (by omega)
 have hZ:=hide ((uh hY).field 3 (.int .i64 V3))
 clear cn hy hRd hX3 hY
 go_upto_region 7 with fail
 generalize y.setCell ⟨W,3,none⟩ (.int .i64 V3)=x4 at hZ ⊢
 have hX4:Hid (Sn.Read w x4 P W R G 14 F (Sn.put (Sn.put (Sn.put (Sn.put (Z) 0 (.int .i64 V0)) 1 (.int .i64 V1)) 2 (.int .i64 V2)) 3 (.int .i64 V3))):=hZ
 clear hZ fW zW hV3
 obtain ⟨H,hH⟩:∃H,H=Sn.put (Sn.put (Sn.put (Sn.put (Z) 0 (.int .i64 V0)) 1 (.int .i64 V1)) 2 (.int .i64 V2)) 3 (.int .i64 V3):=⟨_,rfl⟩
 rw [←hH] at hX4
 have HH:=hide hH
 clear hH
 go_wp2_with fail
 go_loopw [5,22] (fun v5 v22 wr=>∃t:Nat,t≤4∧v22=.int .i64 (t:Int)∧Hid (Sn.Read w wr P W R G (14+2*t) F (Sn.gd H (Sn.rg F) t))) (fun _ v22 _=>10 - (intOf v22).toNat)
 case atStart=>exact ⟨0,by omega,rfl,by rw [Sn.gd_none];exact hX4⟩
 case round =>
  clear hX4
  obtain ⟨t,ht,rfl,hX⟩:=hrel
  by_cases hlt:t<4
  ·have hlt':(t:Int)<4:=by omega
   have HL:=hide hlt
   have cn:=hide (snNumber_any R G (14+2*t) 2 F wr (uh hX).rd (uh hX).src (uh hX).rG (by omega) (by omega) (by omega))
   have tw:IntKind.i64.wrap (Sn.be (Sn.cut F (14+2*t) 2))=Sn.rg F t:=by
    have:=Sn.be_bound 2 F (14+2*t) (fun j _=>(uh hX).src.byte _)
    rw [IntKind.wrap_i64]
    unfold Sn.rg
    omega
   clear hlt ht
   go_wp2_with fail
   refine (uh cn).mono ?_
   rintro e y ⟨u,rfl,hy,hRd⟩
   have hY:=hide ((uh hX).step hy hRd)
   have fW:=(uh hY).box.free
   have zW:=(uh hY).box.cell (c:=7+t) (by have:=uh HL;omega)
   have hZ:=hide ((uh hY).field (7+t) (.int .i64 (Sn.rg F t)))
   rw [Sn.gd_more,show 14+2*t+2=14+2*(t+1) by omega] at hZ
   clear cn hy hRd hX hY
   go_wp2
   go_roundw
   case rel=>exact ⟨t+1,by have:=uh HL;omega,by go_num,hZ⟩
   case measure=>simp [intOf];have:=uh HL;omega
  ·obtain rfl:t=4:=by omega
   have hge:¬((4:Nat):Int)<4:=by omega
   clear hlt ht
   have cn:=hide (snNext_any R G 22 384 wr (uh hX).rd (by omega) (by omega))
   go_upto_region 12 with fail
   go_wp2_with fail
   refine (uh cn).mono ?_
   rintro e y ⟨u,C,rfl,hC,hy,hRd⟩
   have hY:=hide ((uh hX).step hy hRd)
   have ct:=hide (snTwinB_any G 22 384 384 C (Byts (Sn.rc F)) y (by omega) (by omega) (fun _=>rfl) (fun c hc=>(uh hY).src.cell (22+c) (by omega)) (uh hY).src.lt)
   clear cn hC hy hRd hX
   go_wp2_with fail
   refine (uh ct).mono ?_
   rintro e y2 ⟨gC,rfl,lC,hA,hg⟩
   have hY2:=hide ((uh hY).on hg)
   have HC:=hide hA.lie
   have LC:Hid (w.heap.size≤gC):=(show w.heap.size≤gC by have:=(uh hY).grown.size;omega)
   have fW:=(uh hY2).box.free
   have zW:=(uh hY2).box.cell (c:=4) (by omega)
   have nCW:Hid (gC≠W):=(uh HC).type_ne (uh hY2).box (by decide)
   have hZ:=hide (And.intro ((uh hY2).field 4 (.slice (some ⟨gC,0,none⟩) 384 384)) ((uh HC).other (uh nCW).symm 4 (.slice (some ⟨gC,0,none⟩) 384 384)))
   clear ct lC hA hg hY hY2 HC
   go_upto_region 13 with fail
   generalize y2.setCell ⟨W,4,none⟩ (.slice (some ⟨gC,0,none⟩) 384 384)=x5 at hZ ⊢
   clear fW zW y y2
   obtain ⟨Z5,hm5,hZ5⟩:=make32
   obtain ⟨gE,hgE⟩:∃b,x5.heap.size=b:=⟨_,rfl⟩
   obtain ⟨wm,hwm⟩:∃wm,wm=x5.alloc (.cells Z5 72):=⟨_,rfl⟩
   have hga:x5.grownBy wm none:=by rw [hwm];exact World.grownBy_alloc _ _ _
   have hl5:Lie wm gE 72 352 (En.flat fun _ _=>0):=by
    rw [←hgE,hwm]
    exact (hZ5 x5).lie (m:=352) (by omega)
   have hmx:=hm5 x5
   rw [←hwm,hgE] at hmx
   have hb:=hide ((uh hZ).1.on hga)
   have fW:=(uh hb).box.free
   have zW:=(uh hb).box.cell (c:=5) (by omega)
   obtain ⟨B5,hB5⟩:∃B,B=Sn.put (Sn.put (Sn.gd H (Sn.rg F) 4) 4 (.slice (some ⟨gC,0,none⟩) 384 384)) 5 (.slice (some ⟨gE,0,none⟩) 32 32):=⟨_,rfl⟩
   have LgE:Hid (w.heap.size≤gE):=(show w.heap.size≤gE by have:=(uh hZ).1.grown.size;omega)
   have hQ:Hid (Sn.Read w (wm.setCell ⟨W,5,none⟩ (.slice (some ⟨gE,0,none⟩) 32 32)) P W R G (406) F B5∧Lie (wm.setCell ⟨W,5,none⟩ (.slice (some ⟨gE,0,none⟩) 32 32)) gC 5 384 (Byts (Sn.rc F))∧Lie (wm.setCell ⟨W,5,none⟩ (.slice (some ⟨gE,0,none⟩) 32 32)) gE 72 352 (En.flat (Sn.fill (Sn.rE F) 0))):=by
    have hz:=uh hZ
    exact ⟨by rw [hB5];exact (uh hb).field 5 _,(hz.2.on hga).other ((hz.2.on hga).type_ne (uh hb).box (by decide)).symm _ _,by rw [Sn.fill_none];exact hl5.other (hl5.type_ne (uh hb).box (by decide)).symm _ _⟩
   have HB5:=hide hB5
   clear hga hl5 hZ5 hB5 hm5 hb hgE hwm
   go_upto_region 14 with fail
   generalize (wm.setCell ⟨W,5,none⟩ (.slice (some ⟨gE,0,none⟩) 32 32))=x5n at hQ ⊢
   clear hmx hZ fW zW
   have hb5:Hid (∀z,Lie z W 31 11 B5→z.cell? ⟨W,5,none⟩=some (.slice (some ⟨gE,0,none⟩) 32 32)):=fun z hz=>by
    rw [hz.cell (c:=5) (by omega),uh HB5]
    rfl
   have zB:=uh hb5 _ (uh hQ).1.box
   go_wp2_with fail
   go_loopw [6,39] (fun vo vl wr=>∃n:Nat,n≤32∧vl=.int .i64 (n:Int)∧Hid (Sn.Read w wr P W R G (406+n*11) F B5∧Lie wr gC 5 384 (Byts (Sn.rc F))∧Lie wr gE 72 352 (En.flat (Sn.fill (Sn.rE F) n)))) (fun _ vl _=>60 - (intOf vl).toNat)
   case atStart=>exact ⟨0,by omega,rfl,hQ⟩
   case round =>
    clear hQ zB
    obtain ⟨n,hn,rfl,hX⟩:=hrel
    by_cases hlt:n<32
    ·have hlt':(n:Int)<32:=by omega
     have HL:=hide hlt
     have hd:=hide (gd1 (World.grownBy.refl wr none))
     have hon:Hid (∀y z kk,(Sn.Read w y P W R G (kk) F B5∧Lie y gC 5 384 (Byts (Sn.rc F))∧Lie y gE 72 352 (En.flat (Sn.fill (Sn.rE F) n)))→y.grownBy z none→(Sn.Read w z P W R G (kk) F B5∧Lie z gC 5 384 (Byts (Sn.rc F))∧Lie z gE 72 352 (En.flat (Sn.fill (Sn.rE F) n)))):=fun y z kk h hg=>⟨h.1.on hg,(h).2.1.on hg,(h).2.2.on hg⟩
     have hst:Hid (∀y z u kk,(Sn.Read w y P W R G (kk) F B5∧Lie y gC 5 384 (Byts (Sn.rc F))∧Lie y gE 72 352 (En.flat (Sn.fill (Sn.rE F) n)))→z=y.setCell ⟨R,0,none⟩ u→∀k2,Sn.Rd z R G k2→(Sn.Read w z P W R G (k2) F B5∧Lie z gC 5 384 (Byts (Sn.rc F))∧Lie z gE 72 352 (En.flat (Sn.fill (Sn.rE F) n)))):=fun y z u kk h hz k2 hr=>by
      obtain ⟨p,C,hc,-⟩:=h.1.rd.cell
      refine ⟨h.1.step hz hr,?_,?_⟩
      ·rw [hz];exact (h).2.1.other ((h).2.1.type_ne hc (by decide)).symm _ _
      ·rw [hz];exact (h).2.2.other ((h).2.2.type_ne hc (by decide)).symm _ _
     have cn:Hid (∀z,wr.grownBy z none→Calls Tryz.prog 83 #[.pointer (some ⟨R,0,none⟩),.int .i64 ((11:Nat):Int)] z (Sn.Goes z R G (406+n*11) 11)):=fun z hz=>snNext_any R G (406+n*11) 11 z ((uh hX).1.rd.on hz) (by omega) (by have:=uh HL;omega)
     have ce:=hide (fun z C (hz:Sn.Src z G F)=>entOf_any G (406+n*11) C F z hz (by have:=uh HL;omega))
     have hput:Hid (∀z,(Sn.Read w z P W R G (406+n*11+11) F B5∧Lie z gC 5 384 (Byts (Sn.rc F))∧Lie z gE 72 352 (En.flat (Sn.fill (Sn.rE F) n)))→(Sn.Read w (z.setCells gE (n*11) (#[.int .i64 (F (406+n*11)),.int .i64 (F (406+n*11+1)),.int .i64 (F (406+n*11+2)),.int .i64 (F (406+n*11+3)),.int .i64 (F (406+n*11+4)),.int .i64 (F (406+n*11+5)),.int .i64 (F (406+n*11+6)),.int .i64 (F (406+n*11+7)),.int .i64 (F (406+n*11+8)),.int .i64 (F (406+n*11+9)),.int .i64 (F (406+n*11+10))]:Array Value).toList) P W R G (406+(n+1)*11) F B5∧Lie (z.setCells gE (n*11) (#[.int .i64 (F (406+n*11)),.int .i64 (F (406+n*11+1)),.int .i64 (F (406+n*11+2)),.int .i64 (F (406+n*11+3)),.int .i64 (F (406+n*11+4)),.int .i64 (F (406+n*11+5)),.int .i64 (F (406+n*11+6)),.int .i64 (F (406+n*11+7)),.int .i64 (F (406+n*11+8)),.int .i64 (F (406+n*11+9)),.int .i64 (F (406+n*11+10))]:Array Value).toList) gC 5 384 (Byts (Sn.rc F))∧Lie (z.setCells gE (n*11) (#[.int .i64 (F (406+n*11)),.int .i64 (F (406+n*11+1)),.int .i64 (F (406+n*11+2)),.int .i64 (F (406+n*11+3)),.int .i64 (F (406+n*11+4)),.int .i64 (F (406+n*11+5)),.int .i64 (F (406+n*11+6)),.int .i64 (F (406+n*11+7)),.int .i64 (F (406+n*11+8)),.int .i64 (F (406+n*11+9)),.int .i64 (F (406+n*11+10))]:Array Value).toList) gE 72 352 (En.flat (Sn.fill (Sn.rE F) (n+1))))):=fun z h=>by
      rw [show 406+(n+1)*11=406+n*11+11 by omega,←Sn.fill_more (Sn.rE F) n]
      refine ⟨h.1.rows (h).2.2 (by decide) (by decide) (uh LgE) _ _,(h).2.1.others ((h).2.2.type_ne (h).2.1 (by decide)) _ _,?_⟩
      exact (((h).2.2.own (n:=32) (by omega) (by omega)).store n (Sn.rE F n)).lie (by omega)
     have hrow:Hid (∀z,(Sn.Read w z P W R G (406+n*11+11) F B5∧Lie z gC 5 384 (Byts (Sn.rc F))∧Lie z gE 72 352 (En.flat (Sn.fill (Sn.rE F) n)))→z.cell? ⟨gE,n*11,none⟩=some (.int .i64 (Sn.fill (Sn.rE F) n n 0))∧z.cell? ⟨gE,n*11+1,none⟩=some (.int .i64 (Sn.fill (Sn.rE F) n n 1))∧z.cell? ⟨gE,n*11+2,none⟩=some (.int .i64 (Sn.fill (Sn.rE F) n n 2))∧z.cell? ⟨gE,n*11+3,none⟩=some (.int .i64 (Sn.fill (Sn.rE F) n n 3))∧z.cell? ⟨gE,n*11+4,none⟩=some (.int .i64 (Sn.fill (Sn.rE F) n n 4))∧z.cell? ⟨gE,n*11+5,none⟩=some (.int .i64 (Sn.fill (Sn.rE F) n n 5))∧z.cell? ⟨gE,n*11+6,none⟩=some (.int .i64 (Sn.fill (Sn.rE F) n n 6))∧z.cell? ⟨gE,n*11+7,none⟩=some (.int .i64 (Sn.fill (Sn.rE F) n n 7))∧z.cell? ⟨gE,n*11+8,none⟩=some (.int .i64 (Sn.fill (Sn.rE F) n n 8))∧z.cell? ⟨gE,n*11+9,none⟩=some (.int .i64 (Sn.fill (Sn.rE F) n n 9))∧z.cell? ⟨gE,n*11+10,none⟩=some (.int .i64 (Sn.fill (Sn.rE F) n n 10))):=fun z h=>((h).2.2.own (n:=32) (by omega) (by omega)).ents.row (uh HL)
     clear hlt hn
     go_upto_region 17 with fail
     refine wp_region_till (h:=6) (S:=fun x=>x.cell? ⟨W,5,none⟩=some (.slice (some ⟨gE,0,none⟩) 32 32)) (by kernel_rfl) ?_
     have hS0:=uh hb5 _ ((uh hX).1.box.on (uh hd))
     refine wtk (i:=0) (v:=?_) [6] rfl (by kernel_rfl) (by kernel_rfl) (by kernel_rfl) (by kernel_rfl) (fun _ _ _ h=>h) hS0 (Or.inl ⟨by rfl,?_⟩) ?_
     rotate_left
     ·intro x hSx
      try dsimp only at hSx
      go_simp
      try with_reducible rfl
     simp only [Act.put]
     refine wtk (i:=1) (v:=?_) [6] rfl (by kernel_rfl) (by kernel_rfl) (by kernel_rfl) (by kernel_rfl) (fun _ _ _ h=>h) hS0 (Or.inl ⟨by rfl,?_⟩) ?_
     rotate_left
     ·intro x hSx
      try dsimp only at hSx
      go_simp
      try with_reducible rfl
     simp only [Act.put]
     refine wtk (i:=2) (v:=?_) [6] rfl (by kernel_rfl) (by kernel_rfl) (by kernel_rfl) (by kernel_rfl) (fun _ _ _ h=>h) hS0 (Or.inl ⟨by rfl,?_⟩) ?_
     rotate_left
     ·intro x hSx
      try dsimp only at hSx
      go_simp
      try with_reducible rfl
     simp only [Act.put]
     refine wto (j:=3) (by kernel_rfl) rfl (fun K hK=>?_)
     go_simp
     refine (uh cn _ (uh hd)).mono ?_
     rintro e0 y ⟨u,C,rfl,hC,hy,hRd⟩
     have hY:=hide (uh hst _ _ u _ (uh hon _ _ _ (uh hX) (uh hd)) hy _ hRd)
     have hS3:=uh hb5 _ (uh hY).1.box
     clear hC hy hRd
     try go_simp
     refine hK.out _ _ (fun _=>hS3) ?_
     clear hK K
     refine wto (j:=4) (by kernel_rfl) rfl (fun K hK=>?_)
     go_simp
     refine (uh ce _ _ (uh hY).1.src).mono ?_
     rintro e0 y2 ⟨rfl,hg4⟩
     have hY2:=hide (uh hon _ _ _ (uh hY) hg4)
     have hS4:=uh hb5 _ (uh hY2).1.box
     obtain ⟨r0,r1,r2,r3,r4,r5,r6,r7,r8,r9,r10⟩:=uh hrow _ (uh hY2)
     have fE:=(uh hY2).2.2.free
     have hX2:=hide (uh hput _ (uh hY2))
     clear hg4 hY
     try go_simp
     refine hK.out _ _ (fun _=>hS4) ?_
     clear hK K
     refine wtk (i:=5) (v:=?_) [6] rfl (by kernel_rfl) (by kernel_rfl) (by kernel_rfl) (by kernel_rfl) (fun _ _ _ h=>h) hS4 (Or.inl ⟨by rfl,?_⟩) ?_
     rotate_left
     ·intro x hSx
      try dsimp only at hSx
      go_simp
      try with_reducible rfl
     simp only [Act.put]
     refine wto (j:=6) (by kernel_rfl) rfl (fun K hK=>?_)
     go_simp
     refine hK.out _ _ (fun hx=>absurd (hx.symm.trans (by kernel_rfl)) Bool.false_ne_true) ?_
     clear hK K
     refine wpTill_done (by kernel_rfl) ?_ _
     clear cn ce hst hon hrow hput hS4 hS3 r0 r1 r2 r3 r4 r5 r6 r7 r8 r9 r10 fE hX hd hY2
     go_wp2
     go_roundw
     case rel=>exact ⟨n+1,by have:=uh HL;omega,by go_num,hX2⟩
     case measure=>simp [intOf];have:=uh HL;omega
    ·obtain rfl:n=32:=by omega
     have hge:¬((32:Nat):Int)<32:=by omega
     clear hlt hn
     have hZ:=hX
     clear hX
     go_upto_region 19 with fail
     obtain ⟨Z6,hm6,hZ6⟩:=make40
     obtain ⟨gI,hgI⟩:∃b,wr.heap.size=b:=⟨_,rfl⟩
     obtain ⟨wm,hwm⟩:∃wm,wm=wr.alloc (.cells Z6 74):=⟨_,rfl⟩
     have hga:wr.grownBy wm none:=by rw [hwm];exact World.grownBy_alloc _ _ _
     have hl6:Lie wm gI 74 160 (Gd.flat fun _ _=>0):=by
      rw [←hgI,hwm]
      exact hZ6 wr
     have hmx:=hm6 wr
     rw [←hwm,hgI] at hmx
     have hb:=hide ((uh hZ).1.on hga)
     have fW:=(uh hb).box.free
     have zW:=(uh hb).box.cell (c:=6) (by omega)
     obtain ⟨B6,hB6⟩:∃B,B=Sn.put (B5) 6 (.slice (some ⟨gI,0,none⟩) 40 40):=⟨_,rfl⟩
     have LgI:Hid (w.heap.size≤gI):=(show w.heap.size≤gI by have:=(uh hZ).1.grown.size;omega)
     have hQ:Hid (Sn.Read w (wm.setCell ⟨W,6,none⟩ (.slice (some ⟨gI,0,none⟩) 40 40)) P W R G (758) F B6∧Lie (wm.setCell ⟨W,6,none⟩ (.slice (some ⟨gI,0,none⟩) 40 40)) gC 5 384 (Byts (Sn.rc F))∧Lie (wm.setCell ⟨W,6,none⟩ (.slice (some ⟨gI,0,none⟩) 40 40)) gE 72 352 (En.flat (Sn.fill (Sn.rE F) 32))∧Lie (wm.setCell ⟨W,6,none⟩ (.slice (some ⟨gI,0,none⟩) 40 40)) gI 74 160 (Gd.flat (Sn.fill (Sn.rI F) 0))):=by
      have hz:=uh hZ
      exact ⟨by rw [hB6];exact (uh hb).field 6 _,(hz.2.1.on hga).other ((hz.2.1.on hga).type_ne (uh hb).box (by decide)).symm _ _,(hz.2.2.on hga).other ((hz.2.2.on hga).type_ne (uh hb).box (by decide)).symm _ _,by rw [Sn.fill_none];exact hl6.other (hl6.type_ne (uh hb).box (by decide)).symm _ _⟩
     have HB6:=hide hB6
     clear hga hl6 hZ6 hB6 hm6 hb hgI hwm
     go_upto_region 20 with fail
     generalize (wm.setCell ⟨W,6,none⟩ (.slice (some ⟨gI,0,none⟩) 40 40))=wrn at hQ ⊢
     clear hmx hZ fW zW
     have hb5:Hid (∀z,Lie z W 31 11 B6→z.cell? ⟨W,6,none⟩=some (.slice (some ⟨gI,0,none⟩) 40 40)):=fun z hz=>by
      rw [hz.cell (c:=6) (by omega),uh HB6]
      rfl
     have zB:=uh hb5 _ (uh hQ).1.box
     go_wp2_with fail
     go_loopw [7,54] (fun vo vl wr=>∃n:Nat,n≤40∧vl=.int .i64 (n:Int)∧Hid (Sn.Read w wr P W R G (758+n*4) F B6∧Lie wr gC 5 384 (Byts (Sn.rc F))∧Lie wr gE 72 352 (En.flat (Sn.fill (Sn.rE F) 32))∧Lie wr gI 74 160 (Gd.flat (Sn.fill (Sn.rI F) n)))) (fun _ vl _=>60 - (intOf vl).toNat)
     case atStart=>exact ⟨0,by omega,rfl,hQ⟩
     case round =>
      clear hQ zB
      obtain ⟨n,hn,rfl,hX⟩:=hrel
      by_cases hlt:n<40
      ·have hlt':(n:Int)<40:=by omega
       have HL:=hide hlt
       have hd:=hide (gd1 (World.grownBy.refl wr none))
       have hon:Hid (∀y z kk,(Sn.Read w y P W R G (kk) F B6∧Lie y gC 5 384 (Byts (Sn.rc F))∧Lie y gE 72 352 (En.flat (Sn.fill (Sn.rE F) 32))∧Lie y gI 74 160 (Gd.flat (Sn.fill (Sn.rI F) n)))→y.grownBy z none→(Sn.Read w z P W R G (kk) F B6∧Lie z gC 5 384 (Byts (Sn.rc F))∧Lie z gE 72 352 (En.flat (Sn.fill (Sn.rE F) 32))∧Lie z gI 74 160 (Gd.flat (Sn.fill (Sn.rI F) n)))):=fun y z kk h hg=>⟨h.1.on hg,(h).2.1.on hg,(h).2.2.1.on hg,(h).2.2.2.on hg⟩
       have hst:Hid (∀y z u kk,(Sn.Read w y P W R G (kk) F B6∧Lie y gC 5 384 (Byts (Sn.rc F))∧Lie y gE 72 352 (En.flat (Sn.fill (Sn.rE F) 32))∧Lie y gI 74 160 (Gd.flat (Sn.fill (Sn.rI F) n)))→z=y.setCell ⟨R,0,none⟩ u→∀k2,Sn.Rd z R G k2→(Sn.Read w z P W R G (k2) F B6∧Lie z gC 5 384 (Byts (Sn.rc F))∧Lie z gE 72 352 (En.flat (Sn.fill (Sn.rE F) 32))∧Lie z gI 74 160 (Gd.flat (Sn.fill (Sn.rI F) n)))):=fun y z u kk h hz k2 hr=>by
        obtain ⟨p,C,hc,-⟩:=h.1.rd.cell
        refine ⟨h.1.step hz hr,?_,?_,?_⟩
        ·rw [hz];exact (h).2.1.other ((h).2.1.type_ne hc (by decide)).symm _ _
        ·rw [hz];exact (h).2.2.1.other ((h).2.2.1.type_ne hc (by decide)).symm _ _
        ·rw [hz];exact (h).2.2.2.other ((h).2.2.2.type_ne hc (by decide)).symm _ _
       have cn:Hid (∀z,wr.grownBy z none→Calls Tryz.prog 83 #[.pointer (some ⟨R,0,none⟩),.int .i64 ((4:Nat):Int)] z (Sn.Goes z R G (758+n*4) 4)):=fun z hz=>snNext_any R G (758+n*4) 4 z ((uh hX).1.rd.on hz) (by omega) (by have:=uh HL;omega)
       have ce:=hide (fun z C (hz:Sn.Src z G F)=>itemOf_any G (758+n*4) C F z hz (by have:=uh HL;omega))
       have hput:Hid (∀z,(Sn.Read w z P W R G (758+n*4+4) F B6∧Lie z gC 5 384 (Byts (Sn.rc F))∧Lie z gE 72 352 (En.flat (Sn.fill (Sn.rE F) 32))∧Lie z gI 74 160 (Gd.flat (Sn.fill (Sn.rI F) n)))→(Sn.Read w (z.setCells gI (n*4) (#[.int .i64 (F (758+n*4)),.int .i64 (F (758+n*4+1)),.int .i64 (F (758+n*4+2)),.int .i64 (F (758+n*4+3))]:Array Value).toList) P W R G (758+(n+1)*4) F B6∧Lie (z.setCells gI (n*4) (#[.int .i64 (F (758+n*4)),.int .i64 (F (758+n*4+1)),.int .i64 (F (758+n*4+2)),.int .i64 (F (758+n*4+3))]:Array Value).toList) gC 5 384 (Byts (Sn.rc F))∧Lie (z.setCells gI (n*4) (#[.int .i64 (F (758+n*4)),.int .i64 (F (758+n*4+1)),.int .i64 (F (758+n*4+2)),.int .i64 (F (758+n*4+3))]:Array Value).toList) gE 72 352 (En.flat (Sn.fill (Sn.rE F) 32))∧Lie (z.setCells gI (n*4) (#[.int .i64 (F (758+n*4)),.int .i64 (F (758+n*4+1)),.int .i64 (F (758+n*4+2)),.int .i64 (F (758+n*4+3))]:Array Value).toList) gI 74 160 (Gd.flat (Sn.fill (Sn.rI F) (n+1))))):=fun z h=>by
        rw [show 758+(n+1)*4=758+n*4+4 by omega,←Sn.fill_more (Sn.rI F) n]
        refine ⟨h.1.rows (h).2.2.2 (by decide) (by decide) (uh LgI) _ _,(h).2.1.others ((h).2.2.2.type_ne (h).2.1 (by decide)) _ _,(h).2.2.1.others ((h).2.2.2.type_ne (h).2.2.1 (by decide)) _ _,?_⟩
        exact (h).2.2.2.item n (Sn.rI F n)
       have hrow:Hid (∀z,(Sn.Read w z P W R G (758+n*4+4) F B6∧Lie z gC 5 384 (Byts (Sn.rc F))∧Lie z gE 72 352 (En.flat (Sn.fill (Sn.rE F) 32))∧Lie z gI 74 160 (Gd.flat (Sn.fill (Sn.rI F) n)))→z.cell? ⟨gI,n*4,none⟩=some (.int .i64 (Sn.fill (Sn.rI F) n n 0))∧z.cell? ⟨gI,n*4+1,none⟩=some (.int .i64 (Sn.fill (Sn.rI F) n n 1))∧z.cell? ⟨gI,n*4+2,none⟩=some (.int .i64 (Sn.fill (Sn.rI F) n n 2))∧z.cell? ⟨gI,n*4+3,none⟩=some (.int .i64 (Sn.fill (Sn.rI F) n n 3))):=fun z h=>((h).2.2.2.its (n:=40) (by omega) (by omega)).row (uh HL)
       clear hlt hn
       go_upto_region 23 with fail
       refine wp_region_till (h:=6) (S:=fun x=>x.cell? ⟨W,6,none⟩=some (.slice (some ⟨gI,0,none⟩) 40 40)) (by kernel_rfl) ?_
       have hS0:=uh hb5 _ ((uh hX).1.box.on (uh hd))
       refine wtk (i:=0) (v:=?_) [6] rfl (by kernel_rfl) (by kernel_rfl) (by kernel_rfl) (by kernel_rfl) (fun _ _ _ h=>h) hS0 (Or.inl ⟨by rfl,?_⟩) ?_
       rotate_left
       ·intro x hSx
        try dsimp only at hSx
        go_simp
        try with_reducible rfl
       simp only [Act.put]
       refine wtk (i:=1) (v:=?_) [6] rfl (by kernel_rfl) (by kernel_rfl) (by kernel_rfl) (by kernel_rfl) (fun _ _ _ h=>h) hS0 (Or.inl ⟨by rfl,?_⟩) ?_
       rotate_left
       ·intro x hSx
        try dsimp only at hSx
        go_simp
        try with_reducible rfl
       simp only [Act.put]
       refine wtk (i:=2) (v:=?_) [6] rfl (by kernel_rfl) (by kernel_rfl) (by kernel_rfl) (by kernel_rfl) (fun _ _ _ h=>h) hS0 (Or.inl ⟨by rfl,?_⟩) ?_
       rotate_left
       ·intro x hSx
        try dsimp only at hSx
        go_simp
        try with_reducible rfl
       simp only [Act.put]
       refine wto (j:=3) (by kernel_rfl) rfl (fun K hK=>?_)
       go_simp
       refine (uh cn _ (uh hd)).mono ?_
       rintro e0 y ⟨u,C,rfl,hC,hy,hRd⟩
       have hY:=hide (uh hst _ _ u _ (uh hon _ _ _ (uh hX) (uh hd)) hy _ hRd)
       have hS3:=uh hb5 _ (uh hY).1.box
       clear hC hy hRd
       try go_simp
       refine hK.out _ _ (fun _=>hS3) ?_
       clear hK K
       refine wto (j:=4) (by kernel_rfl) rfl (fun K hK=>?_)
       go_simp
       refine (uh ce _ _ (uh hY).1.src).mono ?_
       rintro e0 y2 ⟨rfl,hg4⟩
       have hY2:=hide (uh hon _ _ _ (uh hY) hg4)
       have hS4:=uh hb5 _ (uh hY2).1.box
       obtain ⟨r0,r1,r2,r3⟩:=uh hrow _ (uh hY2)
       have fE:=(uh hY2).2.2.2.free
       have hX2:=hide (uh hput _ (uh hY2))
       clear hg4 hY
       try go_simp
       refine hK.out _ _ (fun _=>hS4) ?_
       clear hK K
       refine wtk (i:=5) (v:=?_) [6] rfl (by kernel_rfl) (by kernel_rfl) (by kernel_rfl) (by kernel_rfl) (fun _ _ _ h=>h) hS4 (Or.inl ⟨by rfl,?_⟩) ?_
       rotate_left
       ·intro x hSx
        try dsimp only at hSx
        go_simp
        try with_reducible rfl
       simp only [Act.put]
       refine wto (j:=6) (by kernel_rfl) rfl (fun K hK=>?_)
       go_simp
       refine hK.out _ _ (fun hx=>absurd (hx.symm.trans (by kernel_rfl)) Bool.false_ne_true) ?_
       clear hK K
       refine wpTill_done (by kernel_rfl) ?_ _
       clear cn ce hst hon hrow hput hS4 hS3 r0 r1 r2 r3 fE hX hd hY2
       go_wp2
       go_roundw
       case rel=>exact ⟨n+1,by have:=uh HL;omega,by go_num,hX2⟩
       case measure=>simp [intOf];have:=uh HL;omega
      ·obtain rfl:n=40:=by omega
       have hge:¬((40:Nat):Int)<40:=by omega
       clear hlt hn
       have hbox:Lie wr W 31 11 (Gd.box (Sn.rs F) gC gE gI 384 32 40 (Sn.rg F)):=by
        refine (uh hX).1.box.congr fun c hc=>?_
        rw [uh HB6,uh HB5,uh HH,←uh HZ]
        have q8:=Sn.be_bound 8 F 0 (fun j _=>(uh hX).1.src.byte _)
        have q4:=Sn.be_bound 4 F 8 (fun j _=>(uh hX).1.src.byte _)
        have f12:=(uh hX).1.src.byte 12
        have f13:=(uh hX).1.src.byte 13
        have e0:V0=Sn.rs F 0:=by
         rw [←uh hv0,IntKind.wrap_i64]
         show _=if Sn.be (Sn.cut F 0 8)<9223372036854775808 then _ else _
         split <;> omega
        have e1:V1=Sn.rs F 1:=by
         rw [←uh hv1,IntKind.wrap_i64]
         show _=Sn.be (Sn.cut F 8 4)
         omega
        have e2:V2=Sn.rs F 2:=by
         rw [←uh hv2,IntKind.wrap_i64]
         show _=F 12
         have:Sn.be (Sn.cut F 12 1)=F 12:=by simp [Sn.be,Sn.cut]
         omega
        have e3:V3=Sn.rs F 3:=by
         rw [←uh hv3,IntKind.wrap_i64]
         show _=F 13
         have:Sn.be (Sn.cut F 13 1)=F 13:=by simp [Sn.be,Sn.cut]
         omega
        rw [e0,e1,e2,e3]
        rcases (show c=0∨c=1∨c=2∨c=3∨c=4∨c=5∨c=6∨c=7∨c=8∨c=9∨c=10 by omega) with rfl | rfl | rfl | rfl | rfl | rfl | rfl | rfl | rfl | rfl | rfl <;> rfl
       have hfo:Hid (∀vs,Gd.Worlds w (Sn.rs F) (Sn.rg F) (Sn.rc F) (Sn.rE F) (Sn.rI F) (.returned (.agg (Gd.world (Sn.rs F) gC gE gI 384 32 40 (Sn.rg F)))) (wr.setCells P 0 vs)):=fun vs=>by
        have h:=uh hX
        have hE:Lie wr gE 72 352 (En.flat (Sn.rE F)):=h.2.2.1.congr fun c hc=>by
         show Value.int .i64 (Sn.fill (Sn.rE F) 32 (c / 11) (c % 11))=.int .i64 (Sn.rE F (c / 11) (c % 11))
         unfold Sn.fill
         rw [if_pos (by omega)]
        have hI:Lie wr gI 74 160 (Gd.flat (Sn.rI F)):=h.2.2.2.congr fun c hc=>by
         show Value.int .i64 (Sn.fill (Sn.rI F) 40 (c / 4) (c % 4))=.int .i64 (Sn.rI F (c / 4) (c % 4))
         unfold Sn.fill
         rw [if_pos (by omega)]
        exact ⟨gC,gE,gI,384,32,40,rfl,by omega,uh LC,uh LgE,uh LgI,h.2.1.type_ne hE (by decide),h.2.1.type_ne hI (by decide),hE.type_ne hI (by decide),⟨h.2.1.others (h.1.res.type_ne h.2.1 (by decide)) _ _,hE.others (h.1.res.type_ne hE (by decide)) _ _,hI.others (h.1.res.type_ne hI (by decide)) _ _⟩,own_sets h.1.lP vs 0 wr h.1.grown⟩
       obtain ⟨b0,b1,b2,b3,b4,b5,b6,b7,b8,b9,b10⟩:=hbox.eleven
       have fz:=(uh hX).1.res.free
       obtain ⟨z0,z1,z2,z3,z4,z5,z6,z7,z8,z9,z10⟩:=Gd.res_cells (uh hX).1.res
       generalize Sn.rs F=sF at *
       generalize Sn.rg F=gF at *
       clear hbox hX hb5 hge HB5 HB6 HH HZ hv0 hv1 hv2 hv3
       go_wp2
       refine bodyPost_ret (v:=.agg (Gd.world sF gC gE gI 384 32 40 gF)) (by simp [results,Tryz.results50,go_sem,Gd.world,z0,z1,z2,z3,z4,z5,z6,z7,z8,z9,z10]) rfl ?_
       exact uh hfo [_,_,_,_,_,_,_,_,_,_,_]


open Go.RowKit

def Sn.void:Array Value:=#[.int .i64 0,.int .i64 0,.int .i64 0,.int .i64 0,.slice none 0 0,.slice none 0 0,.slice none 0 0,.int .i64 0,.int .i64 0,.int .i64 0,Value.int .i64 0]

theorem Sn.worlds_congr {w w':World} {e:Ending} {s s' g g' c c':Nat→Int} {E E' I I':Nat→Nat→Int} (h:Gd.Worlds w s g c E I e w') (hs:∀k,k<4→s k=s' k) (hg:∀k,k<4→g k=g' k) (hc:∀k,k<384→c k=c' k) (hE:∀i j,i<32→j<11→E i j=E' i j) (hI:∀i j,i<40→j<4→I i j=I' i j):Gd.Worlds w s' g' c' E' I' e w':=by
 obtain ⟨gC,gE,gI,cC,cE,cI,rfl,h1,h2,h3,h4,h5,h6,h7,hL,hg2⟩:=h
 refine ⟨gC,gE,gI,cC,cE,cI,?_,h1,h2,h3,h4,h5,h6,h7,⟨hL.cells.congr fun k hk=>?_,hL.ents.congr fun k hk=>?_,hL.items.congr fun k hk=>?_⟩,hg2⟩
 ·unfold Gd.world
  rw [hs 0 (by omega),hs 1 (by omega),hs 2 (by omega),hs 3 (by omega),hg 0 (by omega),hg 1 (by omega),hg 2 (by omega),hg 3 (by omega)]
 ·show Value.int .u8 (c k)=.int .u8 (c' k)
  rw [hc k hk]
 ·show Value.int .i64 (E (k / 11) (k % 11))=.int .i64 (E' (k / 11) (k % 11))
  rw [hE _ _ (by omega) (by omega)]
 ·show Value.int .i64 (I (k / 4) (k % 4))=.int .i64 (I' (k / 4) (k % 4))
  rw [hI _ _ (by omega) (by omega)]

def Sn.Decodes (w:World) (s g c:Nat→Int) (E I:Nat→Nat→Int) (e:Ending) (w':World):Prop :=
 ∃r,Sn.Chk s g c E I r∧((r≠0∧e=.returned (.tuple #[.agg Sn.void,.int .i64 r])∧w.grownBy w' none) ∨
  (r=0∧∃v,e=.returned (.tuple #[v,.int .i64 0])∧Gd.Worlds w s g c E I (.returned v) w'))

set_option maxRecDepth 8000 in
set_option maxHeartbeats 6400000 in
theorem decode_any (G cap:Nat) (F sF gF cF:Nat→Int) (eF iF:Nat→Nat→Int) (w:World) (hS:Sn.Src w G F) (hc:918≤cap) (hm:cap≤9223372036854775807) (qs:∀k,k<4→Sn.rs F k=sF k) (qg:∀k,k<4→Sn.rg F k=gF k) (qc:∀k,k<384→Sn.rc F k=cF k) (qE:∀i j,i<32→j<11→Sn.rE F i j=eF i j) (qI:∀i j,i<40→j<4→Sn.rI F i j=iF i j) (hby':∀i,0≤cF i∧cF i≤255) :
  Calls Tryz.prog 19 #[.slice (some ⟨G,0,none⟩) 918 cap] w (Sn.Decodes w sF gF cF eF iF):=by
 obtain ⟨w0,hw0⟩:∃w0,w0=w.alloc (.cells #[.int .i64 0,.int .i64 0,.int .i64 0,.int .i64 0,.slice none 0 0,.slice none 0 0,.slice none 0 0,.int .i64 0,.int .i64 0,.int .i64 0,.int .i64 0] 31):=⟨_,rfl⟩
 have hg0:w.grownBy w0 none:=by rw [hw0];exact World.grownBy_alloc _ _ _
 obtain ⟨P,hP⟩:∃P,w.heap.size=P:=⟨_,rfl⟩
 have hR:Lie w0 P 31 11 (fun j=>#[.int .i64 0,.int .i64 0,.int .i64 0,.int .i64 0,.slice none 0 0,.slice none 0 0,.slice none 0 0,.int .i64 0,.int .i64 0,.int .i64 0,Value.int .i64 0][j]?.getD undef):=by
  rw [hw0,←hP]
  exact (Arr.lit (heap_alloc_new w _)).lie
 have hby:=hide hby'
 have cr:=hide ((snReads_any G cap F w0 (hS.on hg0 (by simp)) hc hm).mono fun e x h=>Sn.worlds_congr h qs qg qc qE qI)
 obtain ⟨D,hD⟩:∃D,Sn.Decodes w sF gF cF eF iF=D:=⟨_,rfl⟩
 have hD1:Hid (∀r x,Sn.Chk sF gF cF eF iF r→r≠0→w.grownBy x none→D (.returned (.tuple #[.agg Sn.void,.int .i64 r])) x):=fun r x h1 h2 h3=>by
  rw [←hD]
  exact ⟨r,h1,.inl ⟨h2,rfl,h3⟩⟩
 have hD0:Hid (∀v x,Sn.Chk sF gF cF eF iF 0→Gd.Worlds w sF gF cF eF iF (.returned v) x→D (.returned (.tuple #[v,.int .i64 0])) x):=fun v x h1 h2=>by
  rw [←hD]
  exact ⟨0,h1,.inr ⟨rfl,v,rfl,h2⟩⟩
 rw [hD]
 have HP:=hide hP
 have HR:=hide hR
 have HG:=hide hg0
 clear hg0 hR hP hS hc hm hD qs qg qc qE qI hby'
 go_enter Tryz.func19,Tryz.ntmps19
 go_upto_region 1 with fail
 rw [←hw0,uh HP]
 clear hw0
 go_wp2_with fail
 refine (uh cr).mono ?_
 rintro e w1 ⟨gC,gE,gI,cC,cE,cI,rfl,hcE,l1,l2,l3,n1,n2,n3,hL,hg1⟩
 have hW0:Hid (Gd.Worlds w0 sF gF cF eF iF (.returned (.agg (Gd.world sF gC gE gI cC cE cI gF))) w1):=⟨gC,gE,gI,cC,cE,cI,rfl,hcE,l1,l2,l3,n1,n2,n3,hL,hg1⟩
 obtain ⟨w2,hw2⟩:∃w2,w2=w1.alloc (.cells (Gd.world sF gC gE gI cC cE cI gF) 31):=⟨_,rfl⟩
 have hg2:w1.grownBy w2 none:=by rw [hw2];exact World.grownBy_alloc _ _ _
 have hB:Hid (Lie w2 w1.heap.size 31 11 (Gd.box sF gC gE gI cC cE cI gF)):=by show Lie w2 _ _ _ _;rw [hw2];exact (Arr.world (heap_alloc_new w1 _)).lie
 have HR2:=hide ((uh HR).on (gtr hg1 hg2))
 have HG2:=hide (gtr (uh HG) (gtr hg1 hg2))
 have HL2:=hide (hL.on hg2)
 have cc:=hide (snCheck_any sF gF cF eF iF gC gE gI cC cE cI w2 (uh HL2) (uh hby) hcE)
 have HX:Hid (32≤cE∧w0.heap.size≤gC∧w0.heap.size≤gE∧w0.heap.size≤gI∧gC≠gE∧gC≠gI∧gE≠gI):=⟨hcE,l1,l2,l3,n1,n2,n3⟩
 clear hcE l1 l2 l3 n1 n2 n3 hL hg1 hg2 cr HR hW0
 unfold Gd.world at hw2 cc ⊢
 go_upto_region 6 with fail
 rw [←hw2]
 clear hw2
 obtain ⟨B,hBe⟩:∃B,w1.heap.size=B:=⟨_,rfl⟩
 rw [hBe] at hB ⊢
 clear hBe w1
 obtain ⟨b0,b1,b2,b3,b4,b5,b6,b7,b8,b9,b10⟩:=(uh hB).eleven
 go_wp2_with fail
 refine (uh cc).mono ?_
 rintro e w3 ⟨r,rfl,hr,hg3⟩
 have HR3:=hide ((uh HR2).on hg3)
 have HG3:=hide (gtr (uh HG2) hg3)
 have HL3:=hide ((uh HL2).on hg3)
 have hB3:=hide ((uh hB).on hg3)
 have hr':=hide hr
 clear hg3 hr cc HR2 HG2 HL2 hB b0 b1 b2 b3 b4 b5 b6 b7 b8 b9 b10
 have fz:=(uh HR3).free
 obtain ⟨z0,z1,z2,z3,z4,z5,z6,z7,z8,z9,z10⟩:=Gd.res_cells (uh HR3)
 by_cases h0:r=0
 ·subst h0
  have hPl:Hid (w.heap.size≤P):=(show w.heap.size≤P by have:=uh HP;omega)
  have hfo:Hid (∀vs,D (.returned (.tuple #[.agg (Gd.world sF gC gE gI cC cE cI gF),.int .i64 0])) (w3.setCells P 0 vs)):=fun vs=>by
   obtain ⟨x1,x2,x3,x4,x5,x6,x7⟩:=uh HX
   have hs:=(uh HG).size
   have h:=uh HL3
   have hr:=uh HR3
   refine uh hD0 _ _ (uh hr') ⟨gC,gE,gI,cC,cE,cI,rfl,x1,by omega,by omega,by omega,x5,x6,x7,⟨h.cells.others (hr.type_ne h.cells (by decide)) _ _,h.ents.others (hr.type_ne h.ents (by decide)) _ _,h.items.others (hr.type_ne h.items (by decide)) _ _⟩,own_sets (uh hPl) vs 0 w3 (uh HG3)⟩
  obtain ⟨b0,b1,b2,b3,b4,b5,b6,b7,b8,b9,b10⟩:=(uh hB3).eleven
  clear HX HL3 HR3 HG3 hB3 hD0 hD1 hr' hby
  go_wp2
  refine bodyPost_ret (v:=.tuple #[.agg (Gd.world sF gC gE gI cC cE cI gF),.int .i64 0]) (by simp [results,Tryz.results19,go_sem,Gd.world,z0,z1,z2,z3,z4,z5,z6,z7,z8,z9,z10]) rfl ?_
  exact uh hfo [_,_,_,_,_,_,_,_,_,_,_]
 ·have h0':(r != 0)=true:=by simp [h0]
  have hPl:Hid (w.heap.size≤P):=(show w.heap.size≤P by have:=uh HP;omega)
  have hfo:Hid (∀vs,D (.returned (.tuple #[.agg Sn.void,.int .i64 r])) (w3.setCells P 0 vs)):=fun vs=>uh hD1 r _ (uh hr') h0 (own_sets (uh hPl) vs 0 w3 (uh HG3))
  clear HX HL3 HR3 HG3 hB3 hD0 hD1 hr' h0 hby
  go_wp2
  refine bodyPost_ret (v:=.tuple #[.agg Sn.void,.int .i64 r]) (by simp [results,Tryz.results19,go_sem,Sn.void,z0,z1,z2,z3,z4,z5,z6,z7,z8,z9,z10]) rfl ?_
  exact uh hfo [_,_,_,_,_,_,_,_,_,_,_]


open Go.RowKit

theorem Sn.placed_small {c r:Nat→Int} (h:Gd.Placed c r):(0≤r 0∧r 0≤255)∧(0≤r 1∧r 1≤255)∧(0≤r 2∧r 2≤255)∧0≤r 3∧r 3≤255:=by
 obtain ⟨h1,h2,h | h | h | h⟩:=h
 ·have:=(Gr.inB_iff _ _).1 h.2.1
  omega
 ·omega
 ·omega
 ·omega

theorem Sn.small {c:Nat→Int} {E I:Nat→Nat→Int} (hS:Cr.Sane c E I):(∀i j,i<32→j<11→0≤E i j∧E i j≤255)∧(∀i j,i<40→j<4→0≤I i j∧I i j≤255):=by
 refine ⟨fun i j hi hj=>?_,fun i j hi hj=>?_⟩
 ·have hr:=hS.fit.rows i hi
  by_cases h0:E i 0=0
  ·by_cases h1:j=1
   ·subst h1
    exact ⟨hr.1,hr.2.1⟩
   ·rcases hr.2.2 with hz | ht
    ·rw [hz j hj h1]
     omega
    ·omega
  ·have ht:=hr.taken h0
   obtain ⟨p1,p2,p3,p4,-⟩:=hS.set.stands.on i hi h0
   have hs:0≤E i 2∧E i 2≤3:=by
    by_cases k1:E i 0=1
    ·have:=hS.seats.seat i hi k1
     omega
    ·have:=hS.seats.none i hi h0 k1
     omega
   have g0:=hr.1
   have g1:=hr.2.1
   rcases (show j=0∨j=1∨j=2∨j=3∨j=4∨j=5∨j=6∨j=7∨j=8∨j=9∨j=10 by omega) with rfl | rfl | rfl | rfl | rfl | rfl | rfl | rfl | rfl | rfl | rfl <;> omega
 ·rcases hS.fit.ok.each i hi with hz | hp
  ·obtain ⟨z0,z1,z2,z3⟩:=hz
   rcases (show j=0∨j=1∨j=2∨j=3 by omega) with rfl | rfl | rfl | rfl <;> omega
  ·obtain ⟨q1,q2,q3,q4⟩:=Sn.placed_small hp
   rcases (show j=0∨j=1∨j=2∨j=3 by omega) with rfl | rfl | rfl | rfl <;> omega

theorem Sn.Bytes.src {w:World} {base:Nat} {v:Value} {l:List Int} (h:Sn.Bytes w base v l) (hl:l.length=918) (hb:∀b∈l,0≤b∧b≤255):∃G cap,v=.slice (some ⟨G,0,none⟩) 918 cap∧918≤cap∧cap≤9223372036854775807∧Sn.Src w G (Sn.fn l):=by
 have h':=h
 unfold Sn.Bytes at h
 rw [hl] at h
 rcases h.2 with ⟨_,h0⟩ | ⟨G,cap,cur,rfl,_,hg,h1,h2,h3,h4⟩
 ·omega
 ·refine ⟨G,cap,rfl,h1,h2,⟨lt_of_block hg,fun i hi=>?_,fun i=>?_⟩⟩
  ·rw [h.cellAt i (by omega),List.getElem?_map,Sn.fn_at (by omega)]
   rfl
  ·unfold Sn.fn
   by_cases hi:i<l.length
   ·rw [List.getElem?_eq_getElem hi]
    exact hb _ (List.getElem_mem hi)
   ·rw [List.getElem?_eq_none (by omega)]
    exact ⟨by decide,by decide⟩


open Go.RowKit

theorem Sn.decode_back (s g c:Nat→Int) (E I:Nat→Nat→Int) (base:Nat) (v:Value) (w:World) (hG:Cr.Good ⟨s,g,c,E,I⟩) (a0:-9223372036854775808≤s 0∧s 0<9223372036854775808) (a1:0≤s 1) (a2:s 1<1073741824) (hB:Sn.Bytes w base v (Sn.bytes s g c E I)) :
  ∃G cap,v=.slice (some ⟨G,0,none⟩) 918 cap∧Calls Tryz.prog 19 #[.slice (some ⟨G,0,none⟩) 918 cap] w fun e w'=>∃u,e=.returned (.tuple #[u,.int .i64 0])∧Gd.Worlds w s g c E I (.returned u) w':=by
 obtain ⟨G,cap,rfl,h1,h2,hS⟩:=hB.src (Sn.bytes_len _ _ _ _ _) (Sn.bytes_byte s g c E I hG.sane.fit.cells)
 refine ⟨G,cap,rfl,?_⟩
 have hsm:=Sn.small hG.sane
 have f1:1≤s 2:=hG.f1
 have f3:s 2≤3:=hG.f3
 have s0:0≤s 3:=hG.s0
 have s2:s 3≤2:=hG.s2
 obtain ⟨q1,q2,q3,q4,q5⟩:=Sn.back (s:=s) (g:=g) (c:=c) (E:=E) (I:=I) a0 (by omega) (by omega) (by omega) (fun t ht=>by have:=hG.gold t ht;show 0≤g t∧g t<65536;have h:0≤g t∧g t≤999:=this;omega) hsm.1 hsm.2
 refine (decode_any G cap _ s g c E I w hS h1 h2 q1 q2 q3 q4 q5 hG.sane.fit.cells).mono ?_
 rintro e w' ⟨r,hr,⟨h0,_⟩ | ⟨_,u,rfl,hu⟩⟩
 ·exact absurd ((Sn.chk_good hG a1 a2).one hr) h0
 ·exact ⟨u,rfl,hu⟩

theorem Cr.IsNew.head {seed:Int} {T:Cr.W} (h:Cr.IsNew seed T):T.s 0=seed∧T.s 1=0:=by
 obtain ⟨c,es,is,_,rfl⟩:=h
 exact ⟨rfl,rfl⟩

set_option maxRecDepth 8000 in
set_option maxHeartbeats 6400000 in
theorem known11_any (w:World):Calls Tryz.prog 7 #[] w (Says w (.bool true)):=by
 have cn:=hide (refNew_any 1 w)
 go_enter Tryz.func7,Tryz.ntmps7
 go_wp2_with fail
 refine (uh cn).mono ?_
 rintro e w1 ⟨⟨s,g,c,E,I⟩,hN,gC,gE,gI,cC,cE,cI,rfl,hcE,l1,l2,l3,n1,n2,n3,hL,hg1⟩
 have hGo:=hide hN.good
 have hHd:=hide hN.head
 obtain ⟨w2,hw2⟩:∃w2,w2=w1.alloc (.cells (Gd.world s gC gE gI cC cE cI g) 31):=⟨_,rfl⟩
 have hg2:w1.grownBy w2 none:=by rw [hw2];exact World.grownBy_alloc _ _ _
 have hB:Hid (Lie w2 w1.heap.size 31 11 (Gd.box s gC gE gI cC cE cI g)):=by show Lie w2 _ _ _ _;rw [hw2];exact (Arr.world (heap_alloc_new w1 _)).lie
 have HG2:=hide (gtr hg1 hg2)
 have HL2:=hide (hL.on hg2)
 have ce:=hide (encode_any s g c E I gC gE gI cC cE cI w2 (uh HL2) (uh hGo).sane.fit.cells hcE)
 clear cn hcE l1 l2 l3 n1 n2 n3 hL hg1 hg2 hN
 unfold Gd.world at hw2 ce ⊢
 dsimp only
 go_upto_region 2 with fail
 rw [←hw2]
 clear hw2
 obtain ⟨B,hBe⟩:∃B,w1.heap.size=B:=⟨_,rfl⟩
 rw [hBe] at hB ⊢
 clear hBe w1
 obtain ⟨b0,b1,b2,b3,b4,b5,b6,b7,b8,b9,b10⟩:=(uh hB).eleven
 go_wp2_with fail
 refine (uh ce).mono ?_
 rintro e w3 ⟨v,r,rfl,hr,-,hown,hg3⟩
 obtain rfl:r=0:=(Sn.chk_good (uh hGo) (by have:s 1=0:=(uh hHd).2;omega) (by have:s 1=0:=(uh hHd).2;omega)).one hr
 obtain ⟨G,cap,rfl,cd⟩:=Sn.decode_back s g c E I _ v w3 (uh hGo) (by have:s 0=1:=(uh hHd).1;omega) (by have:s 1=0:=(uh hHd).2;omega) (by have:s 1=0:=(uh hHd).2;omega) (hown rfl)
 have cd':=hide cd
 have HG3:=hide (gtr (uh HG2) hg3)
 have HL3:=hide ((uh HL2).on hg3)
 have hB3:=hide ((uh hB).on hg3)
 clear hr hown hg3 cd ce HG2 HL2 hB b0 b1 b2 b3 b4 b5 b6 b7 b8 b9 b10 w2
 go_wp2_with fail
 refine (uh cd').mono ?_
 rintro e w4 ⟨u,rfl,jC,jE,jI,dC,dE,dI,hu,hdE,m1,m2,m3,p1,p2,p3,hM,hg4⟩
 obtain rfl:u=.agg (Gd.world s jC jE jI dC dE dI g):=by simpa using hu
 obtain ⟨w5,hw5⟩:∃w5,w5=w4.alloc (.cells (Gd.world s jC jE jI dC dE dI g) 31):=⟨_,rfl⟩
 have hg5:w4.grownBy w5 none:=by rw [hw5];exact World.grownBy_alloc _ _ _
 have hD:Hid (Lie w5 w4.heap.size 31 11 (Gd.box s jC jE jI dC dE dI g)):=by show Lie w5 _ _ _ _;rw [hw5];exact (Arr.world (heap_alloc_new w4 _)).lie
 have HG5:=hide (gtr (uh HG3) (gtr hg4 hg5))
 have hB5:=hide ((uh hB3).on (gtr hg4 hg5))
 have cs:=hide (same7_any s g c E I jC jE jI dC dE dI gC gE gI cC cE cI w5 (hM.on hg5) ((uh HL3).on (gtr hg4 hg5)))
 clear cd' hu hdE m1 m2 m3 p1 p2 p3 hM hg4 hg5 HG3 HL3 hB3
 unfold Gd.world at hw5 cs ⊢
 go_upto_region 4 with fail
 rw [←hw5]
 clear hw5
 obtain ⟨D,hDe⟩:∃D,w4.heap.size=D:=⟨_,rfl⟩
 rw [hDe] at hD ⊢
 clear hDe
 clear w3 w4
 obtain ⟨b0,b1,b2,b3,b4,b5,b6,b7,b8,b9,b10⟩:=(uh hB5).eleven
 obtain ⟨y0,y1,y2,y3,y4,y5,y6,y7,y8,y9,y10⟩:=(uh hD).eleven
 go_wp2_with fail
 refine (uh cs).mono ?_
 rintro e w6 ⟨rfl,hg6⟩
 have hgf:=hide (gtr (uh HG5) hg6)
 clear hg6 cs b0 b1 b2 b3 b4 b5 b6 b7 b8 b9 b10 y0 y1 y2 y3 y4 y5 y6 y7 y8 y9 y10 hB5 hD HG5
 go_wp2
 go_ret
 exact ⟨rfl,uh hgf⟩

end Go.Proofs.YtapgkgbpekkdjaaGreat
