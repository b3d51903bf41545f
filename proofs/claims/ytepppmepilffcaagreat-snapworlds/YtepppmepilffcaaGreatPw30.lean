import Derived.Test.YtepppmepilffcaaGreatPw28
import Derived.Test.YtepppmepilffcaaGreatPw25
namespace Go.Proofs.YtepppmepilffcaaGreat
open Go.RowKit

set_option maxRecDepth 16000 in
set_option maxHeartbeats 12800000 in
theorem snReads_any (G cap:Nat) (F:Nat→Int) (w:World) (hS:Sn.Src w G F) (hc:918≤cap) (hm:cap≤9223372036854775807) :
  Calls Tryz.prog 40 #[.slice (some ⟨G,0,none⟩) 918 cap] w (Gd.Worlds w (Sn.rs F) (Sn.rg F) (Sn.rc F) (Sn.rE F) (Sn.rI F)):=by
 obtain ⟨wa,hwa⟩:∃wa,wa=w.alloc (.cells #[.int .i64 0,.int .i64 0,.int .i64 0,.int .i64 0,.slice none 0 0,.slice none 0 0,.slice none 0 0,.int .i64 0,.int .i64 0,.int .i64 0,.int .i64 0] 31):=⟨_,rfl⟩
 obtain ⟨wb,hwb⟩:∃wb,wb=wa.alloc (.cells #[.int .i64 0,.int .i64 0,.int .i64 0,.int .i64 0,.slice none 0 0,.slice none 0 0,.slice none 0 0,.int .i64 0,.int .i64 0,.int .i64 0,.int .i64 0] 31):=⟨_,rfl⟩
 obtain ⟨x0,hx0⟩:∃x0,x0=wb.alloc (.cells #[.slice (some ⟨G,0,none⟩) 918 cap] 107):=⟨_,rfl⟩
 have ga:w.grownBy wa none:=by rw [hwa];exact World.grownBy_alloc _ _ _
 have gb:wa.grownBy wb none:=by rw [hwb];exact World.grownBy_alloc _ _ _
 have g0:wb.grownBy x0 none:=by rw [hx0];exact World.grownBy_alloc _ _ _
 have sa:wa.heap.size=w.heap.size+1:=by rw [hwa];simp
 have sb:wb.heap.size=w.heap.size+1+1:=by rw [hwb,←sa];simp
 have hP:Lie wa w.heap.size 31 11 (fun j=>#[.int .i64 0,.int .i64 0,.int .i64 0,.int .i64 0,.slice none 0 0,.slice none 0 0,.slice none 0 0,.int .i64 0,.int .i64 0,.int .i64 0,Value.int .i64 0][j]?.getD undef):=by
  rw [hwa]
  exact (Arr.lit (heap_alloc_new w _)).lie
 have hW:Lie wb wa.heap.size 31 11 (fun j=>#[.int .i64 0,.int .i64 0,.int .i64 0,.int .i64 0,.slice none 0 0,.slice none 0 0,.slice none 0 0,.int .i64 0,.int .i64 0,.int .i64 0,Value.int .i64 0][j]?.getD undef):=by
  rw [hwb]
  exact (Arr.lit (heap_alloc_new wa _)).lie
 have hR:Lie x0 wb.heap.size 107 1 (fun _=>.slice (some ⟨G,0,none⟩) (918 - 0) cap):=by
  rw [hx0]
  refine Lie.congr (m:=1) (Arr.lit (heap_alloc_new wb _)).lie fun c hc=>?_
  obtain rfl:c=0:=by omega
  rfl
 obtain ⟨Z,hZe⟩:∃Z:Nat→Value,(fun j=>#[.int .i64 0,.int .i64 0,.int .i64 0,.int .i64 0,.slice none 0 0,.slice none 0 0,.slice none 0 0,.int .i64 0,.int .i64 0,.int .i64 0,Value.int .i64 0][j]?.getD undef)=Z:=⟨_,rfl⟩
 obtain ⟨P,hPe⟩:∃P,w.heap.size=P:=⟨_,rfl⟩
 obtain ⟨W,hWe⟩:∃W,wa.heap.size=W:=⟨_,rfl⟩
 obtain ⟨R,hRe⟩:∃R,wb.heap.size=R:=⟨_,rfl⟩
 have hX0:Hid (Sn.Read w x0 P W R G 0 F Z):=by
  have hlt:=hS.lt
  refine ⟨?_,?_,⟨0,cap,?_,fun _=>rfl,by omega,hm⟩,hS.on (gtr ga (gtr gb g0)) (by simp),by omega,by omega,by omega,hlt,by omega,by omega,by omega,gtr ga (gtr gb g0)⟩
  ·rw [←hPe]
   exact hP.on (gtr gb g0)
  ·rw [←hWe,←hZe]
   exact hW.on g0
  ·rw [←hRe]
   exact hR
 have HZ:=hide hZe
 have eR:P+1+1=R:=by omega
 have eW:P+1=W:=by omega
 have eR':=hide eR
 have eW':=hide eW
 clear eR eW hWe hRe
 clear hS hc hm ga gb g0 sa sb hP hW hR hZe
 go_enter Tryz.func40,Tryz.ntmps40
 go_upto_region 3 with fail
 rw [←hwa,←hwb,←hx0,uh eR',uh eW']
 clear hwa hwb hx0 hPe eR' eW'
 clear wa wb
 have cn:=hide (snNumber_any R G 0 8 F x0 (uh hX0).rd (uh hX0).src (uh hX0).rG (by omega) (by omega) (by omega))
 obtain ⟨V0,hV0⟩:∃V,IntKind.i64.wrap (Sn.be (Sn.cut F 0 8))=V:=⟨_,rfl⟩
 have hv0:=hide hV0
 go_wp2_with fail
 refine (uh cn).mono ?_
 rintro e y ⟨u,rfl,hy,hRd⟩
 have hY:=hide ((uh hX0).step hy hRd)
 have fW:=(uh hY).box.free
 have zW:=(uh hY).box.cell (c:=0) (by omega)
 have hZ:=hide ((uh hY).field 0 (.int .i64 V0))
 clear cn hy hRd hX0 hY
 go_upto_region 4 with fail
 generalize y.setCell ⟨W,0,none⟩ (.int .i64 V0)=x1 at hZ ⊢
 have hX1:Hid (Sn.Read w x1 P W R G 8 F (Sn.put (Z) 0 (.int .i64 V0))):=hZ
 clear hZ fW zW hV0
 have cn:=hide (snNumber_any R G 8 4 F x1 (uh hX1).rd (uh hX1).src (uh hX1).rG (by omega) (by omega) (by omega))
 obtain ⟨V1,hV1⟩:∃V,IntKind.i64.wrap (Sn.be (Sn.cut F 8 4))=V:=⟨_,rfl⟩
 have hv1:=hide hV1
 go_wp2_with fail
 refine (uh cn).mono ?_
 rintro e y ⟨u,rfl,hy,hRd⟩
 have hY:=hide ((uh hX1).step hy hRd)
 have fW:=(uh hY).box.free
 have zW:=(uh hY).box.cell (c:=1) (by omega)
 have hZ:=hide ((uh hY).field 1 (.int .i64 V1))
 clear cn hy hRd hX1 hY
 go_upto_region 5 with fail
 generalize y.setCell ⟨W,1,none⟩ (.int .i64 V1)=x2 at hZ ⊢
 have hX2:Hid (Sn.Read w x2 P W R G 12 F (Sn.put (Sn.put (Z) 0 (.int .i64 V0)) 1 (.int .i64 V1))):=hZ
 clear hZ fW zW hV1
 have cn:=hide (snNumber_any R G 12 1 F x2 (uh hX2).rd (uh hX2).src (uh hX2).rG (by omega) (by omega) (by omega))
 obtain ⟨V2,hV2⟩:∃V,IntKind.i64.wrap (Sn.be (Sn.cut F 12 1))=V:=⟨_,rfl⟩
 have hv2:=hide hV2
 go_wp2_with fail
 refine (uh cn).mono ?_
 rintro e y ⟨u,rfl,hy,hRd⟩
 have hY:=hide ((uh hX2).step hy hRd)
 have fW:=(uh hY).box.free
 have zW:=(uh hY).box.cell (c:=2) (by omega)
 have hZ:=hide ((uh hY).field 2 (.int .i64 V2))
 clear cn hy hRd hX2 hY
 go_upto_region 6 with fail
 generalize y.setCell ⟨W,2,none⟩ (.int .i64 V2)=x3 at hZ ⊢
 have hX3:Hid (Sn.Read w x3 P W R G 13 F (Sn.put (Sn.put (Sn.put (Z) 0 (.int .i64 V0)) 1 (.int .i64 V1)) 2 (.int .i64 V2))):=hZ
 clear hZ fW zW hV2
 have cn:=hide (snNumber_any R G 13 1 F x3 (uh hX3).rd (uh hX3).src (uh hX3).rG (by omega) (by omega) (by omega))
 obtain ⟨V3,hV3⟩:∃V,IntKind.i64.wrap (Sn.be (Sn.cut F 13 1))=V:=⟨_,rfl⟩
 have hv3:=hide hV3
 go_wp2_with fail
 refine (uh cn).mono ?_
 rintro e y ⟨u,rfl,hy,hRd⟩
 have hY:=hide ((uh hX3).step hy hRd)
 have fW:=(uh hY).box.free
 have zW:=(uh hY).box.cell (c:=3) (by omega)
 have hZ:=hide ((uh hY).field 3 (.int .i64 V3))
 clear cn hy hRd hX3 hY
 go_upto_region 7 with fail
 generalize y.setCell ⟨W,3,none⟩ (.int .i64 V3)=x4 at hZ ⊢
 have hX4:Hid (Sn.Read w x4 P W R G 14 F (Sn.put (Sn.put (Sn.put (Sn.put (Z) 0 (.int .i64 V0)) 1 (.int .i64 V1)) 2 (.int .i64 V2)) 3 (.int .i64 V3))):=hZ
 clear hZ fW zW hV3
 obtain ⟨H,hH⟩:∃H,H=Sn.put (Sn.put (Sn.put (Sn.put (Z) 0 (.int .i64 V0)) 1 (.int .i64 V1)) 2 (.int .i64 V2)) 3 (.int .i64 V3):=⟨_,rfl⟩
 rw [←hH] at hX4
 have HH:=hide hH
 clear hH
 go_wp2_with fail
 go_loopw [5,22] (fun v5 v22 wr=>∃t:Nat,t≤4∧v22=.int .i64 (t:Int)∧Hid (Sn.Read w wr P W R G (14+2*t) F (Sn.gd H (Sn.rg F) t))) (fun _ v22 _=>10 - (intOf v22).toNat)
 case atStart=>exact ⟨0,by omega,rfl,by rw [Sn.gd_none];exact hX4⟩
 case round =>
  clear hX4
  obtain ⟨t,ht,rfl,hX⟩:=hrel
  by_cases hlt:t<4
  ·have hlt':(t:Int)<4:=by omega
   have HL:=hide hlt
   have cn:=hide (snNumber_any R G (14+2*t) 2 F wr (uh hX).rd (uh hX).src (uh hX).rG (by omega) (by omega) (by omega))
   have tw:IntKind.i64.wrap (Sn.be (Sn.cut F (14+2*t) 2))=Sn.rg F t:=by
    have:=Sn.be_bound 2 F (14+2*t) (fun j _=>(uh hX).src.byte _)
    rw [IntKind.wrap_i64]
    unfold Sn.rg
    omega
   clear hlt ht
   go_wp2_with fail
   refine (uh cn).mono ?_
   rintro e y ⟨u,rfl,hy,hRd⟩
   have hY:=hide ((uh hX).step hy hRd)
   have fW:=(uh hY).box.free
   have zW:=(uh hY).box.cell (c:=7+t) (by have:=uh HL;omega)
   have hZ:=hide ((uh hY).field (7+t) (.int .i64 (Sn.rg F t)))
   rw [Sn.gd_more,show 14+2*t+2=14+2*(t+1) by omega] at hZ
   clear cn hy hRd hX hY
   go_wp2
   go_roundw
   case rel=>exact ⟨t+1,by have:=uh HL;omega,by go_num,hZ⟩
   case measure=>simp [intOf];have:=uh HL;omega
  ·obtain rfl:t=4:=by omega
   have hge:¬((4:Nat):Int)<4:=by omega
   clear hlt ht
   have cn:=hide (snNext_any R G 22 384 wr (uh hX).rd (by omega) (by omega))
   go_upto_region 12 with fail
   go_wp2_with fail
   refine (uh cn).mono ?_
   rintro e y ⟨u,C,rfl,hC,hy,hRd⟩
   have hY:=hide ((uh hX).step hy hRd)
   have ct:=hide (snTwinB_any G 22 384 384 C (Byts (Sn.rc F)) y (by omega) (by omega) (fun _=>rfl) (fun c hc=>(uh hY).src.cell (22+c) (by omega)) (uh hY).src.lt)
   clear cn hC hy hRd hX
   go_wp2_with fail
   refine (uh ct).mono ?_
   rintro e y2 ⟨gC,rfl,lC,hA,hg⟩
   have hY2:=hide ((uh hY).on hg)
   have HC:=hide hA.lie
   have LC:Hid (w.heap.size≤gC):=(show w.heap.size≤gC by have:=(uh hY).grown.size;omega)
   have fW:=(uh hY2).box.free
   have zW:=(uh hY2).box.cell (c:=4) (by omega)
   have nCW:Hid (gC≠W):=(uh HC).type_ne (uh hY2).box (by decide)
   have hZ:=hide (And.intro ((uh hY2).field 4 (.slice (some ⟨gC,0,none⟩) 384 384)) ((uh HC).other (uh nCW).symm 4 (.slice (some ⟨gC,0,none⟩) 384 384)))
   clear ct lC hA hg hY hY2 HC
   go_upto_region 13 with fail
   generalize y2.setCell ⟨W,4,none⟩ (.slice (some ⟨gC,0,none⟩) 384 384)=x5 at hZ ⊢
   clear fW zW y y2
   obtain ⟨Z5,hm5,hZ5⟩:=make32
   obtain ⟨gE,hgE⟩:∃b,x5.heap.size=b:=⟨_,rfl⟩
   obtain ⟨wm,hwm⟩:∃wm,wm=x5.alloc (.cells Z5 61):=⟨_,rfl⟩
   have hga:x5.grownBy wm none:=by rw [hwm];exact World.grownBy_alloc _ _ _
   have hl5:Lie wm gE 61 352 (En.flat fun _ _=>0):=by
    rw [←hgE,hwm]
    exact (hZ5 x5).lie (m:=352) (by omega)
   have hmx:=hm5 x5
   rw [←hwm,hgE] at hmx
   have hb:=hide ((uh hZ).1.on hga)
   have fW:=(uh hb).box.free
   have zW:=(uh hb).box.cell (c:=5) (by omega)
   obtain ⟨B5,hB5⟩:∃B,B=Sn.put (Sn.put (Sn.gd H (Sn.rg F) 4) 4 (.slice (some ⟨gC,0,none⟩) 384 384)) 5 (.slice (some ⟨gE,0,none⟩) 32 32):=⟨_,rfl⟩
   have LgE:Hid (w.heap.size≤gE):=(show w.heap.size≤gE by have:=(uh hZ).1.grown.size;omega)
   have hQ:Hid (Sn.Read w (wm.setCell ⟨W,5,none⟩ (.slice (some ⟨gE,0,none⟩) 32 32)) P W R G (406) F B5∧Lie (wm.setCell ⟨W,5,none⟩ (.slice (some ⟨gE,0,none⟩) 32 32)) gC 5 384 (Byts (Sn.rc F))∧Lie (wm.setCell ⟨W,5,none⟩ (.slice (some ⟨gE,0,none⟩) 32 32)) gE 61 352 (En.flat (Sn.fill (Sn.rE F) 0))):=by
    have hz:=uh hZ
    exact ⟨by rw [hB5];exact (uh hb).field 5 _,(hz.2.on hga).other ((hz.2.on hga).type_ne (uh hb).box (by decide)).symm _ _,by rw [Sn.fill_none];exact hl5.other (hl5.type_ne (uh hb).box (by decide)).symm _ _⟩
   have HB5:=hide hB5
   clear hga hl5 hZ5 hB5 hm5 hb hgE hwm
   go_upto_region 14 with fail
   generalize (wm.setCell ⟨W,5,none⟩ (.slice (some ⟨gE,0,none⟩) 32 32))=x5n at hQ ⊢
   clear hmx hZ fW zW
   have hb5:Hid (∀z,Lie z W 31 11 B5→z.cell? ⟨W,5,none⟩=some (.slice (some ⟨gE,0,none⟩) 32 32)):=fun z hz=>by
    rw [hz.cell (c:=5) (by omega),uh HB5]
    rfl
   have zB:=uh hb5 _ (uh hQ).1.box
   go_wp2_with fail
   go_loopw [6,39] (fun vo vl wr=>∃n:Nat,n≤32∧vl=.int .i64 (n:Int)∧Hid (Sn.Read w wr P W R G (406+n*11) F B5∧Lie wr gC 5 384 (Byts (Sn.rc F))∧Lie wr gE 61 352 (En.flat (Sn.fill (Sn.rE F) n)))) (fun _ vl _=>60 - (intOf vl).toNat)
   case atStart=>exact ⟨0,by omega,rfl,hQ⟩
   case round =>
    clear hQ zB
    obtain ⟨n,hn,rfl,hX⟩:=hrel
    by_cases hlt:n<32
    ·have hlt':(n:Int)<32:=by omega
     have HL:=hide hlt
     have hd:=hide (gd1 (World.grownBy.refl wr none))
     have hon:Hid (∀y z kk,(Sn.Read w y P W R G (kk) F B5∧Lie y gC 5 384 (Byts (Sn.rc F))∧Lie y gE 61 352 (En.flat (Sn.fill (Sn.rE F) n)))→y.grownBy z none→(Sn.Read w z P W R G (kk) F B5∧Lie z gC 5 384 (Byts (Sn.rc F))∧Lie z gE 61 352 (En.flat (Sn.fill (Sn.rE F) n)))):=fun y z kk h hg=>⟨h.1.on hg,(h).2.1.on hg,(h).2.2.on hg⟩
     have hst:Hid (∀y z u kk,(Sn.Read w y P W R G (kk) F B5∧Lie y gC 5 384 (Byts (Sn.rc F))∧Lie y gE 61 352 (En.flat (Sn.fill (Sn.rE F) n)))→z=y.setCell ⟨R,0,none⟩ u→∀k2,Sn.Rd z R G k2→(Sn.Read w z P W R G (k2) F B5∧Lie z gC 5 384 (Byts (Sn.rc F))∧Lie z gE 61 352 (En.flat (Sn.fill (Sn.rE F) n)))):=fun y z u kk h hz k2 hr=>by
      obtain ⟨p,C,hc,-⟩:=h.1.rd.cell
      refine ⟨h.1.step hz hr,?_,?_⟩
      ·rw [hz];exact (h).2.1.other ((h).2.1.type_ne hc (by decide)).symm _ _
      ·rw [hz];exact (h).2.2.other ((h).2.2.type_ne hc (by decide)).symm _ _
     have cn:Hid (∀z,wr.grownBy z none→Calls Tryz.prog 70 #[.pointer (some ⟨R,0,none⟩),.int .i64 ((11:Nat):Int)] z (Sn.Goes z R G (406+n*11) 11)):=fun z hz=>snNext_any R G (406+n*11) 11 z ((uh hX).1.rd.on hz) (by omega) (by have:=uh HL;omega)
     have ce:=hide (fun z C (hz:Sn.Src z G F)=>entOf_any G (406+n*11) C F z hz (by have:=uh HL;omega))
     have hput:Hid (∀z,(Sn.Read w z P W R G (406+n*11+11) F B5∧Lie z gC 5 384 (Byts (Sn.rc F))∧Lie z gE 61 352 (En.flat (Sn.fill (Sn.rE F) n)))→(Sn.Read w (z.setCells gE (n*11) (#[.int .i64 (F (406+n*11)),.int .i64 (F (406+n*11+1)),.int .i64 (F (406+n*11+2)),.int .i64 (F (406+n*11+3)),.int .i64 (F (406+n*11+4)),.int .i64 (F (406+n*11+5)),.int .i64 (F (406+n*11+6)),.int .i64 (F (406+n*11+7)),.int .i64 (F (406+n*11+8)),.int .i64 (F (406+n*11+9)),.int .i64 (F (406+n*11+10))]:Array Value).toList) P W R G (406+(n+1)*11) F B5∧Lie (z.setCells gE (n*11) (#[.int .i64 (F (406+n*11)),.int .i64 (F (406+n*11+1)),.int .i64 (F (406+n*11+2)),.int .i64 (F (406+n*11+3)),.int .i64 (F (406+n*11+4)),.int .i64 (F (406+n*11+5)),.int .i64 (F (406+n*11+6)),.int .i64 (F (406+n*11+7)),.int .i64 (F (406+n*11+8)),.int .i64 (F (406+n*11+9)),.int .i64 (F (406+n*11+10))]:Array Value).toList) gC 5 384 (Byts (Sn.rc F))∧Lie (z.setCells gE (n*11) (#[.int .i64 (F (406+n*11)),.int .i64 (F (406+n*11+1)),.int .i64 (F (406+n*11+2)),.int .i64 (F (406+n*11+3)),.int .i64 (F (406+n*11+4)),.int .i64 (F (406+n*11+5)),.int .i64 (F (406+n*11+6)),.int .i64 (F (406+n*11+7)),.int .i64 (F (406+n*11+8)),.int .i64 (F (406+n*11+9)),.int .i64 (F (406+n*11+10))]:Array Value).toList) gE 61 352 (En.flat (Sn.fill (Sn.rE F) (n+1))))):=fun z h=>by
      rw [show 406+(n+1)*11=406+n*11+11 by omega,←Sn.fill_more (Sn.rE F) n]
      refine ⟨h.1.rows (h).2.2 (by decide) (by decide) (uh LgE) _ _,(h).2.1.others ((h).2.2.type_ne (h).2.1 (by decide)) _ _,?_⟩
      exact (((h).2.2.own (n:=32) (by omega) (by omega)).store n (Sn.rE F n)).lie (by omega)
     have hrow:Hid (∀z,(Sn.Read w z P W R G (406+n*11+11) F B5∧Lie z gC 5 384 (Byts (Sn.rc F))∧Lie z gE 61 352 (En.flat (Sn.fill (Sn.rE F) n)))→z.cell? ⟨gE,n*11,none⟩=some (.int .i64 (Sn.fill (Sn.rE F) n n 0))∧z.cell? ⟨gE,n*11+1,none⟩=some (.int .i64 (Sn.fill (Sn.rE F) n n 1))∧z.cell? ⟨gE,n*11+2,none⟩=some (.int .i64 (Sn.fill (Sn.rE F) n n 2))∧z.cell? ⟨gE,n*11+3,none⟩=some (.int .i64 (Sn.fill (Sn.rE F) n n 3))∧z.cell? ⟨gE,n*11+4,none⟩=some (.int .i64 (Sn.fill (Sn.rE F) n n 4))∧z.cell? ⟨gE,n*11+5,none⟩=some (.int .i64 (Sn.fill (Sn.rE F) n n 5))∧z.cell? ⟨gE,n*11+6,none⟩=some (.int .i64 (Sn.fill (Sn.rE F) n n 6))∧z.cell? ⟨gE,n*11+7,none⟩=some (.int .i64 (Sn.fill (Sn.rE F) n n 7))∧z.cell? ⟨gE,n*11+8,none⟩=some (.int .i64 (Sn.fill (Sn.rE F) n n 8))∧z.cell? ⟨gE,n*11+9,none⟩=some (.int .i64 (Sn.fill (Sn.rE F) n n 9))∧z.cell? ⟨gE,n*11+10,none⟩=some (.int .i64 (Sn.fill (Sn.rE F) n n 10))):=fun z h=>((h).2.2.own (n:=32) (by omega) (by omega)).ents.row (uh HL)
     clear hlt hn
     go_upto_region 17 with fail
     refine wp_region_till (h:=6) (S:=fun x=>x.cell? ⟨W,5,none⟩=some (.slice (some ⟨gE,0,none⟩) 32 32)) (by kernel_rfl) ?_
     have hS0:=uh hb5 _ ((uh hX).1.box.on (uh hd))
     refine wtk (i:=0) (v:=?_) [6] rfl (by kernel_rfl) (by kernel_rfl) (by kernel_rfl) (by kernel_rfl) (fun _ _ _ h=>h) hS0 (Or.inl ⟨by rfl,?_⟩) ?_
     rotate_left
     ·intro x hSx
      try dsimp only at hSx
      go_simp
      try with_reducible rfl
     simp only [Act.put]
     refine wtk (i:=1) (v:=?_) [6] rfl (by kernel_rfl) (by kernel_rfl) (by kernel_rfl) (by kernel_rfl) (fun _ _ _ h=>h) hS0 (Or.inl ⟨by rfl,?_⟩) ?_
     rotate_left
     ·intro x hSx
      try dsimp only at hSx
      go_simp
      try with_reducible rfl
     simp only [Act.put]
     refine wtk (i:=2) (v:=?_) [6] rfl (by kernel_rfl) (by kernel_rfl) (by kernel_rfl) (by kernel_rfl) (fun _ _ _ h=>h) hS0 (Or.inl ⟨by rfl,?_⟩) ?_
     rotate_left
     ·intro x hSx
      try dsimp only at hSx
      go_simp
      try with_reducible rfl
     simp only [Act.put]
     refine wto (j:=3) (by kernel_rfl) rfl (fun K hK=>?_)
     go_simp
     refine (uh cn _ (uh hd)).mono ?_
     rintro e0 y ⟨u,C,rfl,hC,hy,hRd⟩
     have hY:=hide (uh hst _ _ u _ (uh hon _ _ _ (uh hX) (uh hd)) hy _ hRd)
     have hS3:=uh hb5 _ (uh hY).1.box
     clear hC hy hRd
     try go_simp
     refine hK.out _ _ (fun _=>hS3) ?_
     clear hK K
     refine wto (j:=4) (by kernel_rfl) rfl (fun K hK=>?_)
     go_simp
     refine (uh ce _ _ (uh hY).1.src).mono ?_
     rintro e0 y2 ⟨rfl,hg4⟩
     have hY2:=hide (uh hon _ _ _ (uh hY) hg4)
     have hS4:=uh hb5 _ (uh hY2).1.box
     obtain ⟨r0,r1,r2,r3,r4,r5,r6,r7,r8,r9,r10⟩:=uh hrow _ (uh hY2)
     have fE:=(uh hY2).2.2.free
     have hX2:=hide (uh hput _ (uh hY2))
     clear hg4 hY
     try go_simp
     refine hK.out _ _ (fun _=>hS4) ?_
     clear hK K
     refine wtk (i:=5) (v:=?_) [6] rfl (by kernel_rfl) (by kernel_rfl) (by kernel_rfl) (by kernel_rfl) (fun _ _ _ h=>h) hS4 (Or.inl ⟨by rfl,?_⟩) ?_
     rotate_left
     ·intro x hSx
      try dsimp only at hSx
      go_simp
      try with_reducible rfl
     simp only [Act.put]
     refine wto (j:=6) (by kernel_rfl) rfl (fun K hK=>?_)
     go_simp
     refine hK.out _ _ (fun hx=>absurd (hx.symm.trans (by kernel_rfl)) Bool.false_ne_true) ?_
     clear hK K
     refine wpTill_done (by kernel_rfl) ?_ _
     clear cn ce hst hon hrow hput hS4 hS3 r0 r1 r2 r3 r4 r5 r6 r7 r8 r9 r10 fE hX hd hY2
     go_wp2
     go_roundw
     case rel=>exact ⟨n+1,by have:=uh HL;omega,by go_num,hX2⟩
     case measure=>simp [intOf];have:=uh HL;omega
    ·obtain rfl:n=32:=by omega
     have hge:¬((32:Nat):Int)<32:=by omega
     clear hlt hn
     have hZ:=hX
     clear hX
     go_upto_region 19 with fail
     obtain ⟨Z6,hm6,hZ6⟩:=make40
     obtain ⟨gI,hgI⟩:∃b,wr.heap.size=b:=⟨_,rfl⟩
     obtain ⟨wm,hwm⟩:∃wm,wm=wr.alloc (.cells Z6 63):=⟨_,rfl⟩
     have hga:wr.grownBy wm none:=by rw [hwm];exact World.grownBy_alloc _ _ _
     have hl6:Lie wm gI 63 160 (Gd.flat fun _ _=>0):=by
      rw [←hgI,hwm]
      exact hZ6 wr
     have hmx:=hm6 wr
     rw [←hwm,hgI] at hmx
     have hb:=hide ((uh hZ).1.on hga)
     have fW:=(uh hb).box.free
     have zW:=(uh hb).box.cell (c:=6) (by omega)
     obtain ⟨B6,hB6⟩:∃B,B=Sn.put (B5) 6 (.slice (some ⟨gI,0,none⟩) 40 40):=⟨_,rfl⟩
     have LgI:Hid (w.heap.size≤gI):=(show w.heap.size≤gI by have:=(uh hZ).1.grown.size;omega)
     have hQ:Hid (Sn.Read w (wm.setCell ⟨W,6,none⟩ (.slice (some ⟨gI,0,none⟩) 40 40)) P W R G (758) F B6∧Lie (wm.setCell ⟨W,6,none⟩ (.slice (some ⟨gI,0,none⟩) 40 40)) gC 5 384 (Byts (Sn.rc F))∧Lie (wm.setCell ⟨W,6,none⟩ (.slice (some ⟨gI,0,none⟩) 40 40)) gE 61 352 (En.flat (Sn.fill (Sn.rE F) 32))∧Lie (wm.setCell ⟨W,6,none⟩ (.slice (some ⟨gI,0,none⟩) 40 40)) gI 63 160 (Gd.flat (Sn.fill (Sn.rI F) 0))):=by
      have hz:=uh hZ
      exact ⟨by rw [hB6];exact (uh hb).field 6 _,(hz.2.1.on hga).other ((hz.2.1.on hga).type_ne (uh hb).box (by decide)).symm _ _,(hz.2.2.on hga).other ((hz.2.2.on hga).type_ne (uh hb).box (by decide)).symm _ _,by rw [Sn.fill_none];exact hl6.other (hl6.type_ne (uh hb).box (by decide)).symm _ _⟩
     have HB6:=hide hB6
     clear hga hl6 hZ6 hB6 hm6 hb hgI hwm
     go_upto_region 20 with fail
     generalize (wm.setCell ⟨W,6,none⟩ (.slice (some ⟨gI,0,none⟩) 40 40))=wrn at hQ ⊢
     clear hmx hZ fW zW
     have hb5:Hid (∀z,Lie z W 31 11 B6→z.cell? ⟨W,6,none⟩=some (.slice (some ⟨gI,0,none⟩) 40 40)):=fun z hz=>by
      rw [hz.cell (c:=6) (by omega),uh HB6]
      rfl
     have zB:=uh hb5 _ (uh hQ).1.box
     go_wp2_with fail
     go_loopw [7,54] (fun vo vl wr=>∃n:Nat,n≤40∧vl=.int .i64 (n:Int)∧Hid (Sn.Read w wr P W R G (758+n*4) F B6∧Lie wr gC 5 384 (Byts (Sn.rc F))∧Lie wr gE 61 352 (En.flat (Sn.fill (Sn.rE F) 32))∧Lie wr gI 63 160 (Gd.flat (Sn.fill (Sn.rI F) n)))) (fun _ vl _=>60 - (intOf vl).toNat)
     case atStart=>exact ⟨0,by omega,rfl,hQ⟩
     case round =>
      clear hQ zB
      obtain ⟨n,hn,rfl,hX⟩:=hrel
      by_cases hlt:n<40
      ·have hlt':(n:Int)<40:=by omega
       have HL:=hide hlt
       have hd:=hide (gd1 (World.grownBy.refl wr none))
       have hon:Hid (∀y z kk,(Sn.Read w y P W R G (kk) F B6∧Lie y gC 5 384 (Byts (Sn.rc F))∧Lie y gE 61 352 (En.flat (Sn.fill (Sn.rE F) 32))∧Lie y gI 63 160 (Gd.flat (Sn.fill (Sn.rI F) n)))→y.grownBy z none→(Sn.Read w z P W R G (kk) F B6∧Lie z gC 5 384 (Byts (Sn.rc F))∧Lie z gE 61 352 (En.flat (Sn.fill (Sn.rE F) 32))∧Lie z gI 63 160 (Gd.flat (Sn.fill (Sn.rI F) n)))):=fun y z kk h hg=>⟨h.1.on hg,(h).2.1.on hg,(h).2.2.1.on hg,(h).2.2.2.on hg⟩
       have hst:Hid (∀y z u kk,(Sn.Read w y P W R G (kk) F B6∧Lie y gC 5 384 (Byts (Sn.rc F))∧Lie y gE 61 352 (En.flat (Sn.fill (Sn.rE F) 32))∧Lie y gI 63 160 (Gd.flat (Sn.fill (Sn.rI F) n)))→z=y.setCell ⟨R,0,none⟩ u→∀k2,Sn.Rd z R G k2→(Sn.Read w z P W R G (k2) F B6∧Lie z gC 5 384 (Byts (Sn.rc F))∧Lie z gE 61 352 (En.flat (Sn.fill (Sn.rE F) 32))∧Lie z gI 63 160 (Gd.flat (Sn.fill (Sn.rI F) n)))):=fun y z u kk h hz k2 hr=>by
        obtain ⟨p,C,hc,-⟩:=h.1.rd.cell
        refine ⟨h.1.step hz hr,?_,?_,?_⟩
        ·rw [hz];exact (h).2.1.other ((h).2.1.type_ne hc (by decide)).symm _ _
        ·rw [hz];exact (h).2.2.1.other ((h).2.2.1.type_ne hc (by decide)).symm _ _
        ·rw [hz];exact (h).2.2.2.other ((h).2.2.2.type_ne hc (by decide)).symm _ _
       have cn:Hid (∀z,wr.grownBy z none→Calls Tryz.prog 70 #[.pointer (some ⟨R,0,none⟩),.int .i64 ((4:Nat):Int)] z (Sn.Goes z R G (758+n*4) 4)):=fun z hz=>snNext_any R G (758+n*4) 4 z ((uh hX).1.rd.on hz) (by omega) (by have:=uh HL;omega)
       have ce:=hide (fun z C (hz:Sn.Src z G F)=>itemOf_any G (758+n*4) C F z hz (by have:=uh HL;omega))
       have hput:Hid (∀z,(Sn.Read w z P W R G (758+n*4+4) F B6∧Lie z gC 5 384 (Byts (Sn.rc F))∧Lie z gE 61 352 (En.flat (Sn.fill (Sn.rE F) 32))∧Lie z gI 63 160 (Gd.flat (Sn.fill (Sn.rI F) n)))→(Sn.Read w (z.setCells gI (n*4) (#[.int .i64 (F (758+n*4)),.int .i64 (F (758+n*4+1)),.int .i64 (F (758+n*4+2)),.int .i64 (F (758+n*4+3))]:Array Value).toList) P W R G (758+(n+1)*4) F B6∧Lie (z.setCells gI (n*4) (#[.int .i64 (F (758+n*4)),.int .i64 (F (758+n*4+1)),.int .i64 (F (758+n*4+2)),.int .i64 (F (758+n*4+3))]:Array Value).toList) gC 5 384 (Byts (Sn.rc F))∧Lie (z.setCells gI (n*4) (#[.int .i64 (F (758+n*4)),.int .i64 (F (758+n*4+1)),.int .i64 (F (758+n*4+2)),.int .i64 (F (758+n*4+3))]:Array Value).toList) gE 61 352 (En.flat (Sn.fill (Sn.rE F) 32))∧Lie (z.setCells gI (n*4) (#[.int .i64 (F (758+n*4)),.int .i64 (F (758+n*4+1)),.int .i64 (F (758+n*4+2)),.int .i64 (F (758+n*4+3))]:Array Value).toList) gI 63 160 (Gd.flat (Sn.fill (Sn.rI F) (n+1))))):=fun z h=>by
        rw [show 758+(n+1)*4=758+n*4+4 by omega,←Sn.fill_more (Sn.rI F) n]
        refine ⟨h.1.rows (h).2.2.2 (by decide) (by decide) (uh LgI) _ _,(h).2.1.others ((h).2.2.2.type_ne (h).2.1 (by decide)) _ _,(h).2.2.1.others ((h).2.2.2.type_ne (h).2.2.1 (by decide)) _ _,?_⟩
        exact (h).2.2.2.item n (Sn.rI F n)
       have hrow:Hid (∀z,(Sn.Read w z P W R G (758+n*4+4) F B6∧Lie z gC 5 384 (Byts (Sn.rc F))∧Lie z gE 61 352 (En.flat (Sn.fill (Sn.rE F) 32))∧Lie z gI 63 160 (Gd.flat (Sn.fill (Sn.rI F) n)))→z.cell? ⟨gI,n*4,none⟩=some (.int .i64 (Sn.fill (Sn.rI F) n n 0))∧z.cell? ⟨gI,n*4+1,none⟩=some (.int .i64 (Sn.fill (Sn.rI F) n n 1))∧z.cell? ⟨gI,n*4+2,none⟩=some (.int .i64 (Sn.fill (Sn.rI F) n n 2))∧z.cell? ⟨gI,n*4+3,none⟩=some (.int .i64 (Sn.fill (Sn.rI F) n n 3))):=fun z h=>((h).2.2.2.its (n:=40) (by omega) (by omega)).row (uh HL)
       clear hlt hn
       go_upto_region 23 with fail
       refine wp_region_till (h:=6) (S:=fun x=>x.cell? ⟨W,6,none⟩=some (.slice (some ⟨gI,0,none⟩) 40 40)) (by kernel_rfl) ?_
       have hS0:=uh hb5 _ ((uh hX).1.box.on (uh hd))
       refine wtk (i:=0) (v:=?_) [6] rfl (by kernel_rfl) (by kernel_rfl) (by kernel_rfl) (by kernel_rfl) (fun _ _ _ h=>h) hS0 (Or.inl ⟨by rfl,?_⟩) ?_
       rotate_left
       ·intro x hSx
        try dsimp only at hSx
        go_simp
        try with_reducible rfl
       simp only [Act.put]
       refine wtk (i:=1) (v:=?_) [6] rfl (by kernel_rfl) (by kernel_rfl) (by kernel_rfl) (by kernel_rfl) (fun _ _ _ h=>h) hS0 (Or.inl ⟨by rfl,?_⟩) ?_
       rotate_left
       ·intro x hSx
        try dsimp only at hSx
        go_simp
        try with_reducible rfl
       simp only [Act.put]
       refine wtk (i:=2) (v:=?_) [6] rfl (by kernel_rfl) (by kernel_rfl) (by kernel_rfl) (by kernel_rfl) (fun _ _ _ h=>h) hS0 (Or.inl ⟨by rfl,?_⟩) ?_
       rotate_left
       ·intro x hSx
        try dsimp only at hSx
        go_simp
        try with_reducible rfl
       simp only [Act.put]
       refine wto (j:=3) (by kernel_rfl) rfl (fun K hK=>?_)
       go_simp
       refine (uh cn _ (uh hd)).mono ?_
       rintro e0 y ⟨u,C,rfl,hC,hy,hRd⟩
       have hY:=hide (uh hst _ _ u _ (uh hon _ _ _ (uh hX) (uh hd)) hy _ hRd)
       have hS3:=uh hb5 _ (uh hY).1.box
       clear hC hy hRd
       try go_simp
       refine hK.out _ _ (fun _=>hS3) ?_
       clear hK K
       refine wto (j:=4) (by kernel_rfl) rfl (fun K hK=>?_)
       go_simp
       refine (uh ce _ _ (uh hY).1.src).mono ?_
       rintro e0 y2 ⟨rfl,hg4⟩
       have hY2:=hide (uh hon _ _ _ (uh hY) hg4)
       have hS4:=uh hb5 _ (uh hY2).1.box
       obtain ⟨r0,r1,r2,r3⟩:=uh hrow _ (uh hY2)
       have fE:=(uh hY2).2.2.2.free
       have hX2:=hide (uh hput _ (uh hY2))
       clear hg4 hY
       try go_simp
       refine hK.out _ _ (fun _=>hS4) ?_
       clear hK K
       refine wtk (i:=5) (v:=?_) [6] rfl (by kernel_rfl) (by kernel_rfl) (by kernel_rfl) (by kernel_rfl) (fun _ _ _ h=>h) hS4 (Or.inl ⟨by rfl,?_⟩) ?_
       rotate_left
       ·intro x hSx
        try dsimp only at hSx
        go_simp
        try with_reducible rfl
       simp only [Act.put]
       refine wto (j:=6) (by kernel_rfl) rfl (fun K hK=>?_)
       go_simp
       refine hK.out _ _ (fun hx=>absurd (hx.symm.trans (by kernel_rfl)) Bool.false_ne_true) ?_
       clear hK K
       refine wpTill_done (by kernel_rfl) ?_ _
       clear cn ce hst hon hrow hput hS4 hS3 r0 r1 r2 r3 fE hX hd hY2
       go_wp2
       go_roundw
       case rel=>exact ⟨n+1,by have:=uh HL;omega,by go_num,hX2⟩
       case measure=>simp [intOf];have:=uh HL;omega
      ·obtain rfl:n=40:=by omega
       have hge:¬((40:Nat):Int)<40:=by omega
       clear hlt hn
       have hbox:Lie wr W 31 11 (Gd.box (Sn.rs F) gC gE gI 384 32 40 (Sn.rg F)):=by
        refine (uh hX).1.box.congr fun c hc=>?_
        rw [uh HB6,uh HB5,uh HH,←uh HZ]
        have q8:=Sn.be_bound 8 F 0 (fun j _=>(uh hX).1.src.byte _)
        have q4:=Sn.be_bound 4 F 8 (fun j _=>(uh hX).1.src.byte _)
        have f12:=(uh hX).1.src.byte 12
        have f13:=(uh hX).1.src.byte 13
        have e0:V0=Sn.rs F 0:=by
         rw [←uh hv0,IntKind.wrap_i64]
         show _=if Sn.be (Sn.cut F 0 8)<9223372036854775808 then _ else _
         split <;> omega
        have e1:V1=Sn.rs F 1:=by
         rw [←uh hv1,IntKind.wrap_i64]
         show _=Sn.be (Sn.cut F 8 4)
         omega
        have e2:V2=Sn.rs F 2:=by
         rw [←uh hv2,IntKind.wrap_i64]
         show _=F 12
         have:Sn.be (Sn.cut F 12 1)=F 12:=by simp [Sn.be,Sn.cut]
         omega
        have e3:V3=Sn.rs F 3:=by
         rw [←uh hv3,IntKind.wrap_i64]
         show _=F 13
         have:Sn.be (Sn.cut F 13 1)=F 13:=by simp [Sn.be,Sn.cut]
         omega
        rw [e0,e1,e2,e3]
        rcases (show c=0∨c=1∨c=2∨c=3∨c=4∨c=5∨c=6∨c=7∨c=8∨c=9∨c=10 by omega) with rfl | rfl | rfl | rfl | rfl | rfl | rfl | rfl | rfl | rfl | rfl <;> rfl
       have hfo:Hid (∀vs,Gd.Worlds w (Sn.rs F) (Sn.rg F) (Sn.rc F) (Sn.rE F) (Sn.rI F) (.returned (.agg (Gd.world (Sn.rs F) gC gE gI 384 32 40 (Sn.rg F)))) (wr.setCells P 0 vs)):=fun vs=>by
        have h:=uh hX
        have hE:Lie wr gE 61 352 (En.flat (Sn.rE F)):=h.2.2.1.congr fun c hc=>by
         show Value.int .i64 (Sn.fill (Sn.rE F) 32 (c / 11) (c % 11))=.int .i64 (Sn.rE F (c / 11) (c % 11))
         unfold Sn.fill
         rw [if_pos (by omega)]
        have hI:Lie wr gI 63 160 (Gd.flat (Sn.rI F)):=h.2.2.2.congr fun c hc=>by
         show Value.int .i64 (Sn.fill (Sn.rI F) 40 (c / 4) (c % 4))=.int .i64 (Sn.rI F (c / 4) (c % 4))
         unfold Sn.fill
         rw [if_pos (by omega)]
        exact ⟨gC,gE,gI,384,32,40,rfl,by omega,uh LC,uh LgE,uh LgI,h.2.1.type_ne hE (by decide),h.2.1.type_ne hI (by decide),hE.type_ne hI (by decide),⟨h.2.1.others (h.1.res.type_ne h.2.1 (by decide)) _ _,hE.others (h.1.res.type_ne hE (by decide)) _ _,hI.others (h.1.res.type_ne hI (by decide)) _ _⟩,own_sets h.1.lP vs 0 wr h.1.grown⟩
       obtain ⟨b0,b1,b2,b3,b4,b5,b6,b7,b8,b9,b10⟩:=hbox.eleven
       have fz:=(uh hX).1.res.free
       obtain ⟨z0,z1,z2,z3,z4,z5,z6,z7,z8,z9,z10⟩:=Gd.res_cells (uh hX).1.res
       generalize Sn.rs F=sF at *
       generalize Sn.rg F=gF at *
       clear hbox hX hb5 hge HB5 HB6 HH HZ hv0 hv1 hv2 hv3
       go_wp2
       refine bodyPost_ret (v:=.agg (Gd.world sF gC gE gI 384 32 40 gF)) (by simp [results,Tryz.results40,go_sem,Gd.world,z0,z1,z2,z3,z4,z5,z6,z7,z8,z9,z10]) rfl ?_
       exact uh hfo [_,_,_,_,_,_,_,_,_,_,_]

end Go.Proofs.YtepppmepilffcaaGreat

namespace Go.Proofs.YtepppmepilffcaaGreat

theorem Sn.ent_sane {c:Nat→Int} {E I:Nat→Nat→Int} (hS:Cr.Sane c E I) {k:Nat} (hk:k<32):Sn.entC c E k=0:=by
 have hr:=hS.fit.rows k hk
 have g0:=hr.1
 have g1:=hr.2.1
 unfold Sn.entC
 by_cases h0:E k 0=0
 ·have hz:∀j,j≠1→j<11→E k j=0:=fun j j1 hj=>by
   rcases hr.2.2 with hz | ht
   ·exact hz j hj j1
   ·omega
  have hf:Sn.freeB (E k)=true:=by
   unfold Sn.freeB
   rw [decide_eq_true_eq]
   exact ⟨hz 2 (by omega) (by omega),hz 3 (by omega) (by omega),hz 4 (by omega) (by omega),hz 5 (by omega) (by omega),hz 6 (by omega) (by omega),hz 7 (by omega) (by omega),hz 8 (by omega) (by omega),hz 9 (by omega) (by omega),hz 10 (by omega) (by omega)⟩
  rw [if_pos (by omega),if_pos ⟨g0,g1⟩,if_pos h0,if_pos hf]
 ·have ht:=hr.taken h0
  have hbo:=hS.set.born k hk h0
  obtain ⟨p1,p2,p3,p4,p5⟩:=hS.set.stands.on k hk h0
  have h1:Sn.soundB (E k)=true:=by
   unfold Sn.soundB
   rw [decide_eq_true_eq]
   exact ⟨hbo.1,hbo.2.1,hbo.2.2,by omega,by omega,by omega,by omega,by omega,by omega⟩
  have h2:Sn.aloneB c E k=true:=by
   unfold Sn.aloneB
   have hat:Gr.at 384 c (E k 3) (E k 4)=c (E k 4*24+E k 3).toNat:=Gr.at_in ((Gr.inB_iff _ _).2 (by omega)) (by omega)
   rw [hat,p5,Bool.true_and,decide_eq_true_eq]
   exact En.first_none fun j hj=>by
    by_cases e:E j 0=0
    ·simp [En.atQ,e]
    ·by_cases x3:E j 3=E k 3
     ·by_cases x4:E j 4=E k 4
      ·have:=hS.set.stands.apart j k (by omega) hk e h0 x3 x4
       omega
      ·simp [En.atQ,x4]
     ·simp [En.atQ,x3]
  have h3:Sn.seatedB E k=true:=by
   unfold Sn.seatedB
   by_cases k1:E k 0=1
   ·rw [if_pos k1,decide_eq_true_eq]
    have hs:=hS.seats.seat k hk k1
    refine ⟨by omega,by omega,En.first_none fun j hj=>?_⟩
    by_cases e:E j 0=1
    ·by_cases x:E j 2=E k 2
     ·have:=hS.seats.one j k (by omega) hk e k1 x
      omega
     ·simp [En.heroQ,x]
    ·simp [En.heroQ,e]
   ·rw [if_neg k1,decide_eq_true_eq]
    exact hS.seats.none k hk h0 k1
  rw [if_pos (by omega),if_pos ⟨g0,g1⟩,if_neg h0,if_pos ⟨h1,h2,h3⟩]

theorem Sn.head_good {s g c:Nat→Int} {E I:Nat→Nat→Int} (hG:Cr.Good ⟨s,g,c,E,I⟩) (a1:0≤s 1) (a2:s 1<1073741824):Sn.headB s g=true:=by
 have f1:1≤s 2:=hG.f1
 have f3:s 2≤3:=hG.f3
 have s0:0≤s 3:=hG.s0
 have s2:s 3≤2:=hG.s2
 unfold Sn.headB Sn.numB
 rw [Bool.and_eq_true,decide_eq_true_eq]
 refine ⟨Sn.goldsB_of fun t ht=>?_,⟨a1,a2,f1,f3,s0,s2⟩⟩
 unfold Sn.goldB
 rw [decide_eq_true_eq]
 exact hG.gold t ht

theorem Sn.chk_good {s g c:Nat→Int} {E I:Nat→Nat→Int} (hG:Cr.Good ⟨s,g,c,E,I⟩) (a1:0≤s 1) (a2:s 1<1073741824):Sn.Chk s g c E I 0:=by
 obtain ⟨u,hu,hfu,hcu,hu1⟩:=Cr.up_stair hG.floor
 obtain ⟨u',d,hu'',hd,h3,h4⟩:=hG.floor.stairs
 unfold Sn.Chk
 rw [if_pos (Sn.head_good hG a1 a2),if_pos (Sn.mx_le.2 fun i _=>(hG.floor.five i).2),if_pos ⟨Sn.cnt_one hcu hu (fun i _ e=>hu1 i e),Sn.cnt_one ((h4 d).2 rfl) hd (fun i _ e=>(h4 i).1 e)⟩,if_pos (Sn.rowC_zero fun k hk=>Sn.ent_sane hG.sane hk)]
 exact .inl ⟨rfl,hG.sane.fit.ok⟩

end Go.Proofs.YtepppmepilffcaaGreat
