import Derived.Test.YtldgbkjceildfaaGreatCu52
import Derived.Test.YtldgbkjceildfaaGreatCu53
import Derived.Test.YtldgbkjceildfaaGreatCu54
namespace Go.Proofs.YtldgbkjceildfaaGreat
open Go.RowKit

set_option maxRecDepth 16000 in
set_option maxHeartbeats 25600000 in
theorem saveCuts_any (a0:Int) (a1 a2 a3:Option Addr) (len1 cap1 len2 cap2 len3 cap3:Nat) (a4:Int) (V:Nat→Option Addr × Nat × Nat) (z:Nat→Nat→Int) (z2 z3:Nat→Int) (w:World) (w0:(Lit.int .i64 a0).wf=true) (hC:Cr.Came w a1 len1 V z) (hv2:Vec w.heap.size w a2 len2 (fun i=>.int .i64 (z2 i))) (hb2:∀i,-9223372036854775808≤z2 i∧z2 i≤9223372036854775807) (hv3:Vec w.heap.size w a3 len3 (fun i=>.int .i64 (z3 i))) :
  Calls Tryz.prog 4 #[.int .i64 a0,.slice a1 len1 cap1,.slice a2 len2 cap2,.slice a3 len3 cap3,.int .i64 a4] w fun e w'=>e=.returned (.bool true)∧Below w.heap.size w w':=by
 have hz:=hide (Sv.wfs w0)
 have hC':=hide hC
 have HV2:=hide hv2
 have HB2:=hide hb2
 have HV3:=hide hv3
 have e2:(len2:Int)≤9223372036854775807:=by have:=hv2.1;unfold maxLen at this;omega
 have e3:(len3:Int)≤9223372036854775807:=by have:=hv3.1;unfold maxLen at this;omega
 obtain ⟨m,hm,hm10⟩:∃k:Nat,a4 % 10=(k:Int)∧k<10:=⟨(a4 % 10).toNat,by omega,by omega⟩
 have cw4:=hide (fun x=>within14_any a4 10 x (by omega) (by omega))
 rw [hm] at cw4
 have cwc:=hide (fun (a:Int) x=>within14_any a 46 x (by omega) (by omega))
 clear w0 hC hv2 hb2 hv3 hm
 go_enter Tryz.func4,Tryz.ntmps4
 go_wp2_with fail
 refine (known14_any _).mono ?_
 rintro e x1 ⟨rfl,hg1⟩
 have cs:=hide (story_any a0 a1 len1 cap1 V z x1 ((uh hC').on hg1))
 have G1:=hide hg1
 clear hg1
 go_wp2_with fail
 refine (uh cs).mono ?_
 rintro e x2 ⟨v,base0,L,rfl,hbase,hL0,hL31,hBk,hg2⟩
 have HL0:=hide (And.intro hL0 hL31)
 have BK:=hide hBk
 have G2:=hide (gtr (uh G1) hg2)
 clear cs hbase hL0 hL31 hBk hg2 G1 hC'
 go_wp2_with fail
 refine (uh cw4 _).mono ?_
 rintro e xq ⟨rfl,hq⟩
 obtain rfl:x2=xq:=hq.symm
 clear hq cw4
 obtain ⟨n,hn⟩:∃n:Nat,40+m=n:=⟨_,rfl⟩
 have hn1:(40:Int)+(m:Int)=(n:Int):=by omega
 have hnw:IntKind.i64.wrap (n:Int)=(n:Int):=by rw [IntKind.wrap_i64];omega
 have HN:Hid (40≤n∧n≤60):=⟨by omega,by omega⟩
 have cN:=hide (Dk.mine_new n x2 (by have:=(uh HN).1;omega) (by have:=(uh HN).2;omega))
 clear hn hm10
 go_wp2_with fail
 refine (uh cN).mono ?_
 rintro e x3 ⟨p,bm,rfl,hM,hg3⟩
 have lo:Hid (w.heap.size≤p∧w.heap.size≤bm):=⟨Nat.le_trans (uh G2).size hM.low,Nat.le_trans (uh G2).size hM.lowb⟩
 have R3:Hid (Sv.Row w x3 base0 x2.heap.size p bm n Dk.fresh none v a0 L x1):=⟨⟨hM,Sv.fresh_tells,fun C e=>(by cases e),by simp [Dk.fresh]⟩,(uh BK).on hg3,gtr (uh G2) hg3,rfl⟩
 clear cN hM hg3 BK G2 hn1 hnw
 obtain ⟨x4,hx4⟩:∃x,x=x3.alloc (.cells Sv.void 33):=⟨_,rfl⟩
 have hg4:x3.grownBy x4 none:=by rw [hx4];exact World.grownBy_alloc _ _ _
 obtain ⟨T,hT0⟩:∃B,x3.heap.size=B:=⟨_,rfl⟩
 have hTw:Hid (w.heap.size≤T):=(show w.heap.size≤T by have:=(uh R3).grown.size;omega)
 have H0:Hid (∃st o,Sv.Row w x4 base0 x2.heap.size p bm n st o v a0 L x1∧st.done≤16*0∧Sv.Now x4 T false o):=⟨Dk.fresh,none,(uh R3).on hg4,by simp [Dk.fresh],.inl ⟨rfl,rfl,by rw [hx4,←hT0];exact Sv.void_lie x3⟩⟩
 clear hg4 R3
 unfold Sv.void at hx4
 go_upto_region 9 with fail
 rw [←hx4]
 clear hx4 hT0 x3
 go_wp2_with fail
 go_loopw [14,16,17,18,19,20,21,22,23,24,25,26,27] (fun v14 v16 _ _ _ _ _ _ _ _ _ _ _ wr=>∃(i:Nat) (had:Bool),i≤15∧i≤len2∧v14=.bool had∧v16=.int .i64 (i:Int)∧Hid (∃st o,Sv.Row w wr base0 x2.heap.size p bm n st o v a0 L x1∧st.done≤16*i∧Sv.Now wr T had o)) (fun _ v16 _ _ _ _ _ _ _ _ _ _ _ _=>20 - (intOf v16).toNat)
 case atStart=>exact ⟨0,false,by omega,Nat.zero_le _,rfl,rfl,H0⟩
 case round =>
  clear H0
  obtain ⟨i,had,hi15,hil,rfl,rfl,hX⟩:=hrel
  obtain ⟨st,o,hR,hdn,hNow⟩:=uh hX
  clear hX
  by_cases hlt:i<len2∧i<15
  case neg =>
   have hfin:=hide (none_below hR.grown)
   by_cases h1:i<len2
   ·have h1':(i:Int)<(len2:Int):=by omega
    have h2':¬(i:Int)<15:=by omega
    clear hlt h1 hR hi15 hil hNow
    go_wp2
    go_ret
    exact ⟨rfl,uh hfin⟩
   ·have h1':¬(i:Int)<(len2:Int):=by omega
    clear hlt h1 hR hi15 hil hNow
    go_wp2
    go_ret
    exact ⟨rfl,uh hfin⟩
  have hlt1:(i:Int)<(len2:Int):=by omega
  have hlt2:(i:Int)<15:=by omega
  have HL:=hide hlt
  obtain ⟨b2,o2,rfl,hb2,hc2⟩:∃b off,a2=some ⟨b,off,none⟩∧b<w.heap.size∧∀i,i<len2→w.cell? ⟨b,off+i,none⟩=some (.int .i64 (z2 i)):=by
   obtain ⟨_,h0 | h⟩:=uh HV2
   ·omega
   ·exact h
  have u2:wr.cell? ⟨b2,o2+i,none⟩=some (.int .i64 (z2 i)):=(gce hR.grown b2 (o2+i) hb2 (by simp)).trans (hc2 i hlt.1)
  have cc:=hide (svCampaign_any hR.book (uh HL0).1 (uh HL0).2 (uh hz) (z2 i) (uh HB2 i))
  have R1:=hide hR
  have NW:=hide hNow
  have HDN:=hide hdn
  obtain ⟨zz,hzz⟩:∃q,z2 i=q:=⟨_,rfl⟩
  rw [hzz] at cc u2
  clear hlt hi15 hil hR hdn hNow hb2 hc2 hzz
  go_wp2_with fail
  refine (uh cc).mono ?_
  rintro e y1 ⟨C,gC,gE,gI,cC,cE,cI,rfl,hcE,hL,hok,hg1⟩
  obtain ⟨y2,hy2⟩:∃x,x=y1.alloc (.cells (Sv.camp C.s gC gE gI cC cE cI C.g C.t) 33):=⟨_,rfl⟩
  have hg2:y1.grownBy y2 none:=by rw [hy2];exact World.grownBy_alloc _ _ _
  obtain ⟨B,hB⟩:∃B,y1.heap.size=B:=⟨_,rfl⟩
  have hBT:Hid (B≠T):=by
   obtain ⟨K,hK⟩:=((uh NW).on hg1).some
   have:=hK.lt
   show B≠T
   omega
  have hBx:Hid (Lie y2 B 33 15 (Sv.box C.s gC gE gI cC cE cI C.g C.t)):=by
   show Lie y2 _ _ _ _
   rw [hy2,←hB]
   exact Sv.camp_lie (heap_alloc_new y1 _)
  have R2:=hide ((uh R1).on (gtr hg1 hg2))
  have N2:=hide ((uh NW).on (gtr hg1 hg2))
  have L2:=hide (hL.on hg2)
  have HOK:=hide hok
  have HCE:=hide hcE
  clear cc hcE hL hok hg1 hg2 R1 NW u2
  unfold Sv.camp at hy2 ⊢
  go_upto_region 13 with fail
  rw [←hy2]
  clear hy2 hB y1
  go_upto_if 61 with fail
  go_cut [18] from 61 to 67 (fun v18 wx=>∃c:Int,v18=.int .i64 c∧Hid (-4≤c∧c≤41)∧wx=y2)
  case first =>
   by_cases hc:i<len3
   ·have hc':(i:Int)<(len3:Int):=by omega
    obtain ⟨b3,o3,rfl,hb3,hc3⟩:∃b off,a3=some ⟨b,off,none⟩∧b<w.heap.size∧∀i,i<len3→w.cell? ⟨b,off+i,none⟩=some (.int .i64 (z3 i)):=by
     obtain ⟨_,h0 | h⟩:=uh HV3
     ·omega
     ·exact h
    have u3:y2.cell? ⟨b3,o3+i,none⟩=some (.int .i64 (z3 i)):=(gce (uh R2).grown b3 (o3+i) hb3 (by simp)).trans (hc3 i hc)
    have cw:=uh cwc (z3 i) y2
    obtain ⟨k,hk,hk46⟩:∃k:Nat,z3 i % 46=(k:Int)∧k<46:=⟨(z3 i % 46).toNat,by omega,by omega⟩
    rw [hk] at cw
    have CW:=hide cw
    obtain ⟨zz,hzz⟩:∃q,z3 i=q:=⟨_,rfl⟩
    rw [hzz] at CW u3
    have hkw:(k:Int)<46:=by omega
    have hcc:Hid (-4≤(k:Int) - 4∧(k:Int) - 4≤41):=⟨by omega,by omega⟩
    clear hc hb3 hc3 hk hk46 cw hzz
    go_wp2_with fail
    refine (uh CW).mono ?_
    rintro e xq ⟨rfl,hq⟩
    obtain rfl:y2=xq:=hq.symm
    clear CW hq
    go_wp2_with fail
    go_meet
    exact ⟨_,rfl,hcc,rfl⟩
   ·have hc':¬(i:Int)<(len3:Int):=by omega
    clear hc
    go_wp2_with fail
    go_meet
    exact ⟨-1,rfl,⟨by decide,by decide⟩,rfl⟩
  case rest =>
   obtain ⟨c,rfl,hcb,rfl⟩:=hcut
   have A2:Hid (Sv.At w wc base0 x2.heap.size p bm n st o o v a0 L x1 T had B C gC gE gI cC cE cI):=⟨(uh R2).disk,(uh R2).book,(uh R2).grown,uh N2,uh hBx,uh L2⟩
   have HDE:=hide (uh R2).dead
   have cW:=hide (dkWrites_any x2.heap.size p bm n st.f st.done st.left st.dead wc (uh R2).disk.mine)
   have cC':=hide ((uh R2).disk.cut c (by have:=uh hcb;omega))
   clear R2 N2 hBx L2
   go_wp2_with fail
   refine (uh cW).mono ?_
   rintro e xq ⟨rfl,hq⟩
   obtain rfl:wc=xq:=hq.symm
   clear cW hq
   go_wp2_with fail
   refine (uh cC').mono ?_
   rintro e y3 ⟨rfl,hD3,ht3⟩
   have A3:=hide ((uh A2).next (uh lo) hD3 ht3)
   have cv:=hide (Sv.Disk.save (cC:=cC) (cE:=cE) (cI:=cI) hD3 (uh HN).1 (uh HDE) (by have:=uh HDN;have:=uh HL;show st.done≤1073741824;omega) (uh HOK) (uh HCE) (uh A3).lists)
   obtain ⟨⟨b0,b1,b2,b3,b4,b5,b6,b7,b8,b9,b10⟩,b11,b12,b13,b14⟩:=Sv.fifteen (uh A3).camp
   clear cC' hD3 ht3 A2
   unfold Sv.camp at cv
   go_wp2_with fail
   refine (uh cv).mono ?_
   rintro e y4 ⟨r,st',o',rfl,hD4,hK,ht4⟩
   have A4:=hide ((uh A3).next (uh lo) hD4 ht4)
   obtain ⟨dn,hdn⟩:∃dn,st'.done=st.done+dn:=⟨st'.done - st.done,by have:=hK.low;simp at this;omega⟩
   have DN:Hid (dn≤16∧st'.done≤16*(i+1)):=⟨by have:=hK.high;simp at this;omega,by have:=hK.high;simp at this;have:=uh HDN;omega⟩
   have hdd:((st'.done:Nat):Int) - (st.done:Int)=(dn:Int):=by omega
   have hdw:IntKind.i64.wrap (dn:Int)=(dn:Int):=by rw [IntKind.wrap_i64];have:=(uh DN).1;omega
   have hd40:¬(40:Int)<(dn:Int):=by have:=(uh DN).1;omega
   have cW:=hide (dkWrites_any x2.heap.size p bm n st'.f st'.done st'.left st'.dead y4 hD4.mine)
   have cs0:=hide hD4.start
   clear cv hdn b0 b1 b2 b3 b4 b5 b6 b7 b8 b9 b10 b11 b12 b13 b14 A3
   rcases hK.way with ⟨rfl,hdead,rfl,-⟩ | ⟨rfl,hdead,rfl,hc0⟩
   case inl =>
    clear hD4 hK ht4 hdead cs0
    go_wp2_with fail
    refine (uh cW).mono ?_
    rintro e xq ⟨rfl,hq⟩
    obtain rfl:y4=xq:=hq.symm
    clear cW hq
    go_upto_if 99 with fail
    go_cut [22,23] from 99 to 112 (fun _ _ wx=>wx=y4)
    case first =>
     go_wp2_with fail
     go_meet
     exact rfl
    case rest =>
     obtain rfl:=hcut
     rename_i Kx Ax
     refine Ax _ _ ?_
     refine saveCuts_ok _ _ _ _ _ _ _ _ _ _ _ _ _ _ _ _ _ _ _ _ _ _ _ _ _ _ _ A4 lo hTw hBT HN HOK DN ?_
     intro h g24 g25 g26 g27 g113 g114 g115 g116 g117 g118 g119 g120 g121 g122 g123 g124 g125 g126 g127 g128 g129 g130 g131 g132 g133 g134 g135 g136 g137 g138 g139 g140 g141 g142 g143 g144 g145 g146 g147 g148 g149 g150 g151 g152 g153 g154 g155 g156 g157 g158 g159 g160 g161 g162 g163 g164 g165 g166 g167 g168 g169 z hX
     have hfin:=hide hX
     clear hX
     go_wp2
     go_roundw
     case rel=>exact ⟨i+1,h,by have:=uh HL;omega,by have:=uh HL;omega,rfl,by go_num,hfin⟩
     case measure=>simp [intOf];have:=uh HL;omega
   case inr =>
    have hcn:¬c<0:=by have h:(0:Int)≤c:=hc0;omega
    have cl0:=hide (hD4.load_dead (uh HN).1 hdead)
    have HDD:=hide hdead
    clear hD4 hK ht4 hdead hc0 cs0
    go_wp2_with fail
    refine (uh cW).mono ?_
    rintro e xq ⟨rfl,hq⟩
    obtain rfl:y4=xq:=hq.symm
    clear cW hq
    go_upto_if 99 with fail
    go_cut [22,23] from 99 to 112 (fun _ _ wx=>Hid (Sv.At w wx base0 x2.heap.size p bm n st' o' o' v a0 L x1 T had B C gC gE gI cC cE cI))
    case first =>
     go_wp2_with fail
     refine (uh cl0).mono ?_
     rintro e z1 ⟨rfl,hz1⟩
     obtain ⟨z2,hz2⟩:∃x,x=z1.alloc (.cells Sv.void 33):=⟨_,rfl⟩
     have hg2:z1.grownBy z2 none:=by rw [hz2];exact World.grownBy_alloc _ _ _
     obtain ⟨D0,hD0⟩:∃B,z1.heap.size=B:=⟨_,rfl⟩
     have A5:=hide ((uh A4).on (gtr hz1 hg2))
     have cv:=hide ((uh A5).disk.save_dead (cC:=cC) (cE:=cE) (cI:=cI) (uh HN).1 (uh HDD) (by have:=(uh DN).2;have:=uh HL;omega) (uh HOK) (uh HCE) (uh A5).lists)
     obtain ⟨⟨b0,b1,b2,b3,b4,b5,b6,b7,b8,b9,b10⟩,b11,b12,b13,b14⟩:=Sv.fifteen (uh A5).camp
     clear cl0 hz1 hg2 A4
     unfold Sv.void at hz2 ⊢
     unfold Sv.camp at cv
     go_upto_region 24 with fail
     rw [←hz2]
     clear hz2 hD0 z1
     go_wp2_with fail
     refine (uh cv).mono ?_
     rintro e y4' ⟨rfl,hD5,ht5⟩
     have A5':=hide ((uh A5).next (uh lo) hD5 ht5)
     clear cv hD5 ht5 A5 b0 b1 b2 b3 b4 b5 b6 b7 b8 b9 b10 b11 b12 b13 b14
     go_wp2_with fail
     go_meet
     exact A5'
    case rest =>
     have A5:=hide (uh hcut)
     clear hcut
     cases o' with
     | none =>
      rename_i Kx Ax
      refine Ax _ _ ?_
      refine saveCuts_none _ _ _ _ _ _ _ _ _ _ _ _ _ _ _ _ _ _ _ _ _ _ _ _ _ _  A5 lo  HN  DN ?_
      intro h g24 g25 g26 g27 g113 g114 g115 g116 g117 g118 g119 g120 g121 g122 g123 g124 g125 g126 g127 g128 g129 g130 g131 g132 g133 g134 g135 g136 g137 g138 g139 g140 g141 g142 g143 g144 g145 g146 g147 g148 g149 g150 g151 g152 g153 g154 g155 g156 g157 g158 g159 g160 g161 g162 g163 g164 g165 g166 g167 g168 g169 z hX
      have hfin:=hide hX
      clear hX
      go_wp2
      go_roundw
      case rel=>exact ⟨i+1,h,by have:=uh HL;omega,by have:=uh HL;omega,rfl,by go_num,hfin⟩
      case measure=>simp [intOf];have:=uh HL;omega
     | some D =>
      cases hal:Sv.alike D C with
      | false =>
       rename_i Kx Ax
       refine Ax _ _ ?_
       refine saveCuts_false _ _ _ _ _ _ _ _ _ _ _ _ _ _ _ _ _ _ _ _ _ _ _ _ _ _ _ hal A5 lo  HN HOK DN ?_
       intro h g24 g25 g26 g27 g113 g114 g115 g116 g117 g118 g119 g120 g121 g122 g123 g124 g125 g126 g127 g128 g129 g130 g131 g132 g133 g134 g135 g136 g137 g138 g139 g140 g141 g142 g143 g144 g145 g146 g147 g148 g149 g150 g151 g152 g153 g154 g155 g156 g157 g158 g159 g160 g161 g162 g163 g164 g165 g166 g167 g168 g169 z hX
       have hfin:=hide hX
       clear hX
       go_wp2
       go_roundw
       case rel=>exact ⟨i+1,h,by have:=uh HL;omega,by have:=uh HL;omega,rfl,by go_num,hfin⟩
       case measure=>simp [intOf];have:=uh HL;omega
      | true =>
       by_cases hdp:0<dn
       ·have hdz:(0:Int)<(dn:Int):=by omega
        clear hdp
        rename_i Kx Ax
        refine Ax _ _ ?_
        refine saveCuts_set _ _ _ _ _ _ _ _ _ _ _ _ _ _ _ _ _ _ _ _ _ _ _ _ _ _ _ hal hdz A5 lo hTw hBT HN HOK DN ?_
        intro h g10 g24 g25 g26 g27 g113 g114 g115 g116 g117 g118 g119 g120 g121 g122 g123 g124 g125 g126 g127 g128 g129 g130 g131 g132 g133 g134 g135 g136 g137 g138 g139 g140 g141 g142 g143 g144 g145 g146 g147 g148 g149 g150 g151 g152 g153 g154 g155 g156 g157 g158 g159 g160 g161 g162 g163 g164 g165 g166 g167 g168 g169 z hX
        have hfin:=hide hX
        clear hX
        go_wp2
        go_roundw
        case rel=>exact ⟨i+1,h,by have:=uh HL;omega,by have:=uh HL;omega,rfl,by go_num,hfin⟩
        case measure=>simp [intOf];have:=uh HL;omega
       ·have hdz:¬(0:Int)<(dn:Int):=by omega
        clear hdp
        rename_i Kx Ax
        refine Ax _ _ ?_
        refine saveCuts_keep _ _ _ _ _ _ _ _ _ _ _ _ _ _ _ _ _ _ _ _ _ _ _ _ _ _ _ hal hdz A5 lo  HN HOK DN ?_
        intro h g24 g25 g26 g27 g113 g114 g115 g116 g117 g118 g119 g120 g121 g122 g123 g124 g125 g126 g127 g128 g129 g130 g131 g132 g133 g134 g135 g136 g137 g138 g139 g140 g141 g142 g143 g144 g145 g146 g147 g148 g149 g150 g151 g152 g153 g154 g155 g156 g157 g158 g159 g160 g161 g162 g163 g164 g165 g166 g167 g168 g169 z hX
        have hfin:=hide hX
        clear hX
        go_wp2
        go_roundw
        case rel=>exact ⟨i+1,h,by have:=uh HL;omega,by have:=uh HL;omega,rfl,by go_num,hfin⟩
        case measure=>simp [intOf];have:=uh HL;omega

end Go.Proofs.YtldgbkjceildfaaGreat
