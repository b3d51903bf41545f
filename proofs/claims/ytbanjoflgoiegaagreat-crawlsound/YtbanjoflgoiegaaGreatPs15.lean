import Derived.Test.YtbanjoflgoiegaaGreatPs14
import Derived.Deep.RegionWith
namespace Go.Proofs.YtbanjoflgoiegaaGreat
open Go.RowKit

def Nv.st (E:Nat→Nat→Int) (n:Nat) (c:Nat):Bool:=decide (0≤En.first (En.atQ E ((c % 24:Nat):Int) ((c / 24:Nat):Int)) n)

def Nv.stTo (E:Nat→Nat→Int) (n:Nat):Nat→Nat→Bool
 | 0,_=>false
 | k+1,c=>if Nv.num (E k 3) (E k 4)=(c:Int) then decide (0≤En.first (En.atQ E (E k 3) (E k 4)) n) else Nv.stTo E n k c

theorem Nv.num_at {x y:Int} {c:Nat} (h:Nv.num x y=(c:Int)):x=((c % 24:Nat):Int)∧y=((c / 24:Nat):Int)∧c<384:=by
 unfold Nv.num at h
 split at h
 ·rename_i hin
  rw [Gr.inB_iff] at hin
  omega
 ·omega

theorem Nv.num_of {c:Nat} (hc:c<384):Nv.num ((c % 24:Nat):Int) ((c / 24:Nat):Int)=(c:Int):=by
 unfold Nv.num
 rw [if_pos (by rw [Gr.inB_iff];omega)]
 omega

theorem Nv.stTo_eq (E:Nat→Nat→Int) (n:Nat) (c:Nat):∀k,(Nv.stTo E n k c=true→Nv.st E n c=true)∧((∃j,j<k∧Nv.num (E j 3) (E j 4)=(c:Int))→Nv.stTo E n k c=Nv.st E n c)
  | 0=>⟨fun h=>by simp [Nv.stTo] at h,fun ⟨j,h,_⟩=>by omega⟩
  | k + 1 => by
      obtain ⟨h1,h2⟩:=Nv.stTo_eq E n c k
      unfold Nv.stTo
      by_cases e:Nv.num (E k 3) (E k 4)=(c:Int)
      · rw [if_pos e]
        obtain ⟨ex,ey,_⟩:=Nv.num_at e
        have:decide (0≤En.first (En.atQ E (E k 3) (E k 4)) n)=Nv.st E n c:=by unfold Nv.st;rw [←ex,←ey]
        rw [this]
        exact ⟨id,fun _=>rfl⟩
      · rw [if_neg e]
        refine ⟨h1,fun ⟨j,hj,he⟩=>h2 ⟨j,?_,he⟩⟩
        by_cases ej:j=k
        · subst ej;exact absurd he e
        · omega

theorem Nv.stTo_all (E:Nat→Nat→Int) (n:Nat) (c:Nat) (hc:c<384):Nv.stTo E n n c=Nv.st E n c:=by
 obtain ⟨h1,h2⟩:=Nv.stTo_eq E n c n
 by_cases h:Nv.st E n c=true
 ·refine h2 ?_
  unfold Nv.st at h
  rw [decide_eq_true_eq] at h
  rcases En.first_cases (En.atQ E ((c % 24:Nat):Int) ((c / 24:Nat):Int)) n with ⟨h0,_⟩ | ⟨k,hk,_,hq,_⟩
  ·omega
  ·refine ⟨k,hk,?_⟩
   simp only [En.atQ,Bool.and_eq_true,decide_eq_true_eq] at hq
   rw [hq.2.1,hq.2.2]
   exact Nv.num_of hc
 ·have hn:¬Nv.stTo E n n c=true:=fun e=>h (h1 e)
  rw [Bool.not_eq_true] at h hn
  rw [h,hn]

def Nv.Lst (w:World) (a:Option Addr) (n c:Nat) (E:Nat→Nat→Int):Prop:=n≤32∧n≤c∧(n=0∨∃b,a=some ⟨b,0,none⟩∧Ents w b n E)

def Nv.Words (n:Nat) (E:Nat→Nat→Int):Prop:=∀i,i<n→(-9223372036854775808≤E i 3∧E i 3≤9223372036854775807)∧(-9223372036854775808≤E i 4∧E i 4≤9223372036854775807)

theorem info_bools:(Tryz.prog.info? 4).map (fun i=>(i.zero,i.size,i.bytes))=some (some (.bool false),1,1):=by kernel_rfl

theorem Nv.st_more {E:Nat→Nat→Int} {n k m:Nat} (hm:Nv.num (E k 3) (E k 4)=(m:Int)) (j:Nat):(if j=m then Value.bool (decide (0≤En.first (En.atQ E (E k 3) (E k 4)) n)) else .bool (Nv.stTo E n k j))=.bool (Nv.stTo E n (k+1) j):=by
 show _=Value.bool (if Nv.num (E k 3) (E k 4)=(j:Int) then _ else _)
 rw [hm]
 by_cases e:j=m
 ·rw [if_pos e,if_pos (by omega)]
 ·rw [if_neg e,if_neg (by omega)]

theorem Nv.st_same {E:Nat→Nat→Int} {n k:Nat} (hm:Nv.num (E k 3) (E k 4)=-1) (j:Nat):Nv.stTo E n k j=Nv.stTo E n (k+1) j:=by
 show _=if Nv.num (E k 3) (E k 4)=(j:Int) then _ else _
 rw [hm,if_neg (by omega)]

theorem Nv.num_cases (x y:Int):Nv.num x y=-1∨∃m:Nat,m<384∧Nv.num x y=(m:Int):=by
 unfold Nv.num
 by_cases h:Gr.inB x y=true
 ·rw [if_pos h]
  rw [Gr.inB_iff] at h
  exact .inr ⟨(y*24+x).toNat,by omega,by omega⟩
 ·rw [if_neg h];exact .inl rfl

set_option maxRecDepth 8000 in
set_option maxHeartbeats 1600000 in
theorem taken_any (a:Option Addr) (n c:Nat) (E:Nat→Nat→Int) (w:World) (hL:Nv.Lst w a n c E) (hW:Nv.Words n E) :
  Calls Tryz.prog 165 #[.slice a n c] w (Made w 4 384 (Bols (Nv.st E n))):=by
 have hn:=hL.1
 have hL':=hide hL
 have hW':=hide hW
 obtain ⟨i0,hi,hz0,hz1,hz2⟩:=info_parts info_bools
 clear hL hW
 go_enter Tryz.func165,Tryz.ntmps165
 obtain ⟨G,hG⟩:∃G,G=w.heap.size:=⟨_,rfl⟩
 have hG':=hide hG
 clear hG
 go_wp2_with (at_make;refine wpList_make_full _ rfl _ _ 93 rfl G 4 i0 (.bool false) 1 Tryz.underlying93 hi hz0 hz1 .i64 .i64 _ _ 384 rfl rfl rfl rfl ?q3 ?q4 (Nat.le_of_eq (uh hG')) ?_)
 case q3=>rw [hz2];omega
 case q4=>unfold maxLen;omega
 intro w2 hown hgrow
 rw [←uh hG'] at hown ⊢
 have hA:=hide (Arr.zero hown)
 have hB0:Below G w w2:=(Below.refl _ _).grown hgrow (Nat.le_of_eq (uh hG')) (by intro k hk;cases hk)
 clear hown hgrow hi hz0 hz1 hz2
 go_wp2_with fail
 go_loopw [10] (fun i wr=>∃k:Nat,k≤n∧i=.int .i64 (k:Int)∧Arr wr G 4 384 (Bols (Nv.stTo E n k))∧Below G w wr) (fun i _=>40 - (intOf i).toNat)
 case atStart=>exact ⟨0,Nat.zero_le _,rfl,uh hA,hB0⟩
 case round =>
  obtain ⟨k,hk,rfl,hA1,hB1⟩:=hrel
  have hA2:=hide hA1
  have hB2:=hide hB1
  clear hA1 hA hB0 hB1
  by_cases hlt:k<n
  ·obtain ⟨_,hnc,h0 | ⟨b,rfl,hE⟩⟩:=uh hL'
   ·omega
   have hgr:w.grownBy wr none:=below_grown (by rw [←uh hG'];exact uh hB2)
   obtain ⟨u0,u1,u2,u3,u4,u5,u6,u7,u8,u9,u10⟩:=(hE.on hgr).row hlt
   have hE':=hide (hE.on hgr)
   have hlt':(k:Int)<(n:Int):=by omega
   have HL:=hide hlt
   have hww:=hide (uh hW' k hlt)
   obtain ⟨X,hX⟩:∃X,X=E k 3:=⟨_,rfl⟩
   obtain ⟨Y,hY⟩:∃Y,Y=E k 4:=⟨_,rfl⟩
   rw [←hX] at u3
   rw [←hY] at u4
   rw [←hX,←hY] at hww
   have hX':=hide hX
   have hY':=hide hY
   clear hE hgr hlt hX hY
   go_wp2_with fail
   refine (point_any _ _ _).mono ?_
   rintro e w1 ⟨rfl,rfl⟩
   go_wp2_with fail
   obtain ⟨⟨x1,x2⟩,y1,y2⟩:=uh hww
   refine (numberAt_any X Y _ x1 x2 y1 y2).mono ?_
   rintro e w1 ⟨rfl,rfl⟩
   clear x1 x2 y1 y2
   clear u0 u1 u2 u3 u4 u5 u6 u7 u8 u9 u10
   rcases Nv.num_cases X Y with hm | ⟨m,hm,hme⟩
   ·rw [hm]
    have hs:Hid (∀j,Nv.stTo E n k j=Nv.stTo E n (k+1) j):=fun j=>Nv.st_same (by rw [←uh hX',←uh hY'];exact hm) j
    clear hm
    go_wp2
    go_roundw
    case rel=>exact ⟨k+1,by have:=uh HL;omega,by go_num,((uh hA2).alloc _).congr fun j _=>by show Value.bool _=Value.bool _;rw [uh hs j],(uh hB2).alloc (Nat.le_of_lt (uh hA2).lt) _⟩
    case measure=>have:=uh HL;simp [intOf];omega
   ·rw [hme]
    have hs:Hid (∀j,(if j=m then Value.bool (decide (0≤En.first (En.atQ E X Y) n)) else .bool (Nv.stTo E n k j))=.bool (Nv.stTo E n (k+1) j)):=fun j=>by
     rw [uh hX',uh hY']
     exact Nv.st_more (by rw [←uh hX',←uh hY'];exact hme) j
    have hm':(m:Int)<384:=by omega
    have HM:=hide hm
    clear hm hme
    go_wp2_with fail
    refine (entAt_any b n c E X Y _ ((uh hE').on (World.grownBy_alloc _ _ _)) hnc).mono ?_
    rintro e w1 ⟨rfl,hg⟩
    have hg1:=gtr (World.grownBy_alloc _ _ _) hg
    have hA3:=hide ((uh hA2).grown hg1 (by simp))
    have hB3:Hid (Below G w w1):=(uh hB2).trans (none_below hg1 |>.mono (Nat.le_of_lt (uh hA2).lt))
    have hcc:=(uh hA3).cell (uh HM)
    have hff:=(uh hA3).free m
    generalize En.first (En.atQ E X Y) n=r at hs
    clear hg hg1
    go_wp2
    go_roundw
    case rel=>exact ⟨k+1,by have:=uh HL;omega,by go_num,((uh hA3).store m _).congr fun j _=>uh hs j,(uh hB3).setCell (Nat.le_refl _) _⟩
    case measure=>have:=uh HL;simp [intOf];omega
  ·have hge:¬(k:Int)<(n:Int):=by omega
   obtain rfl:k=n:=by omega
   have hA3:=hide ((uh hA2).congr (G:=Bols (Nv.st E k)) fun j hj=>by show Value.bool _=Value.bool _;rw [Nv.stTo_all E k j hj])
   clear hA2 hk hlt
   go_wp2
   go_ret
   exact ⟨G,rfl,Nat.le_of_eq (uh hG').symm,uh hA3,by rw [←uh hG'];exact uh hB2⟩


open Go.RowKit

theorem Gd.ware_hit {I:Nat→Nat→Int} {n k:Nat} (hno:∀j:Nat,j<k→decide (0≤Gd.find I n 4 (j:Int) 0)=false) (hk:0≤Gd.find I n 4 (k:Int) 0) (h3:k<3):Gd.ware I n=Gd.find I n 4 (k:Int) 0:=by
 unfold Gd.ware
 rw [En.first_hit (q:=fun k:Nat=>decide (0≤Gd.find I n 4 (k:Int) 0)) hno (decide_eq_true hk) h3,if_pos (by omega)]

theorem Gd.ware_none {I:Nat→Nat→Int} {n:Nat} (hno:∀j:Nat,j<3→decide (0≤Gd.find I n 4 (j:Int) 0)=false):Gd.ware I n=-1:=by
 unfold Gd.ware
 rw [En.first_none (q:=fun k:Nat=>decide (0≤Gd.find I n 4 (k:Int) 0)) hno,if_neg (by omega)]

structure Gd.Near (x:World) (B gC gE gI cC cI k s:Nat) (X Y G:Int):Prop where
 lB:B<x.heap.size
 lE:gE<x.heap.size
 k32:k<32
 s4:s<4
 b4:x.cell? ⟨B,4,none⟩=some (.slice (some ⟨gC,0,none⟩) 384 cC)
 b6:x.cell? ⟨B,6,none⟩=some (.slice (some ⟨gI,0,none⟩) 40 cI)
 b7:x.cell? ⟨B,7+s,none⟩=some (.int .i64 G)
 e2:x.cell? ⟨gE,k*11+2,none⟩=some (.int .i64 (s:Int))
 e3:x.cell? ⟨gE,k*11+3,none⟩=some (.int .i64 X)
 e4:x.cell? ⟨gE,k*11+4,none⟩=some (.int .i64 Y)

theorem Gd.Near.on {x y:World} {B gC gE gI cC cI k s:Nat} {X Y G:Int} (h:Gd.Near x B gC gE gI cC cI k s X Y G) (hg:x.grownBy y none):Gd.Near y B gC gE gI cC cI k s X Y G :=
 have t:=fun (b i:Nat) (hb:b<x.heap.size)=>gce hg b i hb (by simp)
 { lB:=Nat.lt_of_lt_of_le h.lB hg.size,lE:=Nat.lt_of_lt_of_le h.lE hg.size,k32:=h.k32,s4:=h.s4,b4:=(t _ _ h.lB).trans h.b4,b6:=(t _ _ h.lB).trans h.b6,b7:=(t _ _ h.lB).trans h.b7,e2:=(t _ _ h.lE).trans h.e2,e3:=(t _ _ h.lE).trans h.e3,e4:=(t _ _ h.lE).trans h.e4 }

theorem Gd.Hold.near {x:World} {B gC gE gI cC cE cI:Nat} {s g c:Nat→Int} {E I:Nat→Nat→Int} (h:Gd.Hold x B gC gE gI cC cE cI s g c E I) {k t:Nat} (hk:k<32) (ht:t<4) (he:E k 2=(t:Int)):Gd.Near x B gC gE gI cC cI k t (E k 3) (E k 4) (g t) :=
 have r:=h.lists.own.ents.row hk
 { lB:=h.box.lt,lE:=h.lists.ents.lt,k32:=hk,s4:=ht,b4:=h.box.cell (c:=4) (by omega),b6:=h.box.cell (c:=6) (by omega),b7:=by rw [h.box.cell (c:=7+t) (by omega),Gd.box_gold _ _ _ _ _ _ _ _ t ht],e2:=by rw [←he];exact r.2.2.1,e3:=r.2.2.2.1,e4:=r.2.2.2.2.1 }

set_option maxHeartbeats 1600000 in
theorem ware_not (B gC gE gI cC cI k s:Nat) (X Y G A:Int) (w:World) (hN:Gd.Near w B gC gE gI cC cI k s X Y G) (cA:∀m,Calls Tryz.prog 116 #[.slice (some ⟨gC,0,none⟩) 384 cC,.int .i64 X,.int .i64 Y] (w.drewN m) fun e w'=>e=.returned (.int .i64 A)∧w'=w.drewN m) (hA:¬A=5) :
  Calls Tryz.prog 190 #[.pointer (some ⟨B,0,none⟩),.pointer (some ⟨gE,k*11,none⟩)] w (Says w (.int .i64 (-1))):=by
 obtain ⟨lB,lE,k32,s4,b4,b6,b7,e2,e3,e4⟩:=hN
 have s4':(s:Int)<4:=by omega
 have hA':(A == 5)=false:=by simp [hA]
 have hdr:Hid (∀m,w.grownBy (w.drewN m) none):=fun m=>gdw (World.grownBy.refl _ _) m
 go_enter Tryz.func190,Tryz.ntmps190
 go_wp2_with fail
 go_quiet ((go_at_call 116;exact Calls.quiet_of_same (cA _)))
 go_wp2
 go_ret
 exact ⟨rfl,uh hdr _⟩

set_option maxHeartbeats 1600000 in
theorem ware_poor (B gC gE gI cC cI k s:Nat) (X Y G:Int) (w:World) (hN:Gd.Near w B gC gE gI cC cI k s X Y G) (cA:∀m,Calls Tryz.prog 116 #[.slice (some ⟨gC,0,none⟩) 384 cC,.int .i64 X,.int .i64 Y] (w.drewN m) fun e w'=>e=.returned (.int .i64 5)∧w'=w.drewN m) (hG:G<5) :
  Calls Tryz.prog 190 #[.pointer (some ⟨B,0,none⟩),.pointer (some ⟨gE,k*11,none⟩)] w (Says w (.int .i64 (-1))):=by
 obtain ⟨lB,lE,k32,s4,b4,b6,b7,e2,e3,e4⟩:=hN
 have s4':(s:Int)<4:=by omega
 have hdr:Hid (∀m,w.grownBy (w.drewN m) none):=fun m=>gdw (World.grownBy.refl _ _) m
 go_enter Tryz.func190,Tryz.ntmps190
 go_wp2_with fail
 go_quiet ((go_at_call 116;exact Calls.quiet_of_same (cA _)))
 go_wp2
 go_ret
 exact ⟨rfl,uh hdr _⟩

set_option maxHeartbeats 1600000 in
theorem ware_shop (B gC gE gI cC cI k s:Nat) (X Y G:Int) (w:World) (hN:Gd.Near w B gC gE gI cC cI k s X Y G) (cA:∀m,Calls Tryz.prog 116 #[.slice (some ⟨gC,0,none⟩) 384 cC,.int .i64 X,.int .i64 Y] (w.drewN m) fun e w'=>e=.returned (.int .i64 5)∧w'=w.drewN m) (hG:¬G<5) (I:Nat→Nat→Int) (hI:Its w gI 0 40 I) :
  Calls Tryz.prog 190 #[.pointer (some ⟨B,0,none⟩),.pointer (some ⟨gE,k*11,none⟩)] w (Says w (.int .i64 (Gd.ware I 40))):=by
 have hN':=hide hN
 have hI':=hide hI
 obtain ⟨lB,lE,k32,s4,b4,b6,b7,e2,e3,e4⟩:=hN
 have s4':(s:Int)<4:=by omega
 have hdr:Hid (∀m,w.grownBy (w.drewN m) none):=fun m=>gdw (World.grownBy.refl _ _) m
 clear hI
 go_enter Tryz.func190,Tryz.ntmps190
 go_wp2_with fail
 go_quiet ((go_at_call 116;exact Calls.quiet_of_same (cA _)))
 obtain ⟨wq,hwq⟩:∃wq,w.drewN nq=wq:=⟨_,rfl⟩
 have hgq:=hide (uh hdr nq)
 rw [hwq] at hgq ⊢
 clear b4 b6 b7 e2 e3 e4 cA hdr hwq
 go_wp2_with fail
 go_loopw [33] (fun i wr=>∃j:Nat,j≤3∧i=.int .i64 (j:Int)∧(∀t:Nat,t<j→decide (0≤Gd.find I 40 4 (t:Int) 0)=false)∧w.grownBy wr none) (fun i _=>200 - (intOf i).toNat)
 case atStart=>exact ⟨0,by omega,rfl,fun j hj=>by omega,uh hgq⟩
 case round =>
  obtain ⟨j,hj,rfl,hno,hgr⟩:=hrel
  have hno':=hide hno
  have hgr':=hide hgr
  clear hno hgr
  by_cases hlt:j<3
  ·have hlt':(j:Int)<3:=by omega
   have HL:=hide hlt
   have b6:=((uh hN').on (uh hgr')).b6
   have cat:=hide (goodsAt_any gI 40 cI I 4 (j:Int) 0 wr ((uh hI').on (uh hgr')))
   obtain ⟨f,hf⟩:∃f,Gd.find I 40 4 (j:Int) 0=f:=⟨_,rfl⟩
   rw [hf] at cat
   have hf':=hide hf
   clear hlt hf
   go_wp2_with fail
   refine (uh cat).mono ?_
   rintro e w1 ⟨rfl,hg1⟩
   have hg2:=hide (gtr (uh hgr') hg1)
   clear hg1 cat b6
   by_cases hpos:0≤f
   ·have he:=hide ((Gd.ware_hit (uh hno') (by rw [uh hf'];exact hpos) (uh HL)).trans (uh hf'))
    go_wp2
    go_ret
    exact ⟨rti (uh he).symm,uh hg2⟩
   ·have hq:=hide (show decide (0≤Gd.find I 40 4 (j:Int) 0)=false by rw [uh hf'];exact decide_eq_false hpos)
    have hneg:f<0:=by omega
    go_wp2
    go_roundw
    case rel=>exact ⟨j+1,by have:=uh HL;omega,by go_num,fun t ht=>by
     by_cases e:t=j
     ·rw [e];exact uh hq
     ·exact uh hno' t (by omega),uh hg2⟩
    case measure=>simp [intOf];omega
  ·have hge:¬(j:Int)<3:=by omega
   have he:=hide (Gd.ware_none (I:=I) (n:=40) (fun t ht=>uh hno' t (by omega)))
   go_wp2
   go_ret
   exact ⟨rti (uh he).symm,uh hgr'⟩

def Gd.want (I:Nat→Nat→Int) (s X Y:Int) (shop:Bool) (G input:Int):Int :=
 if input=5 then Gd.find I 40 1 X Y
 else if input=10 then (if shop=true∧5≤G then Gd.ware I 40 else -1)
 else if input=8 then (if 0≤Gd.find I 40 1 X Y then -1 else Gd.car I 40 s (fun k=>Gd.serves k 8))
 else if input=6 then Gd.car I 40 s (fun k=>Gd.serves k 6)
 else if input=7 then Gd.car I 40 s (fun k=>Gd.serves k 7)
 else -1

theorem wareSays_any (B gC gE gI cC cI k s:Nat) (X Y G:Int) (c:Nat→Int) (I:Nat→Nat→Int) (w:World) (hN:Gd.Near w B gC gE gI cC cI k s X Y G) (hC:Vec w.heap.size w (some ⟨gC,0,none⟩) 384 (Byts c)) (hc:∀i,0≤c i∧c i≤255) (hI:Its w gI 0 40 I) :
  Calls Tryz.prog 190 #[.pointer (some ⟨B,0,none⟩),.pointer (some ⟨gE,k*11,none⟩)] w (Says w (.int .i64 (if decide (Gr.at 384 c X Y=5)=true∧5≤G then Gd.ware I 40 else -1))):=by
 have cA:=fun m=>at_any w.heap.size (some ⟨gC,0,none⟩) 384 cC c X Y (w.drewN m) (hC.drew m) hc
 by_cases hA:Gr.at 384 c X Y=5
 ·rw [hA] at cA
  by_cases hG:G<5
  ·rw [if_neg (by omega)]
   exact ware_poor B gC gE gI cC cI k s X Y G w hN cA hG
  ·rw [if_pos ⟨by simp [hA],by omega⟩]
   exact ware_shop B gC gE gI cC cI k s X Y G w hN cA hG I hI
 ·rw [if_neg (by simp [hA])]
  exact ware_not B gC gE gI cC cI k s X Y G _ w hN cA hA


open Go.RowKit

set_option maxHeartbeats 3200000 in
theorem wanted_any (B gC gE gI cC cI k s:Nat) (X Y G input:Int) (c:Nat→Int) (I:Nat→Nat→Int) (w:World) (hN:Gd.Near w B gC gE gI cC cI k s X Y G) (hC:Vec w.heap.size w (some ⟨gC,0,none⟩) 384 (Byts c)) (hc:∀i,0≤c i∧c i≤255) (hI:Its w gI 0 40 I) :
  Calls Tryz.prog 180 #[.pointer (some ⟨B,0,none⟩),.pointer (some ⟨gE,k*11,none⟩),.int .i64 input] w (Says w (.int .i64 (Gd.want I (s:Int) X Y (decide (Gr.at 384 c X Y=5)) G input))):=by
 have hN':=hide hN
 have hI':=hide hI
 have hC':=hide hC
 have hc':=hide hc
 obtain ⟨lB,lE,k32,s4,b4,b6,b7,e2,e3,e4⟩:=hN
 obtain ⟨r,hr⟩:∃r,Gd.want I (s:Int) X Y (decide (Gr.at 384 c X Y=5)) G input=r:=⟨_,rfl⟩
 rw [hr]
 have hr':=hide hr
 obtain ⟨f,hf⟩:∃f,Gd.find I 40 1 X Y=f:=⟨_,rfl⟩
 have hf':=hide hf
 clear hI hC hc hr
 go_enter Tryz.func180,Tryz.ntmps180
 go_wp2_with fail
 refine wp_region_grown (by kernel_rfl) (by kernel_rfl) ?_
 intro St hS W hJ hx
 have c6:∀σ,(W σ).cell? ⟨B,6,none⟩=some (.slice (some ⟨gI,0,none⟩) 40 cI):=fun σ=>(gce (hJ σ) B 6 lB (by simp)).trans b6
 have cu:∀σ,Calls Tryz.prog 185 #[.pointer (some ⟨gE,k*11,none⟩)] (W σ) fun e w''=>e=.returned (.agg #[.int .i64 1,.int .i64 X,.int .i64 Y])∧∃σ',w''=W σ':=fun σ=>calls_class hJ hx (under_any gE (k*11) X Y (W σ) ((uh hN').on (hJ σ)).e3 ((uh hN').on (hJ σ)).e4 ((uh hN').on (hJ σ)).lE)
 have ca:∀σ,Calls Tryz.prog 189 #[.slice (some ⟨gI,0,none⟩) 40 cI,.agg #[.int .i64 1,.int .i64 X,.int .i64 Y]] (W σ) fun e w''=>e=.returned (.int .i64 f)∧∃σ',w''=W σ':=fun σ=>by
  have h:=goodsAt_any gI 40 cI I 1 X Y (W σ) ((uh hI').on (hJ σ))
  rw [hf] at h
  exact calls_class hJ hx h
 have hJ':=hide hJ
 clear hJ hx hf b4 b6 b7 e2 e3 e4
 repeat (go_big_quiet_step (first | (go_at_call 185;exact cu _) | (go_at_call 189;exact ca _)))
 refine wpQuiet_nil ?_
 rintro _ ⟨σ,rfl⟩
 obtain ⟨wq,hwq⟩:∃wq,W σ=wq:=⟨_,rfl⟩
 have hgq:=hide (uh hJ' σ)
 rw [hwq] at hgq ⊢
 clear c6 cu ca hJ' hwq
 clear σ W hS St
 by_cases h5:input=5
 ·have he:=hide (show f=r by rw [←uh hr',Gd.want,if_pos h5,uh hf'])
  subst h5
  go_wp2
  go_ret
  exact ⟨rti (uh he),uh hgq⟩
 ·by_cases h10:input=10
  ·have he:=uh hr'
   rw [Gd.want,if_neg h5,if_pos h10] at he
   have cw:=wareSays_any B gC gE gI cC cI k s X Y G c I wq ((uh hN').on (uh hgq)) (((uh hC').kept (none_below (uh hgq))).mono (uh hgq).size) (uh hc') ((uh hI').on (uh hgq))
   rw [he] at cw
   have cw':=hide cw
   subst h10
   clear h5 he cw
   go_wp2_with fail
   refine (uh cw').mono ?_
   rintro e w1 ⟨rfl,hg1⟩
   have hg2:=hide (gtr (uh hgq) hg1)
   clear hg1 cw'
   go_wp2
   go_ret
   exact ⟨rfl,uh hg2⟩
  ·by_cases h8:input=8
   ·have he:=uh hr'
    rw [Gd.want,if_neg h5,if_neg h10,if_pos h8,uh hf'] at he
    subst h8
    clear h5 h10
    by_cases hp:0≤f
    ·rw [if_pos hp] at he
     have he':=hide he
     clear he
     go_wp2
     go_ret
     exact ⟨rti (uh he'),uh hgq⟩
    ·rw [if_neg hp] at he
     have hp':f<0:=by omega
     have cc:=fun x (hx:wq.grownBy x none)=>carried_any gI 40 cI I (s:Int) 8 x ((uh hI').on (gtr (uh hgq) hx))
     rw [he] at cc
     have b6:=((uh hN').on (uh hgq)).b6
     have e2:=((uh hN').on (uh hgq)).e2
     have lB':=((uh hN').on (uh hgq)).lB
     have lE':=((uh hN').on (uh hgq)).lE
     clear he
     go_wp2_with fail
     refine wp_region_grown (by kernel_rfl) (by kernel_rfl) ?_
     intro St hS W hJ hx
     have c6:∀σ,(W σ).cell? ⟨B,6,none⟩=some (.slice (some ⟨gI,0,none⟩) 40 cI):=fun σ=>(gce (hJ σ) B 6 lB' (by simp)).trans b6
     have c2:∀σ,(W σ).cell? ⟨gE,k*11+2,none⟩=some (.int .i64 (s:Int)):=fun σ=>(gce (hJ σ) gE _ lE' (by simp)).trans e2
     have ca:∀σ,Calls Tryz.prog 191 #[.slice (some ⟨gI,0,none⟩) 40 cI,.int .i64 (s:Int),.int .i64 8] (W σ) fun e w''=>e=.returned (.int .i64 r)∧∃σ',w''=W σ':=fun σ=>calls_class hJ hx (cc (W σ) (hJ σ))
     have hJ':=hide hJ
     clear hJ hx b6 e2 cc
     repeat (go_big_quiet_step ((go_at_call 191;exact ca _)))
     refine wpQuiet_nil ?_
     rintro _ ⟨σ,rfl⟩
     obtain ⟨wz,hwz⟩:∃wz,W σ=wz:=⟨_,rfl⟩
     have hgz:=hide (gtr (uh hgq) (uh hJ' σ))
     rw [hwz] at hgz ⊢
     clear c6 c2 ca hJ' hwz
     clear σ W hS St
     go_wp2
     go_ret
     exact ⟨rfl,uh hgz⟩
   ·by_cases h6:input=6
    ·have he:=uh hr'
     rw [Gd.want,if_neg h5,if_neg h10,if_neg h8,if_pos h6] at he
     subst h6
     clear h5 h10 h8
     have cc:=fun x (hx:wq.grownBy x none)=>carried_any gI 40 cI I (s:Int) 6 x ((uh hI').on (gtr (uh hgq) hx))
     rw [he] at cc
     have b6:=((uh hN').on (uh hgq)).b6
     have e2:=((uh hN').on (uh hgq)).e2
     have lB':=((uh hN').on (uh hgq)).lB
     have lE':=((uh hN').on (uh hgq)).lE
     clear he
     go_wp2_with fail
     refine wp_region_grown (by kernel_rfl) (by kernel_rfl) ?_
     intro St hS W hJ hx
     have c6:∀σ,(W σ).cell? ⟨B,6,none⟩=some (.slice (some ⟨gI,0,none⟩) 40 cI):=fun σ=>(gce (hJ σ) B 6 lB' (by simp)).trans b6
     have c2:∀σ,(W σ).cell? ⟨gE,k*11+2,none⟩=some (.int .i64 (s:Int)):=fun σ=>(gce (hJ σ) gE _ lE' (by simp)).trans e2
     have ca:∀σ,Calls Tryz.prog 191 #[.slice (some ⟨gI,0,none⟩) 40 cI,.int .i64 (s:Int),.int .i64 6] (W σ) fun e w''=>e=.returned (.int .i64 r)∧∃σ',w''=W σ':=fun σ=>calls_class hJ hx (cc (W σ) (hJ σ))
     have hJ':=hide hJ
     clear hJ hx b6 e2 cc
     repeat (go_big_quiet_step ((go_at_call 191;exact ca _)))
     refine wpQuiet_nil ?_
     rintro _ ⟨σ,rfl⟩
     obtain ⟨wz,hwz⟩:∃wz,W σ=wz:=⟨_,rfl⟩
     have hgz:=hide (gtr (uh hgq) (uh hJ' σ))
     rw [hwz] at hgz ⊢
     clear c6 c2 ca hJ' hwz
     clear σ W hS St
     go_wp2
     go_ret
     exact ⟨rfl,uh hgz⟩
    ·by_cases h7:input=7
     ·have he:=uh hr'
      rw [Gd.want,if_neg h5,if_neg h10,if_neg h8,if_neg h6,if_pos h7] at he
      subst h7
      clear h5 h10 h8 h6
      have cc:=fun x (hx:wq.grownBy x none)=>carried_any gI 40 cI I (s:Int) 7 x ((uh hI').on (gtr (uh hgq) hx))
      rw [he] at cc
      have b6:=((uh hN').on (uh hgq)).b6
      have e2:=((uh hN').on (uh hgq)).e2
      have lB':=((uh hN').on (uh hgq)).lB
      have lE':=((uh hN').on (uh hgq)).lE
      clear he
      go_wp2_with fail
      refine wp_region_grown (by kernel_rfl) (by kernel_rfl) ?_
      intro St hS W hJ hx
      have c6:∀σ,(W σ).cell? ⟨B,6,none⟩=some (.slice (some ⟨gI,0,none⟩) 40 cI):=fun σ=>(gce (hJ σ) B 6 lB' (by simp)).trans b6
      have c2:∀σ,(W σ).cell? ⟨gE,k*11+2,none⟩=some (.int .i64 (s:Int)):=fun σ=>(gce (hJ σ) gE _ lE' (by simp)).trans e2
      have ca:∀σ,Calls Tryz.prog 191 #[.slice (some ⟨gI,0,none⟩) 40 cI,.int .i64 (s:Int),.int .i64 7] (W σ) fun e w''=>e=.returned (.int .i64 r)∧∃σ',w''=W σ':=fun σ=>calls_class hJ hx (cc (W σ) (hJ σ))
      have hJ':=hide hJ
      clear hJ hx b6 e2 cc
      repeat (go_big_quiet_step ((go_at_call 191;exact ca _)))
      refine wpQuiet_nil ?_
      rintro _ ⟨σ,rfl⟩
      obtain ⟨wz,hwz⟩:∃wz,W σ=wz:=⟨_,rfl⟩
      have hgz:=hide (gtr (uh hgq) (uh hJ' σ))
      rw [hwz] at hgz ⊢
      clear c6 c2 ca hJ' hwz
      clear σ W hS St
      go_wp2
      go_ret
      exact ⟨rfl,uh hgz⟩
     ·have he:=uh hr'
      rw [Gd.want,if_neg h5,if_neg h10,if_neg h8,if_neg h6,if_neg h7] at he
      have he':=hide he
      clear he
      go_wp2
      go_ret
      exact ⟨rti (uh he'),uh hgq⟩

end Go.Proofs.YtbanjoflgoiegaaGreat

namespace Go.Proofs.YtbanjoflgoiegaaGreat

namespace Gn

theorem paintTo_2 {c:Nat→Int} {x y w h r q:Int} (hc:∀i,0≤c i∧c i≤2) (i:Nat):0≤paintTo c x y w h r q i∧paintTo c x y w h r q i≤2:=by
 unfold paintTo
 split
 ·omega
 ·exact hc i

theorem digAt_2 {st:(Nat→Int) × Bool} {k:Nat} (hc:∀i,0≤st.1 i∧st.1 i≤2) (i:Nat):0≤(digAt st k).1 i∧(digAt st k).1 i≤2:=by
 unfold digAt Gr.upd
 split
 ·show 0≤(if i=k then _ else st.1 i)∧(if i=k then _ else st.1 i)≤2
  split
  ·split <;> omega
  ·exact hc i
 ·exact hc i

theorem digRun_2 (tx ty:Int) (first:Bool):∀(n:Nat) (st:(Nat→Int) × Bool) (x y:Int),(∀i,0≤st.1 i∧st.1 i≤2)→∀i,0≤(digRun tx ty first n st x y).1 i∧(digRun tx ty first n st x y).1 i≤2
 | 0,_,_,_,h=>digAt_2 h
 | n+1,_,_,_,h=>digRun_2 tx ty first n _ _ _ (digAt_2 h)

theorem roomed_2 (d:Dice):∀(n i:Nat),0≤roomed d n i∧roomed d n i≤2
 | 0,_=>by simp [roomed]
 | n+1,i=>paintTo_2 (roomed_2 d n) i

theorem dug_2 (d:Dice):∀(n i:Nat),0≤dug d n i∧dug d n i≤2
 | 0,i=>roomed_2 d 6 i
 | n+1,i=>by
  have h:=digRun_2 (mx d (n+1)) (my d (n+1)) (d ((n+1:Nat):Int) 4 2 == 0) (steps (mx d n) (my d n) (mx d (n+1)) (my d (n+1))) (dug d n,false) (mx d n) (my d n) (dug_2 d n) i
  rw [dug]
  exact h

def onPath (tx ty:Int) (first:Bool):Nat→Int→Int→Nat→Prop
 | 0,x,y,k=>k=(y*24+x).toNat
 | n+1,x,y,k=>k=(y*24+x).toNat∨onPath tx ty first n (stepX x y tx ty first) (stepY x y tx ty first) k

theorem digAt_nz (st:(Nat→Int) × Bool) (k i:Nat):(digAt st k).1 i≠0↔st.1 i≠0∨i=k:=by
 unfold digAt
 split
 ·rename_i h0
  show Gr.upd st.1 k _ i≠0↔_
  by_cases e:i=k
  ·rw [e,Gr.upd_at]
   simp only [or_true,iff_true]
   split <;> omega
  ·rw [Gr.upd_ne _ _ e]
   simp [e]
 ·rename_i h0
  constructor
  ·exact fun h=>.inl h
  ·rintro (h | rfl)
   ·exact h
   ·exact h0

theorem digRun_nz (tx ty:Int) (first:Bool):∀(n:Nat) (st:(Nat→Int) × Bool) (x y:Int) (i:Nat),(digRun tx ty first n st x y).1 i≠0↔st.1 i≠0∨onPath tx ty first n x y i
 | 0,st,x,y,i=>digAt_nz st _ i
 | n+1,st,x,y,i=>by
  rw [digRun,digRun_nz tx ty first n,digAt_nz,onPath,or_assoc]

def inRoom (d:Dice) (k i:Nat):Prop:=rx d k≤(i % 24:Nat)∧((i % 24:Nat):Int)<rx d k+rw d k∧ry d k≤(i / 24:Nat)∧((i / 24:Nat):Int)<ry d k+rh d k

theorem paint_nz (c:Nat→Int) (x y w h:Int) (i:Nat):paint c x y w h i≠0↔c i≠0∨(x≤(i % 24:Nat)∧((i % 24:Nat):Int)<x+w∧y≤(i / 24:Nat)∧((i / 24:Nat):Int)<y+h):=by
 unfold paint paintTo
 by_cases hc:(x≤(i % 24:Nat)∧((i % 24:Nat):Int)<x+w∧y≤(i / 24:Nat)∧((i / 24:Nat):Int)<y+h)
 ·rw [if_pos ⟨hc,by omega⟩]
  exact ⟨fun _=>.inr hc,fun _=>by omega⟩
 ·rw [if_neg (fun h=>hc h.1)]
  constructor
  ·exact fun h=>.inl h
  ·rintro (h | h)
   ·exact h
   ·exact absurd h hc

theorem roomed_nz (d:Dice):∀(n i:Nat),roomed d n i≠0↔∃k,k<n∧inRoom d k i
 | 0,i=>by simp [roomed]
 | n+1,i=>by
  rw [roomed,paint_nz,roomed_nz d n i]
  constructor
  ·rintro (⟨k,hk,h⟩ | h)
   ·exact ⟨k,by omega,h⟩
   ·exact ⟨n,by omega,h⟩
  ·rintro ⟨k,hk,h⟩
   by_cases e:k=n
   ·subst e;exact .inr h
   ·exact .inl ⟨k,by omega,h⟩

def path (d:Dice) (n i:Nat):Prop:=onPath (mx d (n+1)) (my d (n+1)) (d ((n+1:Nat):Int) 4 2 == 0) (steps (mx d n) (my d n) (mx d (n+1)) (my d (n+1))) (mx d n) (my d n) i

theorem dug_nz (d:Dice):∀(n i:Nat),dug d n i≠0↔(∃k,k<6∧inRoom d k i)∨∃k,k<n∧path d k i
 | 0,i=>by
  have h:dug d 0=roomed d 6:=rfl
  rw [h,roomed_nz]
  constructor
  ·exact fun h=>.inl h
  ·rintro (h | ⟨k,hk,_⟩)
   ·exact h
   ·omega
 | n+1,i=>by
  rw [dug,digRun_nz,dug_nz d n i]
  constructor
  ·rintro ((h | ⟨k,hk,h⟩) | h)
   ·exact .inl h
   ·exact .inr ⟨k,by omega,h⟩
   ·exact .inr ⟨n,by omega,h⟩
  ·rintro (h | ⟨k,hk,h⟩)
   ·exact .inl (.inl h)
   ·by_cases e:k=n
    ·subst e;exact .inr h
    ·exact .inl (.inr ⟨k,by omega,h⟩)

def Closed (c:Nat→Int) (P:Nat→Prop):Prop:=∀j e,j<384→e<4→P j→Gr.nbIn j e→c (Gr.nbOf j e)≠0→P (Gr.nbOf j e)

theorem Closed.step {c:Nat→Int} {P:Nat→Prop} (h:Closed c P) {a b:Nat} (ha:a<384) (hb:b<384) (hP:P a) (hc:c b≠0)
  (hn:(b=a+1∧a / 24=b / 24)∨(a=b+1∧a / 24=b / 24)∨b=a+24∨a=b+24):P b:=by
 have key:∃e,e<4∧Gr.nbIn a e∧((a / 24:Nat)+Gr.dyOf e)*24+((a % 24:Nat)+Gr.dxOf e)=(b:Int):=by
  rcases hn with ⟨h1,h2⟩ | ⟨h1,h2⟩ | h1 | h1
  ·exact ⟨1,by omega,by unfold Gr.nbIn;simp only [Gr.dxOf,Gr.dyOf];omega,by simp only [Gr.dxOf,Gr.dyOf];omega⟩
  ·exact ⟨3,by omega,by unfold Gr.nbIn;simp only [Gr.dxOf,Gr.dyOf];omega,by simp only [Gr.dxOf,Gr.dyOf];omega⟩
  ·exact ⟨2,by omega,by unfold Gr.nbIn;simp only [Gr.dxOf,Gr.dyOf];omega,by simp only [Gr.dxOf,Gr.dyOf];omega⟩
  ·exact ⟨0,by omega,by unfold Gr.nbIn;simp only [Gr.dxOf,Gr.dyOf];omega,by simp only [Gr.dxOf,Gr.dyOf];omega⟩
 obtain ⟨e,he,hin,hv⟩:=key
 have hb2:Gr.nbOf a e=b:=by have:=Gr.nb_eq hin;omega
 have:=h a e ha he hP hin (by rw [hb2];exact hc)
 rwa [hb2] at this

theorem step_near (x y tx ty:Int) (first:Bool) (h:¬(x=tx∧y=ty)) :
  (stepX x y tx ty first=x+1∧stepY x y tx ty first=y)∨(stepX x y tx ty first=x - 1∧stepY x y tx ty first=y)∨(stepX x y tx ty first=x∧stepY x y tx ty first=y+1)∨(stepX x y tx ty first=x∧stepY x y tx ty first=y - 1):=by
 unfold stepX stepY to1
 by_cases hw:way x y tx ty first=true
 ·rw [if_pos hw,if_pos hw]
  have hx:x≠tx:=by
   unfold way at hw
   intro e
   simp only [Bool.or_eq_true,beq_iff_eq,Bool.and_eq_true,bne_iff_ne,ne_eq] at hw
   rcases hw with hw | ⟨_,hw⟩
   ·exact h ⟨e,hw⟩
   ·exact hw e
  split
  ·exact .inl ⟨rfl,rfl⟩
  ·split
   ·exact .inr (.inl ⟨rfl,rfl⟩)
   ·omega
 ·rw [if_neg hw,if_neg hw]
  have hy:y≠ty:=by
   unfold way at hw
   intro e
   simp [e] at hw
  split
  ·exact .inr (.inr (.inl ⟨rfl,rfl⟩))
  ·split
   ·exact .inr (.inr (.inr ⟨rfl,rfl⟩))
   ·omega

theorem Closed.along {c:Nat→Int} {P:Nat→Prop} (h:Closed c P) (tx ty:Int) (first:Bool) (ht:(1≤tx∧tx≤22)∧1≤ty∧ty≤14):∀(n:Nat) (x y:Int),n=steps x y tx ty→(1≤x∧x≤22)∧1≤y∧y≤14→P (y*24+x).toNat→(∀i,onPath tx ty first n x y i→c i≠0) →
  (∀i,onPath tx ty first n x y i→P i)∧onPath tx ty first n x y (ty*24+tx).toNat
 | 0,x,y,hn,hb,hP,hc=>by
  have e:x=tx∧y=ty:=by unfold steps at hn;omega
  refine ⟨fun i hi=>?_,?_⟩
  ·have hi':i=(y*24+x).toNat:=hi
   rw [hi'];exact hP
  ·show (ty*24+tx).toNat=(y*24+x).toNat
   rw [e.1,e.2]
 | n+1,x,y,hn,hb,hP,hc=>by
  have hne:¬(x=tx∧y=ty):=by
   rintro ⟨rfl,rfl⟩
   unfold steps at hn
   omega
  have hl:=step_less x y tx ty first hne
  have hb':=step_bd x y tx ty first hb ht
  have hsn:=step_near x y tx ty first hne
  have hPn:P (stepY x y tx ty first*24+stepX x y tx ty first).toNat:=by
   refine h.step (a:=(y*24+x).toNat) (by omega) (by omega) hP (hc _ (.inr ?_)) (by omega)
   cases n with
   | zero=>rfl
   | succ m=>exact .inl rfl
  obtain ⟨h1,h2⟩:=Closed.along h tx ty first ht n (stepX x y tx ty first) (stepY x y tx ty first) (by omega) hb' hPn (fun i hi=>hc i (.inr hi))
  refine ⟨fun i hi=>?_,.inr h2⟩
  rcases hi with rfl | hi
  ·exact hP
  ·exact h1 i hi

theorem Closed.rowTo {c:Nat→Int} {P:Nat→Prop} (h:Closed c P) (x0 y0 w0 h0:Int) (hb:1≤x0∧x0+w0≤23∧1≤y0∧y0+h0≤15) (hc:∀x y,x0≤x→x<x0+w0→y0≤y→y<y0+h0→c (y*24+x).toNat≠0) :
  ∀(n:Nat) (x y x':Int),n=(x' - x).natAbs→x0≤x→x<x0+w0→x0≤x'→x'<x0+w0→y0≤y→y<y0+h0→P (y*24+x).toNat→P (y*24+x').toNat
 | 0,x,y,x',hn,_,_,_,_,_,_,hP=>by
  have:x'=x:=by omega
  rw [this];exact hP
 | n+1,x,y,x',hn,h1,h2,h3,h4,h5,h6,hP=>by
  by_cases hlt:x<x'
  ·refine Closed.rowTo h x0 y0 w0 h0 hb hc n (x+1) y x' (by omega) (by omega) (by omega) h3 h4 h5 h6 ?_
   exact h.step (a:=(y*24+x).toNat) (by omega) (by omega) hP (hc _ _ (by omega) (by omega) h5 h6) (by omega)
  ·refine Closed.rowTo h x0 y0 w0 h0 hb hc n (x - 1) y x' (by omega) (by omega) (by omega) h3 h4 h5 h6 ?_
   exact h.step (a:=(y*24+x).toNat) (by omega) (by omega) hP (hc _ _ (by omega) (by omega) h5 h6) (by omega)

theorem Closed.colTo {c:Nat→Int} {P:Nat→Prop} (h:Closed c P) (x0 y0 w0 h0:Int) (hb:1≤x0∧x0+w0≤23∧1≤y0∧y0+h0≤15) (hc:∀x y,x0≤x→x<x0+w0→y0≤y→y<y0+h0→c (y*24+x).toNat≠0) :
  ∀(n:Nat) (x y y':Int),n=(y' - y).natAbs→x0≤x→x<x0+w0→y0≤y→y<y0+h0→y0≤y'→y'<y0+h0→P (y*24+x).toNat→P (y'*24+x).toNat
 | 0,x,y,y',hn,_,_,_,_,_,_,hP=>by
  have:y'=y:=by omega
  rw [this];exact hP
 | n+1,x,y,y',hn,h1,h2,h3,h4,h5,h6,hP=>by
  by_cases hlt:y<y'
  ·refine Closed.colTo h x0 y0 w0 h0 hb hc n x (y+1) y' (by omega) h1 h2 (by omega) (by omega) h5 h6 ?_
   exact h.step (a:=(y*24+x).toNat) (by omega) (by omega) hP (hc _ _ h1 h2 (by omega) (by omega)) (by omega)
  ·refine Closed.colTo h x0 y0 w0 h0 hb hc n x (y - 1) y' (by omega) h1 h2 (by omega) (by omega) h5 h6 ?_
   exact h.step (a:=(y*24+x).toNat) (by omega) (by omega) hP (hc _ _ h1 h2 (by omega) (by omega)) (by omega)

theorem inRoom_at {d:Dice} (hd:Fair d) {k:Nat} {x y:Int} (h1:rx d k≤x) (h2:x<rx d k+rw d k) (h3:ry d k≤y) (h4:y<ry d k+rh d k):inRoom d k (y*24+x).toNat:=by
 have:=room_bd hd k
 unfold inRoom
 omega

theorem mid_in {d:Dice} (hd:Fair d) (k:Nat):rx d k≤mx d k∧mx d k<rx d k+rw d k∧ry d k≤my d k∧my d k<ry d k+rh d k:=by
 have:=room_bd hd k
 unfold mx my
 omega

theorem hangs {d:Dice} (hd:Fair d) {c:Nat→Int} (hz:∀i,i<384→(c i≠0↔dug d 5 i≠0)) {P:Nat→Prop} (hC:Closed c P) (hP:P (up d)) (i:Nat) (hi:i<384) (hc:c i≠0):P i:=by
 have hroomc:∀k,k<6→∀x y,rx d k≤x→x<rx d k+rw d k→ry d k≤y→y<ry d k+rh d k→c (y*24+x).toNat≠0:=by
  intro k hk x y h1 h2 h3 h4
  have hb:=room_bd hd k
  exact (hz _ (by omega)).2 ((dug_nz d 5 _).2 (.inl ⟨k,hk,inRoom_at hd h1 h2 h3 h4⟩))
 have hpathlt:∀k,∀i,path d k i→i<384:=by
  intro k
  have key:∀(n:Nat) (x y:Int),(1≤x∧x≤22)∧1≤y∧y≤14→∀i,onPath (mx d (k+1)) (my d (k+1)) (d ((k+1:Nat):Int) 4 2 == 0) n x y i→i<384:=by
   have ht:=mid_bd hd (k+1)
   intro n
   induction n with
   | zero =>
    intro x y hb i hi
    have hi':i=(y*24+x).toNat:=hi
    omega
   | succ n ih =>
    intro x y hb i hi
    rcases hi with rfl | hi
    ·omega
    ·exact ih _ _ (step_bd x y _ _ _ hb (by omega)) i hi
  have hb:=mid_bd hd k
  exact key _ _ _ (by omega)
 have hmids:∀k,k<6→P (my d k*24+mx d k).toNat∧(k<5→∀i,path d k i→P i):=by
  intro k
  induction k with
  | zero =>
   intro _
   have hb:=mid_bd hd 0
   have hb1:=mid_bd hd 1
   refine ⟨hP,fun h5 i hi=>?_⟩
   exact (Closed.along hC (mx d 1) (my d 1) (d ((1:Nat):Int) 4 2 == 0) (by omega) _ (mx d 0) (my d 0) rfl (by omega) hP (fun j hj=>(hz j (hpathlt 0 j hj)).2 ((dug_nz d 5 j).2 (.inr ⟨0,by omega,hj⟩)))).1 i hi
  | succ k ih =>
   intro hk
   obtain ⟨ih1,_⟩:=ih (by omega)
   have hb:=mid_bd hd k
   have hb1:=mid_bd hd (k+1)
   have hb2:=mid_bd hd (k+1+1)
   have hal:=Closed.along hC (mx d (k+1)) (my d (k+1)) (d ((k+1:Nat):Int) 4 2 == 0) (by omega) _ (mx d k) (my d k) rfl (by omega) ih1 (fun j hj=>(hz j (hpathlt k j hj)).2 ((dug_nz d 5 j).2 (.inr ⟨k,by omega,hj⟩)))
   have hPm:=hal.1 _ hal.2
   refine ⟨hPm,fun h5 i hi=>?_⟩
   exact (Closed.along hC (mx d (k+1+1)) (my d (k+1+1)) (d ((k+1+1:Nat):Int) 4 2 == 0) (by omega) _ (mx d (k+1)) (my d (k+1)) rfl (by omega) hPm (fun j hj=>(hz j (hpathlt (k+1) j hj)).2 ((dug_nz d 5 j).2 (.inr ⟨k+1,by omega,hj⟩)))).1 i hi
 rcases (dug_nz d 5 i).1 ((hz i hi).1 hc) with ⟨k,hk,hin⟩ | ⟨k,hk,hpa⟩
 ·have hb:=room_bd hd k
  have hm:=mid_in hd k
  have h0:=(hmids k hk).1
  unfold inRoom at hin
  have h1:=Closed.rowTo hC (rx d k) (ry d k) (rw d k) (rh d k) (by omega) (hroomc k hk) _ (mx d k) (my d k) ((i % 24:Nat):Int) rfl hm.1 hm.2.1 hin.1 hin.2.1 hm.2.2.1 hm.2.2.2 h0
  have h2:=Closed.colTo hC (rx d k) (ry d k) (rw d k) (rh d k) (by omega) (hroomc k hk) _ ((i % 24:Nat):Int) (my d k) ((i / 24:Nat):Int) rfl hin.1 hin.2.1 hm.2.2.1 hm.2.2.2 hin.2.2.1 hin.2.2.2 h1
  rwa [show (((i / 24:Nat):Int)*24+((i % 24:Nat):Int)).toNat=i by omega] at h2
 ·exact (hmids k (by omega)).2 hk i hpa

end Gn


open Go.RowKit

theorem Ents.flat {w:World} {b n:Nat} {E:Nat→Nat→Int} (h:Ents w b n E) {c:Nat} (hc:c<n*11):w.cell? ⟨b,c,none⟩=some (En.flat E c):=by
 have:=h.2.2 (c / 11) (c % 11) (by omega) (by omega)
 rwa [show c / 11*11+c % 11=c by omega] at this

theorem Ents.set {w:World} {b n:Nat} {E:Nat→Nat→Int} (h:Ents w b n E) {p i:Nat} (hp:p≠b) (u:Value):Ents (w.setCell ⟨p,i,none⟩ u) b n E :=
 ⟨h.1,by simpa using h.2.1,fun i' j hi hj=>(World.cell?_of_block (a:=⟨b,i'*11+j,none⟩) (heap_setCell_other w ⟨p,i,none⟩ b u hp.symm)).trans (h.2.2 i' j hi hj)⟩

def En.list (n:Nat) (E:Nat→Nat→Int):List Value:=(List.range (n*11)).map (En.flat E)

theorem En.list_len (n:Nat) (E:Nat→Nat→Int):(En.list n E).length=n*11:=by simp [En.list]

theorem En.list_at {n:Nat} {E:Nat→Nat→Int} {c:Nat} (hc:c<n*11):(En.list n E)[c]?=some (En.flat E c):=by
 unfold En.list
 rw [List.getElem?_map,List.getElem?_range hc]
 rfl

theorem En.list_one {n:Nat} {E:Nat→Nat→Int}:∀v∈En.list n E,v.oneCell'=true:=by
 intro v hv
 unfold En.list at hv
 obtain ⟨c,_,rfl⟩:=List.mem_map.1 hv
 rfl

theorem Ents.src {w:World} {b n:Nat} {E:Nat→Nat→Int} (h:Ents w b n E):∀j v,(En.list n E)[j]?=some v→w.cell? ((⟨b,0,none⟩:Addr).add j)=some v:=by
 intro j v hj
 have hlt:j<n*11:=by
  have:=(List.getElem?_eq_some_iff.1 hj).1
  rwa [En.list_len] at this
 rw [En.list_at hlt] at hj
 rw [show (⟨b,0,none⟩:Addr).add j=⟨b,j,none⟩ by rw [Go.WideShapes.add_plain,Nat.zero_add],h.flat hlt]
 exact hj

theorem Own.of_row {w:World} {g n:Nat} {E:Nat→Nat→Int} (hn:n≤32) (h:w.heap[g]?=some (.cells (En.list n E).toArray 54 (0,0))):Own w g n E:=by
 refine ⟨hn,_,_,Arr.lit h,by simp [En.list_len],fun c hc=>?_⟩
 show (En.list n E).toArray[c]?.getD undef=_
 rw [List.getElem?_toArray,En.list_at hc]
 rfl

set_option maxHeartbeats 800000 in
theorem twin_any (b n c:Nat) (E:Nat→Nat→Int) (w:World) (hE:Ents w b n E) :
  Calls Tryz.prog 146 #[.slice (some ⟨b,0,none⟩) n c] w (Lists w n E):=by
 have hn:=hE.1
 have hE':=hide hE
 obtain ⟨i0,hi,hz0,hz1,hz2⟩:=info_parts info_ent
 have hsz:(Tryz.prog.info? 54).map (·.size)=some 11:=by rw [hi];simp [hz1]
 clear hE
 go_enter Tryz.func146,Tryz.ntmps146
 go_wp2_with (at_make;refine wpList_make_full _ rfl _ _ 26 rfl w.heap.size 54 i0 (.agg #[.int .i64 0,.int .i64 0,.int .i64 0,.int .i64 0,.int .i64 0,.int .i64 0,.int .i64 0,.int .i64 0,.int .i64 0,.int .i64 0,.int .i64 0]) 11 Tryz.underlying26 hi hz0 hz1 .i64 .i64 _ _ n rfl rfl rfl rfl ?q3 ?q4 ?q5 ?_)
 any_goals (first | (rw [hz2];omega) | (unfold maxLen;omega) | exact Nat.le_refl _)
 intro w1 hown hgrow
 obtain ⟨cur,hg,hcs⟩:∃cur,w1.heap[w.heap.size]?=some (.cells cur 54 (0,0))∧cur.size=n*11:=by
  rcases hown.2 with ⟨h',_⟩ | ⟨g',cap',cur,h',_,hg,_,_,hcs,_⟩
  ·simp at h'
  ·simp only [Value.slice.injEq,Option.some.injEq,Addr.mk.injEq,and_true,true_and] at h'
   obtain ⟨rfl,rfl⟩:=h'
   exact ⟨cur,hg,hcs⟩
 have hg':=hide hg
 have hgrow':=hide hgrow
 have hcs':=hide hcs
 clear hown hg hgrow hcs hi hz0 hz1 hz2
 obtain ⟨w2,hrun,hrow,hgr2⟩:=run_copy_whole 26 26 3 54 Tryz.underlying26 11 hsz w.heap.size n n ⟨b,0,none⟩ c cur _ (uh hg') (En.list n E) (En.list_len n E) ((uh hE').on (uh hgrow')).src ((En.list_len n E).trans (uh hcs').symm) En.list_one
 have hfin:=hide (show Own w2 w.heap.size n E from Own.of_row hn hrow)
 have hgf:=hide (gow (uh hgrow') hgr2 (fun m e=>by cases e;exact Nat.le_refl _))
 clear hrow hgr2 hg' hgrow' hcs'
 go_wp2
 go_ret
 exact ⟨w.heap.size,n,rfl,Nat.le_refl _,Nat.le_refl _,by unfold maxLen;omega,uh hfin,uh hgf⟩

set_option maxHeartbeats 1600000 in
theorem with_any (b n c k:Nat) (E:Nat→Nat→Int) (e:Nat→Int) (w:World) (hE:Ents w b n E) (hk:k<n) :
  Calls Tryz.prog 143 #[.slice (some ⟨b,0,none⟩) n c,.int .i64 (k:Int),.agg (En.cells e)] w (Lists w n (En.put E k e)):=by
 have hn:=hE.1
 have hk':(k:Int)<(n:Int):=by omega
 have ct:=hide (twin_any b n c E (w.alloc (.cells (En.cells e) 54)) (hE.on (World.grownBy_alloc _ _ _)))
 have hbox:=hide (Arr.lit (heap_alloc_new w (.cells (En.cells e) 54)))
 have hst:Hid (∀(x:World) (g:Nat),Own x g n E→Own (x.setCells g (k*11) (En.cells e).toList) g n (En.put E k e)):=fun x g h=>h.store k e
 have hgs:Hid (∀(x:World) (g:Nat),w.grownBy x none→w.heap.size≤g→w.grownBy (x.setCells g (k*11) (En.cells e).toList) none):=fun x g h hg=>own_sets hg _ _ x h
 have hrowc:Hid (∀(x:World) (g:Nat),Ents x g n E→_):=fun x g h=>h.row hk
 clear hE
 unfold En.cells at ct hbox hst hgs ⊢
 go_enter Tryz.func143,Tryz.ntmps143
 go_wp2_with fail
 refine (uh ct).mono ?_
 rintro _ w1 ⟨g,cap,rfl,hlo,hnc,hcm,hown,hgr⟩
 obtain ⟨u0,u1,u2,u3,u4,u5,u6,u7,u8,u9,u10⟩:=uh hrowc w1 g hown.ents
 have f:=fun i=>hown.free i
 have z:=fun j (hj:j<11)=>((uh hbox).grown hgr (by simp)).cell (i:=j) hj
 have z0:=z 0 (by omega)
 have z1:=z 1 (by omega)
 have z2:=z 2 (by omega)
 have z3:=z 3 (by omega)
 have z4:=z 4 (by omega)
 have z5:=z 5 (by omega)
 have z6:=z 6 (by omega)
 have z7:=z 7 (by omega)
 have z8:=z 8 (by omega)
 have z9:=z 9 (by omega)
 have z10:=z 10 (by omega)
 simp only [List.getElem?_toArray,List.getElem?_cons_zero,List.getElem?_cons_succ,Option.getD_some] at z0 z1 z2 z3 z4 z5 z6 z7 z8 z9 z10
 have hown':=hide hown
 have hgr':=hide (gtr (World.grownBy_alloc w _ none) hgr)
 have hlo':Hid (w.heap.size≤g):=by
  have:w.heap.size≤(w.alloc (.cells #[.int .i64 (e 0),.int .i64 (e 1),.int .i64 (e 2),.int .i64 (e 3),.int .i64 (e 4),.int .i64 (e 5),.int .i64 (e 6),.int .i64 (e 7),.int .i64 (e 8),.int .i64 (e 9),.int .i64 (e 10)] 54)).heap.size:=(World.grownBy_alloc w _ none).size
  exact Nat.le_trans this hlo
 have hcap:=hide (And.intro hnc hcm)
 clear hown hgr hlo hnc hcm z ct
 go_wp2
 go_ret
 exact ⟨g,cap,rfl,uh hlo',(uh hcap).1,(uh hcap).2,uh hst _ _ (uh hown'),uh hgs _ _ (uh hgr') (uh hlo')⟩


open Go.RowKit

set_option maxHeartbeats 800000 in
theorem indexFree_any (b n c:Nat) (E:Nat→Nat→Int) (w:World) (hE:Ents w b n E) :
  Calls Tryz.prog 110 #[.slice (some ⟨b,0,none⟩) n c,.func (.func 142) #[] #[]] w (Says w (.int .i64 (En.first (En.freeQ E) n))):=by
 have hn:=hE.1
 have hE':=hide hE
 clear hE
 go_enter Tryz.func110,Tryz.ntmps110
 go_wp2_with fail
 go_loopw [8] (fun i wr=>∃k:Nat,k≤n∧i=.int .i64 (k:Int)∧(∀j,j<k→En.freeQ E j=false)∧w.grownBy wr none) (fun i _=>40 - (intOf i).toNat)
 case atStart=>exact ⟨0,by omega,rfl,fun j hj=>by omega,World.grownBy.refl _ _⟩
 case round =>
  obtain ⟨k,hk,rfl,hno,hgr⟩:=hrel
  have hno':=hide hno
  have hgr':=hide hgr
  clear hno hgr
  by_cases hlt:k<n
  ·obtain ⟨u0,u1,u2,u3,u4,u5,u6,u7,u8,u9,u10⟩:=((uh hE').on (uh hgr')).row hlt
   have hlt':(k:Int)<(n:Int):=by omega
   have HL:=hide hlt
   clear hlt
   go_wp2_with fail
   refine (isFree_any (E k) _).mono ?_
   rintro e w1 ⟨rfl,hg0⟩
   have hgr1:=hide (gtr (uh hgr') hg0)
   clear u0 u1 u2 u3 u4 u5 u6 u7 u8 u9 u10 hg0
   obtain ⟨r,hr⟩:∃r:Bool,r=decide (E k 0=0):=⟨_,rfl⟩
   have hq:Hid (En.freeQ E k=r):=hr.symm
   rw [←hr]
   clear hr
   cases r
   ·go_wp2
    go_roundw
    case rel=>exact ⟨k+1,by have:=uh HL;omega,by go_num,fun j hj=>by
     by_cases e:j=k
     ·rw [e];exact uh hq
     ·exact uh hno' j (by omega),uh hgr1⟩
    case measure=>simp [intOf];omega
   ·have he:=hide (En.first_hit (uh hno') (uh hq) (uh HL))
    go_wp2
    go_ret
    exact ⟨rti (uh he).symm,uh hgr1⟩
  ·have hge:¬(k:Int)<(n:Int):=by omega
   have he:=hide (En.first_none (n:=n) (fun j hj=>uh hno' j (by omega)))
   go_wp2
   go_ret
   exact ⟨rti (uh he).symm,uh hgr'⟩

def En.gen (e:Nat→Int) (g:Int):Nat→Int:=fun j=>if j=1 then g else e j

def Spawns (w:World) (n:Nat) (E:Nat→Nat→Int) (k:Nat) (e:Ending) (w':World):Prop :=
 ∃g cap,e=.returned (.tuple #[.slice (some ⟨g,0,none⟩) n cap,.int .i64 (k:Int),.int .i64 0])∧w.heap.size≤g∧n≤cap∧cap≤maxLen∧Own w' g n E∧w.grownBy w' none

set_option maxHeartbeats 1600000 in
theorem spawn_full (b n c:Nat) (E:Nat→Nat→Int) (e:Nat→Int) (w:World) (hE:Ents w b n E) (hc:n≤c) (hk:1≤e 0∧e 0≤4) (hf:En.first (En.freeQ E) n=-1) :
  Calls Tryz.prog 103 #[.slice (some ⟨b,0,none⟩) n c,.agg (En.cells e)] w (Says w (.tuple #[.slice none 0 0,.int .i64 0,.int .i64 5])):=by
 have hn:=hE.1
 obtain ⟨s,hs,hs0⟩:∃s,s=En.stats (e 0)∧¬s 0=0:=⟨_,rfl,by show ¬(if 1≤e 0∧e 0≤4 then e 0 else 0)=0;rw [if_pos hk];omega⟩
 have cs:Hid (∀x:World,Calls Tryz.prog 80 #[.int .i64 (e 0)] x (Says x (.agg (En.cells s)))):=fun x=>by rw [hs];exact entStats_any (e 0) x
 have ci:Hid (∀x:World,w.grownBy x none→Calls Tryz.prog 110 #[.slice (some ⟨b,0,none⟩) n c,.func (.func 142) #[] #[]] x (Says x (.int .i64 (-1)))):=fun x hg=>by
  have:=indexFree_any b n c E x (hE.on hg)
  rwa [hf] at this
 clear hk hs hE hf
 unfold En.cells at cs ⊢
 go_enter Tryz.func103,Tryz.ntmps103
 go_wp2_with fail
 refine (uh cs _).mono ?_
 rintro _ w1 ⟨rfl,hg⟩
 have hg1:=hide (gtr (World.grownBy_alloc _ _ _) hg)
 clear hg
 go_wp2_with (go_at_call 141;refine (rows_any _ _ _ _ hn hc).mono ?_;rintro e w' ⟨rfl,hw⟩;subst w')
 refine (uh ci _ (uh hg1)).mono ?_
 rintro _ w2 ⟨rfl,hg⟩
 have hg2:=hide (gtr (uh hg1) hg)
 clear hg
 go_wp2
 go_ret3
 exact ⟨rfl,uh hg2⟩

set_option maxHeartbeats 1600000 in
theorem spawn_some (b n c k:Nat) (E:Nat→Nat→Int) (e:Nat→Int) (w:World) (hE:Ents w b n E) (hc:n≤c) (hk:1≤e 0∧e 0≤4) (hf:En.first (En.freeQ E) n=(k:Int)) (hkn:k<n) (hG:En.Gens n E) :
  Calls Tryz.prog 103 #[.slice (some ⟨b,0,none⟩) n c,.agg (En.cells e)] w (Spawns w n (En.put E k (En.gen e ((E k 1+1) % 256))) k):=by
 have hn:=hE.1
 obtain ⟨s,hs,hs0⟩:∃s,s=En.stats (e 0)∧¬s 0=0:=⟨_,rfl,by show ¬(if 1≤e 0∧e 0≤4 then e 0 else 0)=0;rw [if_pos hk];omega⟩
 have cs:Hid (∀x:World,Calls Tryz.prog 80 #[.int .i64 (e 0)] x (Says x (.agg (En.cells s)))):=fun x=>by rw [hs];exact entStats_any (e 0) x
 have ci:Hid (∀x:World,w.grownBy x none→Calls Tryz.prog 110 #[.slice (some ⟨b,0,none⟩) n c,.func (.func 142) #[] #[]] x (Says x (.int .i64 (k:Int)))):=fun x hg=>by
  have:=indexFree_any b n c E x (hE.on hg)
  rwa [hf] at this
 obtain ⟨g0,g1⟩:=hG k hkn
 have hkn':(k:Int)<(n:Int):=by omega
 have hE':=hide hE
 have HK:=hide hkn
 have hbb:=hide hE.2.1
 have hbox:=hide (Arr.lit (heap_alloc_new w (.cells (En.cells e) 54)))
 have cw:Hid (∀x:World,Ents x b n E→Calls Tryz.prog 143 #[.slice (some ⟨b,0,none⟩) n c,.int .i64 (k:Int),.agg (En.cells (En.gen e ((E k 1+1) % 256)))] x (Lists x n (En.put E k (En.gen e ((E k 1+1) % 256))))):=fun x h=>with_any b n c k E _ x h hkn
 obtain ⟨F,hF⟩:∃F,F=En.put E k (En.gen e ((E k 1+1) % 256)):=⟨_,rfl⟩
 rw [←hF] at cw ⊢
 clear hk hs hE hf hG hkn hF
 unfold En.cells at cs hbox cw ⊢
 go_enter Tryz.func103,Tryz.ntmps103
 go_wp2_with fail
 refine (uh cs _).mono ?_
 rintro _ w1 ⟨rfl,hg⟩
 have hg1:=hide (gtr (World.grownBy_alloc _ _ _) hg)
 have hbox1:=hide ((uh hbox).grown hg (by simp))
 clear hg hbox
 go_wp2_with (go_at_call 141;refine (rows_any _ _ _ _ hn hc).mono ?_;rintro e w' ⟨rfl,hw⟩;subst w')
 refine (uh ci _ (uh hg1)).mono ?_
 rintro _ w2 ⟨rfl,hg⟩
 have hg2:=hide (gtr (uh hg1) hg)
 have hbox2:=hide ((uh hbox1).grown hg (by simp))
 have z:=fun j (hj:j<11)=>(uh hbox2).cell (i:=j) hj
 have z0:=z 0 (by omega)
 have z1:=z 1 (by omega)
 have z2:=z 2 (by omega)
 have z3:=z 3 (by omega)
 have z4:=z 4 (by omega)
 have z5:=z 5 (by omega)
 have z6:=z 6 (by omega)
 have z7:=z 7 (by omega)
 have z8:=z 8 (by omega)
 have z9:=z 9 (by omega)
 have z10:=z 10 (by omega)
 simp only [List.getElem?_toArray,List.getElem?_cons_zero,List.getElem?_cons_succ,Option.getD_some] at z0 z1 z2 z3 z4 z5 z6 z7 z8 z9 z10
 have zf:=(uh hbox2).free 1
 have u1:w2.cell? ⟨b,k*11+1,none⟩=some (.int .i64 (E k 1)):=((uh hE').on (uh hg2)).2.2 k 1 (uh HK) (by omega)
 have hne:Hid (w.heap.size≠b):=by have:=uh hbb;exact (show w.heap.size≠b by omega)
 have hE3:Hid (∀u,Ents (w2.setCell ⟨w.heap.size,1,none⟩ u) b n E):=fun u=>((uh hE').on (uh hg2)).set (uh hne) u
 have hg3:Hid (∀u,w.grownBy (w2.setCell ⟨w.heap.size,1,none⟩ u) none):=fun u=>gsr (uh hg2) ⟨w.heap.size,1,none⟩ (Nat.le_refl _) u
 clear hg z hg1 hbox1 ci cs
 go_wp2_with fail
 refine (uh cw _ (uh hE3 _)).mono ?_
 rintro _ w3 ⟨g,cap,rfl,hlo,hnc,hcm,hown,hgr⟩
 have hfin:=hide (show w.heap.size≤g∧n≤cap∧cap≤maxLen∧Own w3 g n F∧w.grownBy w3 none from ⟨Nat.le_trans (uh hg3 _).size hlo,hnc,hcm,hown,gtr (uh hg3 _) hgr⟩)
 clear hlo hnc hcm hown hgr z0 z1 z2 z3 z4 z5 z6 z7 z8 z9 z10 zf u1
 go_wp2
 go_ret3
 exact ⟨g,cap,rfl,uh hfin⟩


open Go.RowKit

def En.hole (g:Int):Nat→Int:=fun j=>if j=1 then g else 0

theorem free_in (b n c k:Nat) (E:Nat→Nat→Int) (w:World) (hE:Ents w b n E) (hc:n≤c) (hk:k<n) :
  Calls Tryz.prog 105 #[.slice (some ⟨b,0,none⟩) n c,.int .i64 (k:Int)] w (Lists w n (En.put E k (En.hole (E k 1)))):=by
 have hn:=hE.1
 have cr:∀x:World,Calls Tryz.prog 145 #[.slice (some ⟨b,0,none⟩) n c,.int .i64 (k:Int)] x fun e w'=>e=.returned (.bool true)∧w'=x:=fun x=>by
  have:=isRow_any (some ⟨b,0,none⟩) n c (k:Int) x hn hc
  rwa [show En.isRow n (k:Int)=true from decide_eq_true (by omega)] at this
 have cw:=hide (with_any b n c k E (En.hole (E k 1)) w hE hk)
 have u1:w.cell? ⟨b,k*11+1,none⟩=some (.int .i64 (E k 1)):=hE.2.2 k 1 hk (by omega)
 have hk':(k:Int)<(n:Int):=by omega
 clear hE
 go_enter Tryz.func105,Tryz.ntmps105
 go_wp2_with (go_at_call 145;refine (cr _).mono ?_;rintro e w' ⟨rfl,hw⟩;subst w')
 refine (uh cw).mono ?_
 rintro _ w1 ⟨g,cap,rfl,hfin⟩
 have hfin':=hide hfin
 clear hfin u1
 go_wp2
 go_ret
 exact ⟨g,cap,rfl,uh hfin'⟩

end Go.Proofs.YtbanjoflgoiegaaGreat
