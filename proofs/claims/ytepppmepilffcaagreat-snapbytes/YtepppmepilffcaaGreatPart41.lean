import Derived.BigRegion
import Derived.Test.YtepppmepilffcaaGreatPart40
import Derived.Deep.MidRow
import Derived.Test.YtepppmepilffcaaGreatPart24
import Derived.Test.YtepppmepilffcaaGreatPart36
namespace Go.Proofs.YtepppmepilffcaaGreat
open Go.RowKit

def Cr.upto (u i:Nat):Int:=if u<i then 1 else 0

theorem Cr.upto_more {u i:Nat} (h:i≠u):Cr.upto u (i+1)=Cr.upto u i:=by
 unfold Cr.upto
 by_cases e:u<i
 ·rw [if_pos e,if_pos (by omega)]
 ·rw [if_neg e,if_neg (by omega)]

theorem Cr.upto_one (u:Nat):Cr.upto u u=0∧Cr.upto u (u+1)=1:=by
 unfold Cr.upto
 rw [if_neg (by omega),if_pos (by omega)]
 exact ⟨rfl,rfl⟩

set_option maxRecDepth 16000 in
set_option maxHeartbeats 3200000 in
theorem snapHead_any (s g c:Nat→Int) (E I:Nat→Nat→Int) (gC gE gI cC cE cI:Nat) (w:World) (hL:Gd.Lists w gC gE gI c E I) (hG:Cr.Good ⟨s,g,c,E,I⟩) (a1:0≤s 1) (a2:s 1<1073741824) :
  Calls Tryz.prog 30 #[.agg (Gd.world s gC gE gI cC cE cI g)] w (Says w (.int .i64 0)):=by
 obtain ⟨w0,hw0⟩:∃w0,w0=w.alloc (.cells (Gd.world s gC gE gI cC cE cI g) 31):=⟨_,rfl⟩
 have hg0:w.grownBy w0 none:=by rw [hw0];exact World.grownBy_alloc _ _ _
 have hB:Hid (Lie w0 w.heap.size 31 11 (Gd.box s gC gE gI cC cE cI g)):=by rw [hw0];exact (Arr.world (heap_alloc_new w _)).lie
 have hL0:=hide (hL.on hg0)
 have hgr:=hide hg0
 have hG':=hide hG
 obtain ⟨u,hu,hfu,hcu,hu1⟩:=Cr.up_stair hG.floor
 obtain ⟨u',d,hu'',hd,h3,h4⟩:=hG.floor.stairs
 have HU:=hide (And.intro hu (And.intro hcu hu1))
 have HD:=hide (And.intro hd h4)
 have n1:¬s 1<0:=by omega
 have n2:¬s 1≥1073741824:=by omega
 have n3:¬s 2<1:=by have:1≤s 2:=hG.f1;omega
 have n4:¬s 2 > 3:=by have:s 2≤3:=hG.f3;omega
 have n5:¬s 3<0:=by have:0≤s 3:=hG.s0;omega
 have n6:¬s 3 > 2:=by have:s 3≤2:=hG.s2;omega
 clear hL hG a1 a2 hg0 hu hfu hcu hu1 hu'' hd h3 h4
 unfold Gd.world at hw0 ⊢
 go_enter Tryz.func30,Tryz.ntmps30
 go_upto_region 1 with fail
 rw [←hw0]
 clear hw0
 obtain ⟨B,hBe⟩:∃B,w.heap.size=B:=⟨_,rfl⟩
 rw [hBe] at hB ⊢
 clear hBe
 obtain ⟨b0,b1,b2,b3,b4,b5,b6,b7,b8,b9,b10⟩:=(uh hB).eleven
 go_wp2_with fail
 clear n1 n2 n3 n4 n5 n6
 go_loop [3] (fun v3=>∃t:Nat,t≤4∧v3=.int .i64 (t:Int)) (fun v3=>10 - (intOf v3).toNat)
 case atStart=>exact ⟨0,by omega,rfl⟩
 case round =>
  obtain ⟨t,ht,rfl⟩:=hrel
  by_cases hlt:t<4
  ·have hlt':(t:Int)<4:=by omega
   have HL:=hide hlt
   have hgt:=(uh hG').gold t hlt
   have k1:¬g t<0:=by have:0≤g t:=hgt.1;omega
   have k2:¬g t > 999:=by have:g t≤999:=hgt.2;omega
   have bt:w0.cell? ⟨B,7+t,none⟩=some (.int .i64 (g t)):=by
    rw [(uh hB).cell (c:=7+t) (by omega),Gd.box_gold _ _ _ _ _ _ _ _ t hlt]
   clear hlt ht hgt
   go_wp2
   go_round
   case rel=>exact ⟨t+1,by have:=uh HL;omega,by go_num⟩
   case measure=>simp [intOf];have:=uh HL;omega
  ·obtain rfl:t=4:=by omega
   have hge:¬((4:Nat):Int)<4:=by omega
   clear hlt ht
   go_wp2_with fail
   go_loop [4,5,6] (fun v4 v5 v6=>∃i:Nat,i≤384∧v4=.int .i64 (Cr.upto u i)∧v5=.int .i64 (Cr.upto d i)∧v6=.int .i64 (i:Int)) (fun _ _ v6=>400 - (intOf v6).toNat)
   case atStart=>exact ⟨0,by omega,rfl,rfl,rfl⟩
   case round =>
    obtain ⟨i,hi,rfl,rfl,rfl⟩:=hrel
    by_cases hlt:i<384
    ·have hlt':(i:Int)<384:=by omega
     have HL:=hide hlt
     have u0:w0.cell? ⟨gC,i,none⟩=some (.int .u8 (c i)):=(uh hL0).cells.cell hlt
     have c5:=(uh hG').floor.five i
     try dsimp only at c5
     have k5:¬c i > 5:=by omega
     clear hlt hi c5
     by_cases k3:c i=3
     ·have hiu:i=u:=(uh HU).2.2 i k3
      have hid:i≠d:=fun e=>by have h4:c i=4:=((uh HD).2 i).2 e;omega
      subst hiu
      have e1:=Cr.upto_one i
      have e2:=Cr.upto_more (u:=d) hid
      rw [e1.1]
      rw [k3] at u0 k5
      clear k3 hid
      go_wp2
      go_round
      case rel=>exact ⟨i+1,by have:=uh HL;omega,by rw [e1.2],by rw [e2],by go_num⟩
      case measure=>simp [intOf];have:=uh HL;omega
     ·have k3':(c i == 3)=false:=by simp [k3]
      have hiu:i≠u:=fun e=>k3 (by rw [e];exact (uh HU).2.1)
      have e2:=Cr.upto_more hiu
      by_cases k4:c i=4
      ·have hid:i=d:=((uh HD).2 i).1 k4
       subst hid
       have e1:=Cr.upto_one i
       rw [e1.1]
       rw [k4] at u0 k5 k3'
       clear k3 k4 hiu
       go_wp2
       go_round
       case rel=>exact ⟨i+1,by have:=uh HL;omega,by rw [e2],by rw [e1.2],by go_num⟩
       case measure=>simp [intOf];have:=uh HL;omega
      ·have k4':(c i == 4)=false:=by simp [k4]
       have hid:i≠d:=fun e=>k4 (((uh HD).2 i).2 e)
       have e3:=Cr.upto_more hid
       clear k3 k4 hid hiu
       go_wp2
       go_round
       case rel=>exact ⟨i+1,by have:=uh HL;omega,by rw [e2],by rw [e3],by go_num⟩
       case measure=>simp [intOf];have:=uh HL;omega
    ·obtain rfl:i=384:=by omega
     have hge:¬((384:Nat):Int)<384:=by omega
     have e1:Cr.upto u 384=1:=by unfold Cr.upto;rw [if_pos (uh HU).1]
     have e2:Cr.upto d 384=1:=by unfold Cr.upto;rw [if_pos (uh HD).1]
     rw [e1,e2]
     clear hlt hi e1 e2
     go_wp2
     go_ret
     exact ⟨rfl,uh hgr⟩


open Go.RowKit

set_option maxHeartbeats 800000 in
theorem refHero_same (b n c:Nat) (E:Nat→Nat→Int) (seat:Int) (w:World) (hE:Ents w b n E) :
  Calls Tryz.prog 45 #[.slice (some ⟨b,0,none⟩) n c,.int .i64 seat] w fun e w'=>e=.returned (.int .i64 (En.first (En.heroQ E seat) n))∧w'=w:=by
 have hn:=hE.1
 have hE':=hide hE
 skip
 clear hE
 go_enter Tryz.func45,Tryz.ntmps45
 go_wp2_with fail
 go_loop [5] (fun i=>∃k:Nat,k≤n∧i=.int .i64 (k:Int)∧∀j,j<k→En.heroQ E seat j=false) (fun i=>40 - (intOf i).toNat)
 case atStart=>exact ⟨0,by omega,rfl,fun j hj=>by omega⟩
 case round =>
  obtain ⟨k,hk,rfl,hno⟩:=hrel
  have hno':=hide hno
  clear hno
  by_cases hlt:k<n
  ·obtain ⟨u0,_,u2,_⟩:=(uh hE').row hlt
   have hlt':(k:Int)<(n:Int):=by omega
   have HL:=hide hlt
   skip
   clear hlt
   by_cases hf:E k 0=1
   ·by_cases h3:E k 2=seat
    ·have hq:Hid (En.heroQ E seat k=true):=by show En.heroQ E seat k=true;simp [En.heroQ,hf,h3]
     have he:=hide (En.first_hit (uh hno') (uh hq) (uh HL))
     go_wp2
     go_ret
     exact ⟨rti (uh he).symm,rfl⟩
    ·have hq:Hid (En.heroQ E seat k=false):=by show En.heroQ E seat k=false;simp [En.heroQ,h3]
     have h3':(E k 2 == seat)=false:=by simp [h3]
     go_wp2
     go_round
     case rel=>exact ⟨k+1,by have:=uh HL;omega,by go_num,fun j hj=>by
      by_cases e:j=k
      ·rw [e];exact uh hq
      ·exact uh hno' j (by omega)⟩
     case measure=>simp [intOf];omega
   ·have hq:Hid (En.heroQ E seat k=false):=by show En.heroQ E seat k=false;simp [En.heroQ,hf]
    have hf':(E k 0 == 1)=false:=by simp [hf]
    go_wp2
    go_round
    case rel=>exact ⟨k+1,by have:=uh HL;omega,by go_num,fun j hj=>by
     by_cases e:j=k
     ·rw [e];exact uh hq
     ·exact uh hno' j (by omega)⟩
    case measure=>simp [intOf];omega
  ·have hge:¬(k:Int)<(n:Int):=by omega
   have he:=hide (En.first_none (n:=n) (fun j hj=>uh hno' j (by omega)))
   go_wp2
   go_ret
   exact ⟨rti (uh he).symm,rfl⟩


open Go.RowKit

theorem Ents.front {w:World} {b n m:Nat} {E:Nat→Nat→Int} (h:Ents w b n E) (hm:m≤n):Ents w b m E:=⟨Nat.le_trans hm h.1,h.2.1,fun i j hi hj=>h.2.2 i j (by omega) hj⟩

set_option maxRecDepth 16000 in
set_option maxHeartbeats 6400000 in
theorem snapEnt_any (s g c:Nat→Int) (E I:Nat→Nat→Int) (gC gE gI cC cE cI k:Nat) (w:World) (hL:Gd.Lists w gC gE gI c E I) (hS:Cr.Sane c E I) (hc:32≤cE) (hk:k<32) :
  Calls Tryz.prog 31 #[.agg (Gd.world s gC gE gI cC cE cI g),.int .i64 (k:Int)] w (Says w (.int .i64 0)):=by
 obtain ⟨w0,hw0⟩:∃w0,w0=w.alloc (.cells (Gd.world s gC gE gI cC cE cI g) 31):=⟨_,rfl⟩
 have hg0:w.grownBy w0 none:=by rw [hw0];exact World.grownBy_alloc _ _ _
 have hB:Hid (Lie w0 w.heap.size 31 11 (Gd.box s gC gE gI cC cE cI g)):=by rw [hw0];exact (Arr.world (heap_alloc_new w _)).lie
 have hL0:=hide (hL.on hg0)
 have hgr:=hide hg0
 have hS':=hide hS
 have HK:=hide hk
 have HC:=hide hc
 have hk':(k:Int)<32:=by omega
 have hr:=hS.fit.rows k hk
 have g0:¬E k 1<0:=by have:=hr.1;omega
 have g1:¬E k 1 > 255:=by have:=hr.2.1;omega
 have HR:=hide hr
 clear hL hS hg0 hk hr hc
 unfold Gd.world at hw0 ⊢
 go_enter Tryz.func31,Tryz.ntmps31
 go_upto_region 1 with fail
 rw [←hw0]
 clear hw0
 obtain ⟨B,hBe⟩:∃B,w.heap.size=B:=⟨_,rfl⟩
 rw [hBe] at hB ⊢
 clear hBe
 have b5:=(uh hB).eleven.2.2.2.2.2.1
 obtain ⟨r0,r1,r2,r3,r4,r5,r6,r7,r8,r9,r10⟩:=(uh hL0).own.ents.row (uh HK)
 obtain ⟨w1,hw1⟩:∃w1,w1=w0.alloc (.cells (En.cells (E k)) 61):=⟨_,rfl⟩
 have hgA:w0.grownBy w1 none:=by rw [hw1];exact World.grownBy_alloc _ _ _
 have hD:Hid (Lie w1 w0.heap.size 61 11 (Ints (E k))):=by rw [hw1];exact Lie.born w0 (E k) 61
 have hL1:=hide ((uh hL0).on hgA)
 have hB1:=hide ((uh hB).on hgA)
 have hg1:=hide (gtr (uh hgr) hgA)
 clear hgA hB hL0 hgr
 unfold En.cells at hw1
 go_upto_region 2 with fail
 rw [←hw1]
 clear hw1 b5 r0 r1 r2 r3 r4 r5 r6 r7 r8 r9 r10
 obtain ⟨D,hDe⟩:∃D,w0.heap.size=D:=⟨_,rfl⟩
 rw [hDe] at hD ⊢
 clear hDe w0
 by_cases h0:E k 0=0
 ·have hz:∀j,j≠1→j<11→E k j=0:=fun j j1 hj=>by
   rcases (uh HR).2.2 with hz | ht
   ·exact hz j hj j1
   ·omega
  obtain ⟨d0,d1,d2,d3,d4,d5,d6,d7,d8,d9,d10⟩:=(uh hD).ent
  rw [hz 0 (by omega) (by omega)] at d0
  rw [hz 2 (by omega) (by omega)] at d2
  rw [hz 3 (by omega) (by omega)] at d3
  rw [hz 4 (by omega) (by omega)] at d4
  rw [hz 5 (by omega) (by omega)] at d5
  rw [hz 6 (by omega) (by omega)] at d6
  rw [hz 7 (by omega) (by omega)] at d7
  rw [hz 8 (by omega) (by omega)] at d8
  rw [hz 9 (by omega) (by omega)] at d9
  rw [hz 10 (by omega) (by omega)] at d10
  clear h0 hz hD
  go_wp2
  go_ret
  exact ⟨rfl,uh hg1⟩
 ·obtain ⟨d0,d1,d2,d3,d4,d5,d6,d7,d8,d9,d10⟩:=(uh hD).ent
  have ht:=(uh HR).taken h0
  have k0:¬E k 0<0:=by omega
  have k4:¬E k 0 > 4:=by omega
  have h0':(E k 0 == 0)=false:=by simp [h0]
  have cst:=hide (entRefStats_any (E k 0) w1)
  obtain ⟨st,hst⟩:∃st,En.stats (E k 0)=st:=⟨_,rfl⟩
  rw [hst] at cst
  have hbo:=(uh hS').set.born k (uh HK) h0
  rw [hst] at hbo
  have HBO:=hide hbo
  have H0:=hide h0
  clear hst hbo h0
  unfold En.cells at cst
  go_wp2_with fail
  refine (uh cst).mono ?_
  rintro e w2 ⟨rfl,hg2⟩
  have hF:=hide (Lie.born w2 st 61)
  have hgB:=hide (gtr hg2 (World.grownBy_alloc w2 (.cells (En.cells st) 61) none))
  have hL2:=hide ((uh hL1).on (uh hgB))
  have hB2:=hide ((uh hB1).on (uh hgB))
  have hD2:=hide ((uh hD).on (uh hgB))
  have hg3:=hide (gtr (uh hg1) (uh hgB))
  clear hg2 hgB cst d0 d1 d2 d3 d4 d5 d6 d7 d8 d9 d10 hL1 hB1 hD hg1 k0 k4 h0' g0 g1
  unfold En.cells at hF hL2 hB2 hD2 hg3
  go_upto_region 11 with fail
  obtain ⟨F,hFe⟩:∃F,w2.heap.size=F:=⟨_,rfl⟩
  rw [hFe] at hF ⊢
  generalize w2.alloc (.cells #[.int .i64 (st 0),.int .i64 (st 1),.int .i64 (st 2),.int .i64 (st 3),.int .i64 (st 4),.int .i64 (st 5),.int .i64 (st 6),.int .i64 (st 7),.int .i64 (st 8),.int .i64 (st 9),.int .i64 (st 10)] 61)=w3 at hF hL2 hB2 hD2 hg3 ⊢
  clear hFe w2 w1
  obtain ⟨d0,d1,d2,d3,d4,d5,d6,d7,d8,d9,d10⟩:=(uh hD2).ent
  obtain ⟨z0,z1,z2,z3,z4,z5,z6,z7,z8,z9,z10⟩:=(uh hF).ent
  rw [←(uh HBO).1] at z6
  rw [←(uh HBO).2.1] at z7
  rw [←(uh HBO).2.2] at z8
  have b4:=(uh hB2).eleven.2.2.2.2.1
  have b5:=(uh hB2).eleven.2.2.2.2.2.1
  obtain ⟨p1,p2,p3,p4,p5⟩:=(uh hS').set.stands.on k (uh HK) (uh H0)
  have hat:Gr.at 384 c (E k 3) (E k 4)=c (E k 4*24+E k 3).toNat:=Gr.at_in ((Gr.inB_iff _ _).2 (by omega)) (by omega)
  have hno:En.first (En.atQ E (E k 3) (E k 4)) k=-1:=En.first_none fun j hj=>by
   by_cases e:E j 0=0
   ·simp [En.atQ,e]
   ·by_cases x3:E j 3=E k 3
    ·by_cases x4:E j 4=E k 4
     ·have:=(uh hS').set.stands.apart j k (by have:=uh HK;omega) (uh HK) e (uh H0) x3 x4
      omega
     ·simp [En.atQ,x4]
    ·simp [En.atQ,x3]
  have cA:=hide (fun z (hz:Gd.Lists z gC gE gI c E I)=>refAt_any z.heap.size (some ⟨gC,0,none⟩) 384 cC c (E k 3) (E k 4) z hz.vec (uh hS').fit.cells)
  rw [hat] at cA
  have cK:=hide (fun z=>refWalk_any (c (E k 4*24+E k 3).toNat) z)
  rw [p5] at cK
  have cE':=hide (fun z (hz:Gd.Lists z gC gE gI c E I)=>entRefAt_same gE k cE E (E k 3) (E k 4) z (hz.own.ents.front (by have:=uh HK;omega)))
  rw [hno] at cE'
  have ht:=(uh HR).taken (uh H0)
  have q1:¬E k 5<1:=by omega
  have q2:¬E k 5 > E k 6:=by omega
  have q3:¬E k 9<0:=by omega
  have q4:¬E k 9 > 9:=by omega
  have q5:¬E k 10<0:=by omega
  have q6:¬E k 10 > 9:=by omega
  have q7:(k:Int)≤(cE:Int):=by have:=uh HC;omega
  have q8:¬(k:Int)<0:=by omega
  clear p1 p2 p3 p4 p5 hat hno ht
  go_quiet (first | (go_at_call 51;refine Calls.quiet_of_same (uh cA _ ?_);exact (uh hL2).on (gdw (World.grownBy.refl _ none) _)) | (go_at_call 67;exact Calls.quiet_of_same (uh cK _)) | (go_at_call 56;refine Calls.quiet_of_same (uh cE' _ ?_);exact (uh hL2).on (gdw (World.grownBy.refl _ none) _)) | fail)
  have hL3:=hide ((uh hL2).on (gdw (World.grownBy.refl w3 none) nq))
  have hB3:=hide ((uh hB2).on (gdw (World.grownBy.refl w3 none) nq))
  have hD3:=hide ((uh hD2).on (gdw (World.grownBy.refl w3 none) nq))
  have hg4:=hide (gdw (uh hg3) nq)
  clear d0 d1 d2 d3 d4 d5 d6 d7 d8 d9 d10 z0 z1 z2 z3 z4 z5 z6 z7 z8 z9 z10 b4 b5 cA cK cE' q1 q2 q3 q4 q5 q6 hL2 hB2 hD2 hg3 hF
  generalize w3.drewN nq=w4 at hL3 hB3 hD3 hg4 ⊢
  clear w3 nq
  have b5:=(uh hB3).eleven.2.2.2.2.2.1
  have d0:=(uh hD3).ent.1
  have d2:=(uh hD3).ent.2.2.1
  by_cases k1:E k 0=1
  ·rw [k1] at d0
   have hs:=(uh hS').seats.seat k (uh HK) k1
   have s1:¬E k 2<0:=by omega
   have s2:¬E k 2≥4:=by omega
   have hno:En.first (En.heroQ E (E k 2)) k=-1:=En.first_none fun j hj=>by
    by_cases e:E j 0=1
    ·by_cases x:E j 2=E k 2
     ·have:=(uh hS').seats.one j k (by have:=uh HK;omega) (uh HK) e k1 x
      omega
     ·simp [En.heroQ,x]
    ·simp [En.heroQ,e]
   have cH:=hide (fun z (hz:Gd.Lists z gC gE gI c E I)=>refHero_same gE k cE E (E k 2) z (hz.own.ents.front (by have:=uh HK;omega)))
   rw [hno] at cH
   clear k1 hs hno
   go_upto_region 13 with fail
   go_quiet (first | (go_at_call 45;refine Calls.quiet_of_same (uh cH _ ?_);exact (uh hL3).on (gdw (World.grownBy.refl _ none) _)) | fail)
   have hgf:=hide (gdw (uh hg4) nq)
   clear d0 d2 b5 cH s1 s2 q7 q8
   go_wp2
   go_ret
   exact ⟨rfl,uh hgf⟩
  ·have k1':(E k 0 == 1)=false:=by simp [k1]
   have k1'':(E k 0 != 1)=true:=by simp [k1]
   have hs:=(uh hS').seats.none k (uh HK) (uh H0) k1
   rw [hs] at d2
   clear k1 hs
   go_upto_region 13 with fail
   go_quiet (fail)
   have hgf:=hide (gdw (uh hg4) nq)
   clear d0 d2 b5 q7 q8
   go_wp2
   go_ret
   exact ⟨rfl,uh hgf⟩


open Go.RowKit

set_option maxRecDepth 16000 in
set_option maxHeartbeats 3200000 in
theorem snapCheck_any (s g c:Nat→Int) (E I:Nat→Nat→Int) (gC gE gI cC cE cI:Nat) (w:World) (hL:Gd.Lists w gC gE gI c E I) (hG:Cr.Good ⟨s,g,c,E,I⟩) (hc:32≤cE) (a1:0≤s 1) (a2:s 1<1073741824) :
  Calls Tryz.prog 11 #[.agg (Gd.world s gC gE gI cC cE cI g)] w (Says w (.int .i64 0)):=by
 obtain ⟨w0,hw0⟩:∃w0,w0=w.alloc (.cells (Gd.world s gC gE gI cC cE cI g) 31):=⟨_,rfl⟩
 have hg0:w.grownBy w0 none:=by rw [hw0];exact World.grownBy_alloc _ _ _
 have hO:Hid (Gd.Shown w w0 w.heap.size gC gE gI cC cE cI s g c E I):=by
  refine ⟨?_,hL.on hg0,hg0⟩
  rw [hw0]
  exact (Arr.world (heap_alloc_new w _)).lie
 have hh:=hide (fun x (hx:Gd.Lists x gC gE gI c E I)=>snapHead_any s g c E I gC gE gI cC cE cI x hx hG a1 a2)
 have he:=hide (fun x (hx:Gd.Lists x gC gE gI c E I) k (hk:k<32)=>snapEnt_any s g c E I gC gE gI cC cE cI k x hx hG.sane hc hk)
 have hd:=hide (fun x (hx:Gd.Lists x gC gE gI c E I)=>refCheck_any s g c E I gC gE gI cC cE cI x hx hG.sane.fit.cells)
 have hok:=hide hG.sane.fit.ok
 try dsimp only at hok
 clear hL hG hg0 hc a1 a2
 unfold Gd.world at hw0 hh he hd ⊢
 go_enter Tryz.func11,Tryz.ntmps11
 go_upto_region 1 with fail
 rw [←hw0]
 clear hw0
 obtain ⟨B,hB⟩:∃B,w.heap.size=B:=⟨_,rfl⟩
 rw [hB] at hO ⊢
 clear hB
 obtain ⟨b0,b1,b2,b3,b4,b5,b6,b7,b8,b9,b10⟩:=(uh hO).box.eleven
 go_wp2_with fail
 refine (uh hh _ (uh hO).lists).mono ?_
 rintro e w1 ⟨rfl,hg⟩
 have hO1:=hide ((uh hO).on hg)
 clear hg hO hh b0 b1 b2 b3 b4 b5 b6 b7 b8 b9 b10
 go_wp2_with fail
 go_loopw [3,4] (fun v3 v4 wr=>∃i:Nat,i≤32∧v3=.int .i64 0∧v4=.int .i64 (i:Int)∧Hid (Gd.Shown w wr B gC gE gI cC cE cI s g c E I)) (fun _ v4 _=>40 - (intOf v4).toNat)
 case atStart=>exact ⟨0,by omega,rfl,rfl,hO1⟩
 case round =>
  clear hO1
  obtain ⟨i,hi,rfl,rfl,hO⟩:=hrel
  obtain ⟨b0,b1,b2,b3,b4,b5,b6,b7,b8,b9,b10⟩:=(uh hO).box.eleven
  by_cases hlt:i<32
  ·have hlt':(i:Int)<32:=by omega
   have HL:=hide hlt
   have ce:=hide (uh he wr (uh hO).lists i hlt)
   clear hlt hi
   go_wp2_with fail
   refine (uh ce).mono ?_
   rintro e w2 ⟨rfl,hg⟩
   have hO2:=hide ((uh hO).on hg)
   clear hg hO ce b0 b1 b2 b3 b4 b5 b6 b7 b8 b9 b10
   go_wp2
   go_roundw
   case rel=>exact ⟨i+1,by have:=uh HL;omega,rfl,by go_num,hO2⟩
   case measure=>simp [intOf];have:=uh HL;omega
  ·obtain rfl:i=32:=by omega
   have hge:¬((32:Nat):Int)<32:=by omega
   clear hlt hi
   go_wp2_with fail
   refine (uh hd _ (uh hO).lists).mono ?_
   rintro e w3 ⟨b,rfl,hb,hg⟩
   obtain rfl:b=true:=hb.2 (uh hok)
   have hgf:=hide (gtr (uh hO).grown hg)
   clear hb hg hO b0 b1 b2 b3 b4 b5 b6 b7 b8 b9 b10 hd he
   go_wp2
   go_ret
   exact ⟨rfl,uh hgf⟩

end Go.Proofs.YtepppmepilffcaaGreat
