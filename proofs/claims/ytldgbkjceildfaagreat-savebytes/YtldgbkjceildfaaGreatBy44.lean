import Derived.Test.YtldgbkjceildfaaGreatBy20
namespace Go.Proofs.YtldgbkjceildfaaGreat
open Go.RowKit

def Md.Tell (b:Bool) (p:Prop):Prop:=b=true↔p

theorem Md.to_bool {p:Prop} {b:Bool} (h:b=true↔p):(b=false↔¬p):=by
 cases b
 ·exact ⟨fun _ hp=>by have:=h.2 hp;simp at this,fun _=>rfl⟩
 ·exact ⟨fun h'=>by simp at h',fun hp=>absurd (h.1 rfl) hp⟩

set_option maxRecDepth 8000 in
set_option maxHeartbeats 12800000 in
theorem refMonster_any (s g c:Nat→Int) (E I:Nat→Nat→Int) (gC gE gI cC cE cI:Nat) (row:Int) (w:World) (hL:Gd.Lists w gC gE gI c E I) (hc:∀i,0≤c i∧c i≤255) (hcE:32≤cE) (hE:Md.Fine E) :
  Calls Tryz.prog 47 #[.agg (Gd.world s gC gE gI cC cE cI g),.int .i64 row] w (Md.Says w (Md.IsMonster s c E row)):=by
 obtain ⟨w0,hw0⟩:∃w0,w0=w.alloc (.cells (Gd.world s gC gE gI cC cE cI g) 30):=⟨_,rfl⟩
 have hg0:w.grownBy w0 none:=by rw [hw0];exact World.grownBy_alloc _ _ _
 have hO:Hid (Gd.Shown w w0 w.heap.size gC gE gI cC cE cI s g c E I):=by
  refine ⟨?_,hL.on hg0,hg0⟩
  rw [hw0]
  exact (Arr.world (heap_alloc_new w _)).lie
 have hc':=hide hc
 have hcE':=hide hcE
 have hE':=hide hE
 have hdef:Hid (∀v,Md.IsMonster s c E row v↔if (row<0∨32≤row)∨E row.toNat 0=0∨E row.toNat 0=1 then v=0 else Md.monsterAt s c E row.toNat v):=fun v=>Iff.rfl
 have hnone:Hid (((row<0∨32≤row)∨E row.toNat 0=0∨E row.toNat 0=1)→Md.Says w (Md.IsMonster s c E row) (.returned (.int .i64 0)) w0):=fun h=>⟨0,(uh hdef 0).2 (by rw [if_pos h]),rfl,hg0⟩
 clear hL hc hcE hE hg0
 unfold Gd.world at hw0 ⊢
 go_enter Tryz.func47,Tryz.ntmps47
 go_upto_region 1 with fail
 rw [←hw0]
 clear hw0
 obtain ⟨B,hB⟩:∃B,w.heap.size=B:=⟨_,rfl⟩
 rw [hB] at hO ⊢
 clear hB
 have q5:=(uh hO).box.eleven.2.2.2.2.2.1
 by_cases r0:row<0
 ·have hfin:=hide (uh hnone (.inl (.inl r0)))
  clear hnone hdef
  go_wp2
  go_ret
  exact uh hfin
 by_cases r9:32≤row
 ·have hfin:=hide (uh hnone (.inl (.inr r9)))
  clear hnone hdef
  go_wp2
  go_ret
  exact uh hfin
 obtain ⟨k,rfl⟩:∃k:Nat,row=(k:Int):=⟨row.toNat,by omega⟩
 have hk:k<32:=by omega
 have hk':(k:Int)<32:=by omega
 have HK:=hide hk
 rw [Int.toNat_natCast] at hnone
 have u0:=((uh hO).lists.own.ents.row hk).1
 by_cases k0:E k 0=0
 ·have hfin:=hide (uh hnone (.inr (.inl k0)))
  rw [k0] at u0
  clear hnone hdef k0 r0 r9
  go_wp2
  go_ret
  exact uh hfin
 by_cases k1:E k 0=1
 ·have hfin:=hide (uh hnone (.inr (.inr k1)))
  rw [k1] at u0
  clear hnone hdef k0 k1 r0 r9
  go_wp2
  go_ret
  exact uh hfin
 have hto:Hid (∀v,Md.monsterAt s c E k v→Md.IsMonster s c E (k:Int) v):=fun v hv=>(uh hdef v).2 (by
  rw [Int.toNat_natCast,if_neg (by omega)]
  exact hv)
 obtain ⟨x0,x9,y0,y9,-,-⟩:=uh hE' k hk k0
 have k0':(E k 0 == 0)=false:=by simpa using k0
 have k1':(E k 0 == 1)=false:=by simpa using k1
 obtain ⟨-,u1,u2,u3,u4,u5,u6,u7,u8,u9,u10⟩:=(uh hO).lists.own.ents.row hk
 have hQ:=hide (Lie.copied w0 (E k) 70)
 have hO2:=hide ((uh hO).on (World.grownBy_alloc w0 (.cells (En.cells (E k)) 70) none))
 clear hk k0 k1 hnone hdef r0 r9
 unfold En.cells at hQ hO2
 go_upto_region 4 with fail
 obtain ⟨Q,hQe⟩:∃Q,w0.heap.size=Q:=⟨_,rfl⟩
 rw [hQe] at hQ ⊢
 generalize w0.alloc (.cells #[.int .i64 (E k 0),.int .i64 (E k 1),.int .i64 (E k 2),.int .i64 (E k 3),.int .i64 (E k 4),.int .i64 (E k 5),.int .i64 (E k 6),.int .i64 (E k 7),.int .i64 (E k 8),.int .i64 (E k 9),.int .i64 (E k 10)] 70)=w2 at hQ hO2 ⊢
 clear hQe q5 u0 u1 u2 u3 u4 u5 u6 u7 u8 u9 u10 hO k0' k1'
 have hmon:Hid (∀v,Md.monsterAt s c E k v↔∃b a,Md.Seen c E (E k 3) (E k 4) 4 b a∧((a<0∧v=Md.stray s c E k)∨∃h:Nat,a=(h:Int)∧if 0<Nv.beside (E h 3 - E k 3) (E h 4 - E k 4) then v=Nv.beside (E h 3 - E k 3) (E h 4 - E k 4) else Nv.IsToward c (fun _=>E h 4*24+E h 3) 1 E 32 (E k 3) (E k 4) v)):=fun v=>Iff.rfl
 have hstr:Hid (Md.stray s c E k=if (1≤Dc.die 8 (s 0) [s 1,(k:Int),90]∧Dc.die 8 (s 0) [s 1,(k:Int),90]≤4)∧Gr.walkB (Gr.at 384 c (E k 3+(Fx.way (Dc.die 8 (s 0) [s 1,(k:Int),90])).1) (E k 4+(Fx.way (Dc.die 8 (s 0) [s 1,(k:Int),90])).2))=true∧En.first (En.atQ E (E k 3+(Fx.way (Dc.die 8 (s 0) [s 1,(k:Int),90])).1) (E k 4+(Fx.way (Dc.die 8 (s 0) [s 1,(k:Int),90])).2)) 32<0 then Dc.die 8 (s 0) [s 1,(k:Int),90] else 0):=rfl
 obtain ⟨x,hx⟩:∃x,E k 3=x:=⟨_,rfl⟩
 obtain ⟨y,hy⟩:∃y,E k 4=y:=⟨_,rfl⟩
 have hQ3:Hid (∀z,w2.grownBy z none→z.cell? ⟨Q,3,none⟩=some (.int .i64 x)∧z.cell? ⟨Q,4,none⟩=some (.int .i64 y)):=fun z hz=>by
  have h3:=((uh hQ).on hz).cell (c:=3) (by omega)
  have h4:=((uh hQ).on hz).cell (c:=4) (by omega)
  rw [←hx,←hy]
  exact ⟨h3,h4⟩
 rw [hx] at x0 x9 hmon hstr
 rw [hy] at y0 y9 hmon hstr
 clear hx hy hQ
 have hg2:=hide (World.grownBy.refl w2 none)
 go_upto_block 0 with fail
 go_cut [6,7] from 8 (fun vb va wx=>∃b a:Int,vb=.int .i64 b∧va=.int .i64 a∧Hid (Md.Seen c E x y 4 b a)∧Hid (a=-1∨∃h:Nat,h<32∧a=(h:Int)∧E h 0=1)∧Hid (Gd.Shown w wx B gC gE gI cC cE cI s g c E I)∧Hid (w2.grownBy wx none))
 case first =>
  go_wp2_with fail
  go_loopw [6,7,8,9,10,11,12] (fun v6 v7 v8 v9 v10 v11 v12 wr=>∃(t:Nat) (b a:Int),t≤4∧v6=.int .i64 b∧v7=.int .i64 a∧v8=.int .i64 (t:Int)∧Hid (Md.Seen c E x y t b a)∧Hid (a=-1∨∃h:Nat,h<32∧a=(h:Int)∧E h 0=1)∧Hid (Gd.Shown w wr B gC gE gI cC cE cI s g c E I)∧Hid (w2.grownBy wr none)) (fun _ _ v8 _ _ _ _ _=>10 - (intOf v8).toNat)
  case atStart=>exact ⟨0,0,-1,by omega,rfl,rfl,rfl,⟨rfl,rfl⟩,.inl rfl,hO2,hg2⟩
  case round =>
   clear hO2 hg2
   obtain ⟨t,b,a,ht,rfl,rfl,rfl,hSeen,hAt,hO2,hg2⟩:=hrel
   by_cases hlt:t<4
   ·have hlt':(t:Int)<4:=by omega
    have HT:=hide hlt
    have q5:=(uh hO2).box.eleven.2.2.2.2.2.1
    have ch:=hide (refHero7_any gE cE E (t:Int) wr (uh hO2).lists.own)
    have hrow:=hide (@Md.hero_row E (t:Int))
    obtain ⟨h0,hh⟩:∃h,Gd.hero E (t:Int)=h:=⟨_,rfl⟩
    have hh':=hide hh
    rw [hh] at ch
    clear hh hlt ht
    go_wp2_with fail
    refine (uh ch).mono ?_
    rintro e w3 ⟨rfl,hg⟩
    have hO3:=hide ((uh hO2).on hg)
    have hg3:=hide (gtr (uh hg2) hg)
    clear hg ch q5 hO2 hg2
    by_cases hneg:h0<0
    ·have hs2:Hid (Md.Seen c E x y (t+1) b a):=⟨b,a,uh hSeen,.inl ⟨by rw [uh hh'];exact hneg,rfl,rfl⟩⟩
     clear hrow hh'
     go_wp2
     go_roundw
     case rel=>exact ⟨t+1,b,a,by have:=uh HT;omega,rfl,rfl,by go_num,hs2,hAt,hO3,hg3⟩
     case measure=>simp [intOf];have:=uh HT;omega
    obtain ⟨h,hh32,hhe,hk1,-⟩:=uh hrow (by rw [uh hh'];omega)
    obtain rfl:h0=(h:Int):=by rw [←uh hh'];exact hhe
    obtain ⟨p0,p9,r0,r9,-,-⟩:=uh hE' h hh32 (by omega)
    have HH:=hide (show h<32∧E h 0=1 from ⟨hh32,hk1⟩)
    have hh3:(h:Int)<32:=by omega
    have q5:=(uh hO3).box.eleven.2.2.2.2.2.1
    have u3:=((uh hO3).lists.own.ents.row hh32).2.2.2.1
    have u4:=((uh hO3).lists.own.ents.row hh32).2.2.2.2.1
    clear hrow hhe hk1 hneg hh32
    go_upto_region 10 with fail
    go_cut [10,11] from 51 to 105 (fun va vb wx=>va=.int .i64 (E h 3)∧vb=.int .i64 (E h 4)∧Hid (Gd.Shown w wx B gC gE gI cC cE cI s g c E I)∧Hid (w2.grownBy wx none))
    case first =>
     go_quiet (fail)
     go_wp2_with fail
     go_meet
     exact ⟨rfl,rfl,(uh hO3).on (gdw (World.grownBy.refl _ none) _),gdw (uh hg3) _⟩
    case rest =>
     clear q5 u3 u4 hO3 hg3
     obtain ⟨rfl,rfl,hO3,hg3⟩:=hcut
     have q4:=(uh hO3).box.eleven.2.2.2.2.1
     have z3:=(uh hQ3 wc (uh hg3)).1
     have z4:=(uh hQ3 wc (uh hg3)).2
     have hstep:Hid (∀b' a',(∃r:Int,Fx.isRoot (((E h 3 - x)*(E h 3 - x)+(E h 4 - y)*(E h 4 - y))*65536) r∧((Md.Takes c x y (E h 3) (E h 4) r b a∧b'=r∧a'=(h:Int))∨(¬Md.Takes c x y (E h 3) (E h 4) r b a∧b'=b∧a'=a)))→Md.Seen c E x y (t+1) b' a'):=fun b' a' hr=>by
      obtain ⟨r,h1,h2⟩:=hr
      exact ⟨b,a,uh hSeen,.inr ⟨h,r,uh hh',h1,h2⟩⟩
     have cd:=hide (refDist_any (E h 3 - x) (E h 4 - y) wc (by omega) (by omega) (by omega) (by omega))
     have cs:=hide (refSees_any (some ⟨gC,0,none⟩) 384 cC c x y (E h 3) (E h 4) wc (uh hO3).lists.vec (uh hc'))
     obtain ⟨X,hX⟩:∃z,E h 3=z:=⟨_,rfl⟩
     obtain ⟨Y,hY⟩:∃z,E h 4=z:=⟨_,rfl⟩
     rw [hX] at cd cs hstep p0 p9
     rw [hY] at cd cs hstep r0 r9
     rw [hX,hY]
     have w1:IntKind.i64.wrap (X - x)=X - x:=by rw [IntKind.wrap_i64];omega
     have w2':IntKind.i64.wrap (Y - y)=Y - y:=by rw [IntKind.wrap_i64];omega
     clear hX hY hSeen hh'
     go_wp2_with fail
     refine (uh cd).mono ?_
     rintro e wy ⟨r,rfl,hr,hy⟩
     subst wy
     have hr':=hide hr
     clear hr cd
     go_upto_region 12 with fail
     go_cut [103] from 51 to 102 (fun va wx=>∃p:Bool,va=.bool p∧Hid (Md.Tell p (Md.Takes c x y X Y r b a))∧Hid (Gd.Shown w wx B gC gE gI cC cE cI s g c E I)∧Hid (w2.grownBy wx none))
     case first =>
      by_cases hd:r≤1536
      ·go_wp2_with fail
       refine (uh cs).mono ?_
       rintro e wz ⟨q,rfl,hq,hb⟩
       have hg:=below_grown hb
       have hO4:=hide ((uh hO3).on hg)
       have hg4:=hide (gtr (uh hg3) hg)
       have hq':=hide hq
       clear hb hg hq cs
       cases q
       ·have hno:Hid (Md.Tell false (Md.Takes c x y X Y r b a)):=⟨fun h=>by simp at h,fun h=>(uh hq').2 h.2.1⟩
        go_wp2_with fail
        go_meet
        exact ⟨false,rfl,hno,hO4,hg4⟩
       ·by_cases ha:a<0
        ·have hyes:Hid (Md.Tell true (Md.Takes c x y X Y r b a)):=⟨fun _=>⟨hd,(uh hq').1 rfl,.inl ha⟩,fun _=>rfl⟩
         go_wp2_with fail
         go_meet
         exact ⟨true,rfl,hyes,hO4,hg4⟩
        ·by_cases hb:r<b
         ·have hyes:Hid (Md.Tell true (Md.Takes c x y X Y r b a)):=⟨fun _=>⟨hd,(uh hq').1 rfl,.inr hb⟩,fun _=>rfl⟩
          go_wp2_with fail
          go_meet
          exact ⟨true,by first | rfl | (simp [hb];done) | (simp;omega),hyes,hO4,hg4⟩
         ·have hno:Hid (Md.Tell false (Md.Takes c x y X Y r b a)):=⟨fun h=>by simp at h,fun h=>by rcases h.2.2 with h | h <;> omega⟩
          go_wp2_with fail
          go_meet
          exact ⟨false,by first | rfl | (simp [hb];done) | (simp;omega),hno,hO4,hg4⟩
      ·have hno:Hid (Md.Tell false (Md.Takes c x y X Y r b a)):=⟨fun h=>by simp at h,fun h=>absurd h.1 hd⟩
       clear cs
       go_wp2_with fail
       go_meet
       exact ⟨false,rfl,hno,hO3,hg3⟩
     case rest =>
      clear q4 z3 z4 cs hO3 hg3
      obtain ⟨p,rfl,hp,hO3,hg3⟩:=hcut
      cases p
      ·have hs2:Hid (Md.Seen c E x y (t+1) b a):=uh hstep b a ⟨r,uh hr',.inr ⟨(Md.to_bool (uh hp)).1 rfl,rfl,rfl⟩⟩
       go_wp2
       go_roundw
       case rel=>exact ⟨t+1,b,a,by have:=uh HT;omega,rfl,rfl,by go_num,hs2,hAt,hO3,hg3⟩
       case measure=>simp [intOf];have:=uh HT;omega
      ·have hs2:Hid (Md.Seen c E x y (t+1) r (h:Int)):=uh hstep r (h:Int) ⟨r,uh hr',.inl ⟨(uh hp).1 rfl,rfl,rfl⟩⟩
       go_wp2
       go_roundw
       case rel=>exact ⟨t+1,r,(h:Int),by have:=uh HT;omega,rfl,rfl,by go_num,hs2,.inr ⟨h,(uh HH).1,rfl,(uh HH).2⟩,hO3,hg3⟩
       case measure=>simp [intOf];have:=uh HT;omega
   ·obtain rfl:t=4:=by omega
    have hge:¬((4:Nat):Int)<4:=by omega
    clear hlt ht
    go_wp2_with fail
    go_meet
    exact ⟨b,a,rfl,rfl,hSeen,hAt,hO2,hg2⟩
 case rest =>
  clear hO2 hg2
  obtain ⟨b,a,rfl,rfl,hSeen,hAt,hO2,hg2⟩:=hcut
  rcases uh hAt with rfl | ⟨h,hh32,rfl,hk1⟩
  ·have hres:Hid (∀v wx,v=Md.stray s c E k→w.grownBy wx none→Md.Says w (Md.IsMonster s c E (k:Int)) (.returned (.int .i64 v)) wx):=fun v wx hv hg=>⟨v,uh hto v ((uh hmon v).2 ⟨b,-1,uh hSeen,.inl ⟨by omega,hv⟩⟩),rfl,hg⟩
   have bd:=Dc.die_bd 8 (s 0) [s 1,(k:Int),90] (by omega)
   have cd:Hid (∀b,b=wc.heap.size→Calls Tryz.prog 81 #[.int .i64 8,.int .i64 (s 0),.slice (some ⟨b,0,none⟩) 3 3] (wc.alloc (.cells #[.int .i64 (s 1),.int .i64 (k:Int),.int .i64 90] 3)) fun e w'=>e=.returned (.int .i64 (Dc.die 8 (s 0) [s 1,(k:Int),90]))∧w'=wc.alloc (.cells #[.int .i64 (s 1),.int .i64 (k:Int),.int .i64 90] 3)):=fun b hb=>by
    subst hb
    exact refDie_row 8 (s 0) _ 3 3 _ _ (Row.three wc (s 1) (k:Int) 90 3) (by omega)
   obtain ⟨d,hd⟩:∃d,Dc.die 8 (s 0) [s 1,(k:Int),90]=d:=⟨_,rfl⟩
   rw [hd] at cd bd hstr
   obtain ⟨bd0,bd8⟩:=bd
   have hgz:=World.grownBy_alloc wc (.cells #[.int .i64 (s 1),.int .i64 (k:Int),.int .i64 90] 3) none
   have hO3:=hide ((uh hO2).on hgz)
   have hg3:=hide (gtr (uh hg2) hgz)
   have q0:=(uh hO2).box.eleven.1
   have q1:=(uh hO2).box.eleven.2.1
   have hzero:Hid (¬((1≤d∧d≤4)∧Gr.walkB (Gr.at 384 c (x+(Fx.way d).1) (y+(Fx.way d).2))=true∧En.first (En.atQ E (x+(Fx.way d).1) (y+(Fx.way d).2)) 32<0)→0=Md.stray s c E k):=fun h=>by rw [uh hstr,if_neg h]
   have hdie:Hid (((1≤d∧d≤4)∧Gr.walkB (Gr.at 384 c (x+(Fx.way d).1) (y+(Fx.way d).2))=true∧En.first (En.atQ E (x+(Fx.way d).1) (y+(Fx.way d).2)) 32<0)→d=Md.stray s c E k):=fun h=>by rw [uh hstr,if_pos h]
   clear hd hgz hmon hto hstr hSeen hAt
   go_upto_region 20 with fail
   go_wp2_with fail
   refine (uh cd _ rfl).mono ?_
   rintro e wy ⟨rfl,hy⟩
   rw [←hy] at hO3 hg3
   clear hy q0 q1 cd hO2 hg2
   by_cases h1:1≤d
   rotate_left
   ·have hfin:=hide (uh hres 0 wy (uh hzero (fun h=>h1 h.1.1)) (uh hO3).grown)
    clear hzero hdie hres
    go_wp2
    go_ret
    exact uh hfin
   by_cases h4:d≤4
   rotate_left
   ·have hfin:=hide (uh hres 0 wy (uh hzero (fun h=>h4 h.1.2)) (uh hO3).grown)
    clear hzero hdie hres
    go_wp2
    go_ret
    exact uh hfin
   obtain ⟨n,rfl⟩:∃n:Nat,d=(n:Int):=⟨d.toNat,by omega⟩
   obtain ⟨s1,s2,s3,s4⟩:=Md.way_small n
   have cw:=hide (fun wq=>refWay_any (n:Int) wq)
   have ca:=hide (refAt_any wy.heap.size (some ⟨gC,0,none⟩) 384 cC c (x+(Fx.way (n:Int)).1) (y+(Fx.way (n:Int)).2) wy (uh hO3).lists.vec (uh hc'))
   have ce:=hide (entRefAt_same gE 32 cE E (x+(Fx.way (n:Int)).1) (y+(Fx.way (n:Int)).2) wy (uh hO3).lists.own.ents)
   obtain ⟨dx,hdx⟩:∃z,(Fx.way (n:Int)).1=z:=⟨_,rfl⟩
   obtain ⟨dy,hdy⟩:∃z,(Fx.way (n:Int)).2=z:=⟨_,rfl⟩
   rw [hdx] at s1 s2 cw ca ce hzero hdie
   rw [hdy] at s3 s4 cw ca ce hzero hdie
   obtain ⟨z,hz⟩:∃z,En.first (En.atQ E (x+dx) (y+dy)) 32=z:=⟨_,rfl⟩
   obtain ⟨a,ha⟩:∃z,Gr.at 384 c (x+dx) (y+dy)=z:=⟨_,rfl⟩
   have ck:=hide (refWalk_any a wy)
   obtain ⟨q,hq⟩:∃z,Gr.walkB a=z:=⟨_,rfl⟩
   rw [hz] at ce hzero hdie
   rw [ha] at ca hzero hdie
   rw [hq] at ck hzero hdie
   have w1:IntKind.i64.wrap (x+dx)=x+dx:=by rw [IntKind.wrap_i64];omega
   have w3:IntKind.i64.wrap (y+dy)=y+dy:=by rw [IntKind.wrap_i64];omega
   have q4:=(uh hO3).box.eleven.2.2.2.2.1
   have q5:=(uh hO3).box.eleven.2.2.2.2.2.1
   have z3:=(uh hQ3 wy (uh hg3)).1
   have z4:=(uh hQ3 wy (uh hg3)).2
   clear hdx hdy hz ha hq
   go_wp2_with fail
   refine (uh cw _).mono ?_
   rintro e wq ⟨rfl,hy⟩
   subst wq
   go_wp2_with fail
   refine (uh ca).mono ?_
   rintro e wq ⟨rfl,hy⟩
   subst wq
   go_wp2_with fail
   refine (uh ck).mono ?_
   rintro e wq ⟨rfl,hy⟩
   subst wq
   clear cw ca ck
   cases q
   ·have hfin:=hide (uh hres 0 wy (uh hzero (fun h=>by simpa using h.2.1)) (uh hO3).grown)
    clear hzero hdie hres ce
    go_wp2
    go_ret
    exact uh hfin
   ·go_wp2_with fail
    refine (uh ce).mono ?_
    rintro e wq ⟨rfl,hy⟩
    subst wq
    clear ce
    by_cases hzn:z<0
    ·have hfin:=hide (uh hres (n:Int) wy (uh hdie ⟨⟨h1,h4⟩,by first | rfl | trivial,hzn⟩) (uh hO3).grown)
     clear hzero hdie hres
     go_wp2
     go_ret
     exact uh hfin
    ·have hfin:=hide (uh hres 0 wy (uh hzero (fun h=>hzn h.2.2)) (uh hO3).grown)
     clear hzero hdie hres
     go_wp2
     go_ret
     exact uh hfin
  ·have hres:Hid (∀v wx,(if 0<Nv.beside (E h 3 - x) (E h 4 - y) then v=Nv.beside (E h 3 - x) (E h 4 - y) else Nv.IsToward c (fun _=>E h 4*24+E h 3) 1 E 32 x y v)→w.grownBy wx none→Md.Says w (Md.IsMonster s c E (k:Int)) (.returned (.int .i64 v)) wx):=fun v wx hv hg=>⟨v,uh hto v ((uh hmon v).2 ⟨b,(h:Int),uh hSeen,.inr ⟨h,rfl,hv⟩⟩),rfl,hg⟩
   obtain ⟨p0,p9,r0,r9,-,-⟩:=uh hE' h hh32 (by omega)
   have HH:=hide hh32
   have hh3:(h:Int)<32:=by omega
   have q5:=(uh hO2).box.eleven.2.2.2.2.2.1
   have u3:=((uh hO2).lists.own.ents.row hh32).2.2.2.1
   have u4:=((uh hO2).lists.own.ents.row hh32).2.2.2.2.1
   clear hmon hstr hto hSeen hAt hk1 hh32
   go_upto_region 15 with fail
   go_cut [13,14] from 15 (fun va vb wx=>va=.int .i64 (E h 3)∧vb=.int .i64 (E h 4)∧Hid (Gd.Shown w wx B gC gE gI cC cE cI s g c E I)∧Hid (w2.grownBy wx none))
   case first =>
    go_quiet (fail)
    go_wp2_with fail
    go_meet
    exact ⟨rfl,rfl,(uh hO2).on (gdw (World.grownBy.refl _ none) _),gdw (uh hg2) _⟩
   case rest =>
    clear q5 u3 u4 hO2 hg2
    obtain ⟨rfl,rfl,hO3,hg3⟩:=hcut
    obtain ⟨X,hX⟩:∃z,E h 3=z:=⟨_,rfl⟩
    obtain ⟨Y,hY⟩:∃z,E h 4=z:=⟨_,rfl⟩
    rw [hX] at hres p0 p9
    rw [hY] at hres r0 r9
    rw [hX,hY]
    have q4:=(uh hO3).box.eleven.2.2.2.2.1
    have q5:=(uh hO3).box.eleven.2.2.2.2.2.1
    have z3:=(uh hQ3 wc (uh hg3)).1
    have z4:=(uh hQ3 wc (uh hg3)).2
    have cb:=refBeside_any x y X Y wc (by omega) (by omega) (by omega) (by omega)
    rw [wrap64_id (X - x) (by omega),wrap64_id (Y - y) (by omega)] at cb
    have cb':=hide cb
    obtain ⟨d,hd⟩:∃d,Nv.beside (X - x) (Y - y)=d:=⟨_,rfl⟩
    rw [hd] at cb' hres
    clear hX hY cb hd
    go_wp2_with fail
    refine (uh cb').mono ?_
    rintro e wy ⟨rfl,hy⟩
    subst wy
    clear cb'
    by_cases hd:0<d
    ·have hfin:=hide (uh hres d wc (by rw [if_pos hd]) (uh hO3).grown)
     clear hres
     go_wp2
     go_ret
     exact uh hfin
    ·have hgz:=hide (World.grownBy_alloc wc (.cells #[.int .i64 (Y*24+X)] 3) none)
     have ct:Hid (∀b,b=wc.heap.size→Calls Tryz.prog 73 #[.slice (some ⟨gC,0,none⟩) 384 cC,.slice (some ⟨gE,0,none⟩) 32 cE,.int .i64 x,.int .i64 y,.slice (some ⟨b,0,none⟩) 1 1] (wc.alloc (.cells #[.int .i64 (Y*24+X)] 3)) (Nv.SaysToward (wc.alloc (.cells #[.int .i64 (Y*24+X)] 3)) c (fun _=>Y*24+X) 1 E 32 x y)):=fun b hb=>by
      subst hb
      have hL:=(uh hO3).lists.on (uh hgz)
      exact refToward_any (some ⟨gC,0,none⟩) (some ⟨wc.heap.size,0,none⟩) cC gE 32 cE 1 1 c (fun _=>Y*24+X) E x y _ hL.vec (uh hc') hL.own.ents (uh hcE') (Nv.one_row wc (Y*24+X) 3) (fun _=>by omega)
     have hres2:Hid (∀v wx,Nv.IsToward c (fun _=>Y*24+X) 1 E 32 x y v→w.grownBy wx none→Md.Says w (Md.IsMonster s c E (k:Int)) (.returned (.int .i64 v)) wx):=fun v wx hv hg=>uh hres v wx (by rw [if_neg hd];exact hv) hg
     obtain ⟨M,hM⟩:∃M,Y*24+X=M:=⟨_,rfl⟩
     have w1:IntKind.i64.wrap (Y*24)=Y*24:=by rw [IntKind.wrap_i64];omega
     have w3:IntKind.i64.wrap (Y*24+X)=Y*24+X:=by rw [IntKind.wrap_i64];omega
     rw [hM] at hgz ct hres2
     have w4:IntKind.i64.wrap M=M:=by rw [←hM];exact w3
     clear hres w3
     go_wp2_with fail
     refine (uh ct _ rfl).mono ?_
     rintro e w4 ⟨v,hv,rfl,hg⟩
     have hfin:=hide (uh hres2 v w4 hv (gtr (uh hO3).grown (gtr (uh hgz) hg)))
     clear hv hg hres2 ct
     go_wp2
     go_ret
     exact uh hfin


open Go.RowKit

def Gd.Wares (I:Nat→Nat→Int) (q:Nat) (iv:Int):Prop:=(iv=-1∧∀j:Nat,j<q→Gd.find I 40 4 (j:Int) 0<0)∨(0≤iv∧iv=Gd.ware I 40)

theorem Gd.Wares.next {I:Nat→Nat→Int} {q:Nat} {iv:Int} (h:Gd.Wares I q iv) (hn:iv<0) (hq:q<3):Gd.Wares I (q+1) (Gd.find I 40 4 (q:Int) 0):=by
 rcases h with ⟨_,hno⟩ | ⟨h0,_⟩
 ·by_cases hf:Gd.find I 40 4 (q:Int) 0<0
  ·refine .inl ⟨(Gd.find_neg hf).1,fun j hj=>?_⟩
   by_cases e:j=q
   ·rw [e];exact hf
   ·exact hno j (by omega)
  ·refine .inr ⟨by omega,?_⟩
   have he:En.first (fun k=>decide (0≤Gd.find I 40 4 (k:Int) 0)) 3=(q:Int):=En.first_hit (fun j hj=>decide_eq_false (by have:=hno j hj;omega)) (decide_eq_true (by omega)) hq
   unfold Gd.ware
   rw [he,if_pos (by omega)]
 ·omega

theorem Gd.Wares.done {I:Nat→Nat→Int} {q:Nat} {iv:Int} (h:Gd.Wares I q iv) (hd:0≤iv∨3≤q):iv=Gd.ware I 40:=by
 rcases h with ⟨h1,hno⟩ | ⟨_,he⟩
 ·have he:En.first (fun k=>decide (0≤Gd.find I 40 4 (k:Int) 0)) 3=-1:=En.first_none (fun j hj=>decide_eq_false (by have:=hno j (by omega);omega))
  unfold Gd.ware
  rw [he,if_neg (by omega)]
  exact h1
 ·exact he


open Go.RowKit

theorem Gd.slot_neg {I:Nat→Nat→Int} {n:Nat} {seat:Int} (h:Gd.slot I n seat<0):Gd.slot I n seat=-1:=by
 unfold Gd.slot at *
 rcases En.first_cases (fun b=>decide (Gd.find I n 2 seat (b:Int)<0)) 4 with ⟨h',_⟩ | ⟨k,hk,h',hq,_⟩
 ·exact h'
 ·omega

theorem Gd.has_neg {I:Nat→Nat→Int} {n:Nat} {seat lo hi:Int} (h:Gd.has I n seat lo hi<0):Gd.has I n seat lo hi=-1:=by
 unfold Gd.has at *
 split at h
 ·rename_i hp
  rw [if_pos hp]
  exact (Gd.find_neg h).1
 ·rename_i hp
  rw [if_neg hp]

theorem Gd.ware_neg {I:Nat→Nat→Int} {n:Nat} (h:Gd.ware I n<0):Gd.ware I n=-1:=by
 unfold Gd.ware at *
 split at h
 ·rename_i hp
  rw [if_pos hp]
  exact (Gd.find_neg h).1
 ·rename_i hp
  rw [if_neg hp]

def Gd.Res (c g:Nat→Int) (E I:Nat→Nat→Int) (t k:Nat) (input:Int) (G:Nat→Int) (F J:Nat→Nat→Int):Prop :=
 Gd.give g t (Gd.goldOf I (t:Int) (E k 3) (E k 4) (decide (Gr.at 384 c (E k 3) (E k 4)=5)) (g t) input)=G∧Gd.entsOf E I k (t:Int) input=F∧Gd.act I 40 (t:Int) (E k 3) (E k 4) (decide (Gr.at 384 c (E k 3) (E k 4)=5)) (g t) input=J

theorem Gd.does {P:Prop} {c g:Nat→Int} {E I:Nat→Nat→Int} {t k:Nat} {input:Int} (F:Gd.Fine c g E I) (ht:t<4) (hk:k<32)
  (other:input≠5→input≠6→input≠7→input≠8→input≠10→Gd.Res c g E I t k input g E I→P)
  (pickNone:input=5→Gd.find I 40 1 (E k 3) (E k 4)=-1→Gd.Res c g E I t k input g E I→P)
  (pickFull:∀m:Nat,input=5→m<40→Gd.find I 40 1 (E k 3) (E k 4)=(m:Int)→I m 0≠4→Gd.slot I 40 (t:Int)=-1→Gd.Res c g E I t k input g E I→P)
  (pickTake:∀m f:Nat,input=5→m<40→Gd.find I 40 1 (E k 3) (E k 4)=(m:Int)→I m 0≠4→Gd.slot I 40 (t:Int)=(f:Int)→Gd.Res c g E I t k input g E (En.put I m (Gd.row (I m 0) 2 (t:Int) (f:Int)))→P)
  (pickGold:∀m:Nat,input=5→m<40→Gd.find I 40 1 (E k 3) (E k 4)=(m:Int)→I m 0=4→0≤g t→g t≤999→Gd.Res c g E I t k input (Gd.give g t (min (g t+5) 999)) E (En.put I m Gd.gone)→P)
  (useNo:input=6→Gd.has I 40 (t:Int) 1 1=-1→Gd.Res c g E I t k input g E I→P)
  (useYes:∀m:Nat,input=6→m<40→Gd.has I 40 (t:Int) 1 1=(m:Int)→0≤E k 5→E k 5≤1000→Gd.Res c g E I t k input g (Gd.heal E k) (En.put I m Gd.gone)→P)
  (wearNo:input=7→Gd.has I 40 (t:Int) 2 3=-1→Gd.Res c g E I t k input g E I→P)
  (wearOne:∀m:Nat,input=7→m<40→Gd.has I 40 (t:Int) 2 3=(m:Int)→2≤I m 0→I m 0≤3→Gd.find I 40 3 (t:Int) (I m 0 - 2)=-1→Gd.Res c g E I t k input g E (En.put I m (Gd.row (I m 0) 3 (I m 2) (I m 0 - 2)))→P)
  (wearTwo:∀m j:Nat,input=7→m<40→j<40→m≠j→Gd.has I 40 (t:Int) 2 3=(m:Int)→2≤I m 0→I m 0≤3→Gd.find I 40 3 (t:Int) (I m 0 - 2)=(j:Int)→Gd.Res c g E I t k input g E (En.put (En.put I j (Gd.row (I j 0) 2 (I j 2) (I m 3))) m (Gd.row (I m 0) 3 (I m 2) (I m 0 - 2)))→P)
  (dropNo:input=8→Gd.has I 40 (t:Int) 1 3=-1→Gd.Res c g E I t k input g E I→P)
  (dropLies:∀m j:Nat,input=8→Gd.has I 40 (t:Int) 1 3=(m:Int)→Gd.find I 40 1 (E k 3) (E k 4)=(j:Int)→Gd.Res c g E I t k input g E I→P)
  (dropYes:∀m:Nat,input=8→m<40→Gd.has I 40 (t:Int) 1 3=(m:Int)→Gd.find I 40 1 (E k 3) (E k 4)=-1→Gd.Res c g E I t k input g E (En.put I m (Gd.row (I m 0) 1 (E k 3) (E k 4)))→P)
  (buyAway:input=10→Gr.at 384 c (E k 3) (E k 4)≠5→Gd.Res c g E I t k input g E I→P)
  (buyPoor:input=10→Gr.at 384 c (E k 3) (E k 4)=5→g t<5→Gd.Res c g E I t k input g E I→P)
  (buyFull:input=10→Gr.at 384 c (E k 3) (E k 4)=5→5≤g t→Gd.slot I 40 (t:Int)=-1→Gd.Res c g E I t k input g E I→P)
  (buyOut:∀f:Nat,input=10→Gr.at 384 c (E k 3) (E k 4)=5→5≤g t→Gd.slot I 40 (t:Int)=(f:Int)→Gd.ware I 40=-1→Gd.Res c g E I t k input g E I→P)
  (buyYes:∀m f:Nat,input=10→m<40→Gr.at 384 c (E k 3) (E k 4)=5→5≤g t→g t≤999→Gd.slot I 40 (t:Int)=(f:Int)→Gd.ware I 40=(m:Int)→Gd.Res c g E I t k input (Gd.give g t (g t - 5)) E (En.put I m (Gd.row (I m 0) 2 (t:Int) (f:Int)))→P):P:=by
 obtain ⟨g0,g9⟩:=F.gold t ht
 obtain ⟨p0,p9⟩:=F.hp k hk
 by_cases i5:input=5
 ·have e6:Gd.entsOf E I k (t:Int) input=E:=by subst i5;exact if_neg (by omega)
  have eg:Gd.goldOf I (t:Int) (E k 3) (E k 4) (decide (Gr.at 384 c (E k 3) (E k 4)=5)) (g t) input=if 0≤Gd.find I 40 1 (E k 3) (E k 4)∧I (Gd.find I 40 1 (E k 3) (E k 4)).toNat 0=4 then min (g t+5) 999 else g t:=by subst i5;rfl
  have ea:Gd.act I 40 (t:Int) (E k 3) (E k 4) (decide (Gr.at 384 c (E k 3) (E k 4)=5)) (g t) input=Gd.pick I 40 (t:Int) (E k 3) (E k 4):=by subst i5;rfl
  unfold Gd.pick at ea
  rcases Gd.find_cases I 40 1 (E k 3) (E k 4) with ⟨hf,_⟩ | ⟨m,hm,hf,_⟩
  ·rw [hf,if_neg (by omega)] at eg
   rw [hf,if_neg (by omega),if_neg (by omega)] at ea
   exact pickNone i5 hf ⟨by rw [eg,Gd.give_same],e6,ea⟩
  ·rw [hf,Int.toNat_natCast] at eg ea
   by_cases h4:I m 0=4
   ·rw [if_pos ⟨by omega,h4⟩] at eg ea
    exact pickGold m i5 hm hf h4 g0 g9 ⟨by rw [eg],e6,ea⟩
   ·rw [if_neg (by omega)] at eg ea
    by_cases hs:0≤Gd.slot I 40 (t:Int)
    ·obtain ⟨f,hf'⟩:∃f:Nat,Gd.slot I 40 (t:Int)=(f:Int):=⟨(Gd.slot I 40 (t:Int)).toNat,by omega⟩
     rw [if_pos ⟨by omega,hs⟩,hf'] at ea
     exact pickTake m f i5 hm hf h4 hf' ⟨by rw [eg,Gd.give_same],e6,ea⟩
    ·rw [if_neg (by omega)] at ea
     exact pickFull m i5 hm hf h4 (Gd.slot_neg (by omega)) ⟨by rw [eg,Gd.give_same],e6,ea⟩
 by_cases i6:input=6
 ·have eg:Gd.goldOf I (t:Int) (E k 3) (E k 4) (decide (Gr.at 384 c (E k 3) (E k 4)=5)) (g t) input=g t:=by subst i6;rfl
  have ee:Gd.entsOf E I k (t:Int) input=if (6:Int)=6∧0≤Gd.has I 40 (t:Int) 1 1 then Gd.heal E k else E:=by subst i6;rfl
  have ea:Gd.act I 40 (t:Int) (E k 3) (E k 4) (decide (Gr.at 384 c (E k 3) (E k 4)=5)) (g t) input=Gd.use I 40 (t:Int):=by subst i6;rfl
  unfold Gd.use at ea
  by_cases hp:0≤Gd.has I 40 (t:Int) 1 1
  ·obtain ⟨m,hm,hm',_⟩:=Gd.has_pos hp
   rw [if_pos ⟨rfl,hp⟩] at ee
   rw [if_pos hp,hm',Int.toNat_natCast] at ea
   exact useYes m i6 hm hm' p0 p9 ⟨by rw [eg,Gd.give_same],ee,ea⟩
  ·rw [if_neg (by omega)] at ee
   rw [if_neg hp] at ea
   exact useNo i6 (Gd.has_neg (by omega)) ⟨by rw [eg,Gd.give_same],ee,ea⟩
 have e6:Gd.entsOf E I k (t:Int) input=E:=if_neg (by omega)
 by_cases i7:input=7
 ·have eg:Gd.goldOf I (t:Int) (E k 3) (E k 4) (decide (Gr.at 384 c (E k 3) (E k 4)=5)) (g t) input=g t:=by subst i7;rfl
  have ea:Gd.act I 40 (t:Int) (E k 3) (E k 4) (decide (Gr.at 384 c (E k 3) (E k 4)=5)) (g t) input=Gd.wear I 40 (t:Int):=by subst i7;rfl
  unfold Gd.wear at ea
  by_cases hp:0≤Gd.has I 40 (t:Int) 2 3
  ·obtain ⟨m,hm,hm',w2,_,_,_,k2,k3⟩:=Gd.has_pos hp
   rw [if_pos hp,hm',Int.toNat_natCast] at ea
   unfold Gd.wearAt at ea
   rcases Gd.find_cases I 40 3 (t:Int) (I m 0 - 2) with ⟨hf,_⟩ | ⟨j,hj,hf,j1,_⟩
   ·rw [hf,if_neg (by omega)] at ea
    exact wearOne m i7 hm hm' k2 k3 hf ⟨by rw [eg,Gd.give_same],e6,ea⟩
   ·rw [hf,if_pos (by omega),Int.toNat_natCast] at ea
    exact wearTwo m j i7 hm hj (by rintro rfl;omega) hm' k2 k3 hf ⟨by rw [eg,Gd.give_same],e6,ea⟩
  ·rw [if_neg hp] at ea
   exact wearNo i7 (Gd.has_neg (by omega)) ⟨by rw [eg,Gd.give_same],e6,ea⟩
 by_cases i8:input=8
 ·have eg:Gd.goldOf I (t:Int) (E k 3) (E k 4) (decide (Gr.at 384 c (E k 3) (E k 4)=5)) (g t) input=g t:=by subst i8;rfl
  have ea:Gd.act I 40 (t:Int) (E k 3) (E k 4) (decide (Gr.at 384 c (E k 3) (E k 4)=5)) (g t) input=Gd.drop I 40 (t:Int) (E k 3) (E k 4):=by subst i8;rfl
  unfold Gd.drop at ea
  by_cases hp:0≤Gd.has I 40 (t:Int) 1 3
  ·obtain ⟨m,hm,hm',_⟩:=Gd.has_pos hp
   rcases Gd.find_cases I 40 1 (E k 3) (E k 4) with ⟨hf,_⟩ | ⟨j,hj,hf,_⟩
   ·rw [if_pos ⟨hp,by omega⟩,hm',Int.toNat_natCast] at ea
    exact dropYes m i8 hm hm' hf ⟨by rw [eg,Gd.give_same],e6,ea⟩
   ·rw [if_neg (by omega)] at ea
    exact dropLies m j i8 hm' hf ⟨by rw [eg,Gd.give_same],e6,ea⟩
  ·rw [if_neg (by omega)] at ea
   exact dropNo i8 (Gd.has_neg (by omega)) ⟨by rw [eg,Gd.give_same],e6,ea⟩
 by_cases i10:input=10
 ·have eg:Gd.goldOf I (t:Int) (E k 3) (E k 4) (decide (Gr.at 384 c (E k 3) (E k 4)=5)) (g t) input=if Gd.buys I 40 (t:Int) (decide (Gr.at 384 c (E k 3) (E k 4)=5)) (g t)=true then g t - 5 else g t:=by subst i10;rfl
  have ea:Gd.act I 40 (t:Int) (E k 3) (E k 4) (decide (Gr.at 384 c (E k 3) (E k 4)=5)) (g t) input=Gd.buy I 40 (t:Int) (decide (Gr.at 384 c (E k 3) (E k 4)=5)) (g t):=by subst i10;rfl
  unfold Gd.buy at ea
  have hbx:Gd.buys I 40 (t:Int) (decide (Gr.at 384 c (E k 3) (E k 4)=5)) (g t)=true↔Gr.at 384 c (E k 3) (E k 4)=5∧5≤g t∧0≤Gd.slot I 40 (t:Int)∧0≤Gd.ware I 40:=by
   unfold Gd.buys
   simp only [Bool.and_eq_true,decide_eq_true_eq]
  have no:¬(Gr.at 384 c (E k 3) (E k 4)=5∧5≤g t∧0≤Gd.slot I 40 (t:Int)∧0≤Gd.ware I 40)→Gd.Res c g E I t k input g E I:=fun h=>by
   rw [if_neg (fun q=>h (hbx.1 q))] at eg ea
   exact ⟨by rw [eg,Gd.give_same],e6,ea⟩
  by_cases hsh:Gr.at 384 c (E k 3) (E k 4)=5
  ·by_cases hg:5≤g t
   ·by_cases hs:0≤Gd.slot I 40 (t:Int)
    ·obtain ⟨f,hf⟩:∃f:Nat,Gd.slot I 40 (t:Int)=(f:Int):=⟨(Gd.slot I 40 (t:Int)).toNat,by omega⟩
     by_cases hw:0≤Gd.ware I 40
     ·obtain ⟨m,hm,hm',_⟩:=Gd.ware_pos hw
      rw [if_pos (hbx.2 ⟨hsh,hg,hs,hw⟩)] at eg ea
      rw [hm',hf,Int.toNat_natCast] at ea
      exact buyYes m f i10 hm hsh hg g9 hf hm' ⟨by rw [eg],e6,ea⟩
     ·exact buyOut f i10 hsh hg hf (Gd.ware_neg (by omega)) (no fun h=>hw h.2.2.2)
    ·exact buyFull i10 hsh hg (Gd.slot_neg (by omega)) (no fun h=>hs h.2.2.1)
   ·exact buyPoor i10 hsh (by omega) (no fun h=>hg h.2.1)
  ·exact buyAway i10 hsh (no fun h=>hsh h.1)
 have hgo:Gd.goldOf I (t:Int) (E k 3) (E k 4) (decide (Gr.at 384 c (E k 3) (E k 4)=5)) (g t) input=g t:=by
  unfold Gd.goldOf
  rw [if_neg i5,if_neg i10]
 have hac:Gd.act I 40 (t:Int) (E k 3) (E k 4) (decide (Gr.at 384 c (E k 3) (E k 4)=5)) (g t) input=I:=by
  unfold Gd.act
  rw [if_neg i5,if_neg i6,if_neg i7,if_neg i8,if_neg i10]
 exact other i5 i6 i7 i8 i10 ⟨by rw [hgo,Gd.give_same],e6,hac⟩

theorem Gd.Boxed.new {w w0 w1:World} {B g1 g2 g3 c1 c2 c3:Nat} {s g c:Nat→Int} {E I:Nat→Nat→Int} {F:Nat→Value} (hbx:Lie w0 B 30 11 F) (hrs:Lie w0 (B+1) 30 11 (fun j=>#[.int .i64 0,.int .i64 0,.int .i64 0,.int .i64 0,.slice none 0 0,.slice none 0 0,.slice none 0 0,.int .i64 0,.int .i64 0,.int .i64 0,Value.int .i64 0][j]?.getD undef)) (hg0:w.grownBy w0 none) (hB:w.heap.size=B) (hs:w0.heap.size=B+2) (hcap:32≤c2) (l1:w0.heap.size≤g1) (l2:w0.heap.size≤g2) (l3:w0.heap.size≤g3) (n1:g1≠g2) (n2:g1≠g3) (n3:g2≠g3) (hL1:Gd.Lists w1 g1 g2 g3 c E I) (hg1:w0.grownBy w1 none):Gd.Boxed w (w1.setCells B 0 (Gd.world s g1 g2 g3 c1 c2 c3 g).toList) B g1 g2 g3 c1 c2 c3 s g c E I:=by
 have r:=gss (g:=B) (Gd.world s g1 g2 g3 c1 c2 c3 g).toList 0 w1 (World.grownBy.refl _ _)
 exact ⟨⟨(hbx.on hg1).whole s g g1 g2 g3 c1 c2 c3,⟨hL1.cells.grown r (by simp;omega),hL1.ents.grown r (by simp;omega),hL1.items.grown r (by simp;omega)⟩,by omega,by omega,by omega,n1,n2,n3⟩,hB,by omega,by omega,by omega,hcap,(hrs.on hg1).grown r (by simp),own_sets (by omega) _ 0 w1 (gtr hg0 hg1)⟩

end Go.Proofs.YtldgbkjceildfaaGreat
