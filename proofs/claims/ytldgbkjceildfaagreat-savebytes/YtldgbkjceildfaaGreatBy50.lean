import Derived.Test.YtldgbkjceildfaaGreatBy31
import Derived.Test.YtldgbkjceildfaaGreatBy48
import Derived.Test.YtldgbkjceildfaaGreatBy49
import Derived.Test.YtldgbkjceildfaaGreatBy43
import Derived.Test.YtldgbkjceildfaaGreatBy44
import Derived.Test.YtldgbkjceildfaaGreatBy45
import Derived.Test.YtldgbkjceildfaaGreatBy46
import Derived.Test.YtldgbkjceildfaaGreatBy47
namespace Go.Proofs.YtldgbkjceildfaaGreat
open Go.RowKit

theorem Cr.IsNew.head {seed:Int} {T:Cr.W} (h:Cr.IsNew seed T):T.s 0=seed∧T.s 1=0:=by
 obtain ⟨c,es,is,_,rfl⟩:=h;exact ⟨rfl,rfl⟩


open Go.RowKit

def Md.Tell (b:Bool) (p:Prop):Prop:=b=true↔p

theorem Md.to_bool {p:Prop} {b:Bool} (h:b=true↔p):(b=false↔¬p):=by
 cases b
 ·exact ⟨fun _ hp=>by have:=h.2 hp;simp at this,fun _=>rfl⟩
 ·exact ⟨fun h'=>by simp at h',fun hp=>absurd (h.1 rfl) hp⟩

set_option maxRecDepth 8000 in
set_option maxHeartbeats 12800000 in
theorem refMonster_any (s g c:Nat→Int) (E I:Nat→Nat→Int) (gC gE gI cC cE cI:Nat) (row:Int) (w:World) (hL:Gd.Lists w gC gE gI c E I) (hc:∀i,0≤c i∧c i≤255) (hcE:32≤cE) (hE:Md.Fine E) :
  Calls Tryz.prog 47 #[.agg (Gd.world s gC gE gI cC cE cI g),.int .i64 row] w (Md.Says w (Md.IsMonster s c E row)):=by
 obtain ⟨w0,hw0⟩:∃w0,w0=w.alloc (.cells (Gd.world s gC gE gI cC cE cI g) 30):=⟨_,rfl⟩;have hg0:w.grownBy w0 none:=by rw [hw0];exact World.grownBy_alloc _ _ _
 have hO:Hid (Gd.Shown w w0 w.heap.size gC gE gI cC cE cI s g c E I):=by
  refine ⟨?_,hL.on hg0,hg0⟩;rw [hw0];exact (Arr.world (heap_alloc_new w _)).lie
 have hc':=hide hc;have hcE':=hide hcE;have hE':=hide hE;have hdef:Hid (∀v,Md.IsMonster s c E row v↔if (row<0∨32≤row)∨E row.toNat 0=0∨E row.toNat 0=1 then v=0 else Md.monsterAt s c E row.toNat v):=fun v=>Iff.rfl;have hnone:Hid (((row<0∨32≤row)∨E row.toNat 0=0∨E row.toNat 0=1)→Md.Says w (Md.IsMonster s c E row) (.returned (.int .i64 0)) w0):=fun h=>⟨0,(uh hdef 0).2 (by rw [if_pos h]),rfl,hg0⟩;clear hL hc hcE hE hg0;unfold Gd.world at hw0 ⊢;go_enter Tryz.func47,Tryz.ntmps47;go_upto_region 1 with fail;rw [←hw0];clear hw0;obtain ⟨B,hB⟩:∃B,w.heap.size=B:=⟨_,rfl⟩;rw [hB] at hO ⊢;clear hB;have q5:=(uh hO).box.eleven.2.2.2.2.2.1;by_cases r0:row<0
 ·have hfin:=hide (uh hnone (.inl (.inl r0)));clear hnone hdef;go_wp2;go_ret;exact uh hfin
 by_cases r9:32≤row
 ·have hfin:=hide (uh hnone (.inl (.inr r9)));clear hnone hdef;go_wp2;go_ret;exact uh hfin
 obtain ⟨k,rfl⟩:∃k:Nat,row=(k:Int):=⟨row.toNat,by omega⟩;have hk:k<32:=by omega
 have hk':(k:Int)<32:=by omega
 have HK:=hide hk;rw [Int.toNat_natCast] at hnone;have u0:=((uh hO).lists.own.ents.row hk).1;by_cases k0:E k 0=0
 ·have hfin:=hide (uh hnone (.inr (.inl k0)));rw [k0] at u0;clear hnone hdef k0 r0 r9;go_wp2;go_ret;exact uh hfin
 by_cases k1:E k 0=1
 ·have hfin:=hide (uh hnone (.inr (.inr k1)));rw [k1] at u0;clear hnone hdef k0 k1 r0 r9;go_wp2;go_ret;exact uh hfin
 have hto:Hid (∀v,Md.monsterAt s c E k v→Md.IsMonster s c E (k:Int) v):=fun v hv=>(uh hdef v).2 (by
  rw [Int.toNat_natCast,if_neg (by omega)];exact hv)
 obtain ⟨x0,x9,y0,y9,-,-⟩:=uh hE' k hk k0;have k0':(E k 0 == 0)=false:=by simpa using k0
 have k1':(E k 0 == 1)=false:=by simpa using k1
 obtain ⟨-,u1,u2,u3,u4,u5,u6,u7,u8,u9,u10⟩:=(uh hO).lists.own.ents.row hk;have hQ:=hide (Lie.copied w0 (E k) 70);have hO2:=hide ((uh hO).on (World.grownBy_alloc w0 (.cells (En.cells (E k)) 70) none));clear hk k0 k1 hnone hdef r0 r9;unfold En.cells at hQ hO2;go_upto_region 4 with fail;obtain ⟨Q,hQe⟩:∃Q,w0.heap.size=Q:=⟨_,rfl⟩;rw [hQe] at hQ ⊢;generalize w0.alloc (.cells #[.int .i64 (E k 0),.int .i64 (E k 1),.int .i64 (E k 2),.int .i64 (E k 3),.int .i64 (E k 4),.int .i64 (E k 5),.int .i64 (E k 6),.int .i64 (E k 7),.int .i64 (E k 8),.int .i64 (E k 9),.int .i64 (E k 10)] 70)=w2 at hQ hO2 ⊢;clear hQe q5 u0 u1 u2 u3 u4 u5 u6 u7 u8 u9 u10 hO k0' k1';have hmon:Hid (∀v,Md.monsterAt s c E k v↔∃b a,Md.Seen c E (E k 3) (E k 4) 4 b a∧((a<0∧v=Md.stray s c E k)∨∃h:Nat,a=(h:Int)∧if 0<Nv.beside (E h 3 - E k 3) (E h 4 - E k 4) then v=Nv.beside (E h 3 - E k 3) (E h 4 - E k 4) else Nv.IsToward c (fun _=>E h 4*24+E h 3) 1 E 32 (E k 3) (E k 4) v)):=fun v=>Iff.rfl;have hstr:Hid (Md.stray s c E k=if (1≤Dc.die 8 (s 0) [s 1,(k:Int),90]∧Dc.die 8 (s 0) [s 1,(k:Int),90]≤4)∧Gr.walkB (Gr.at 384 c (E k 3+(Fx.way (Dc.die 8 (s 0) [s 1,(k:Int),90])).1) (E k 4+(Fx.way (Dc.die 8 (s 0) [s 1,(k:Int),90])).2))=true∧En.first (En.atQ E (E k 3+(Fx.way (Dc.die 8 (s 0) [s 1,(k:Int),90])).1) (E k 4+(Fx.way (Dc.die 8 (s 0) [s 1,(k:Int),90])).2)) 32<0 then Dc.die 8 (s 0) [s 1,(k:Int),90] else 0):=rfl;obtain ⟨x,hx⟩:∃x,E k 3=x:=⟨_,rfl⟩;obtain ⟨y,hy⟩:∃y,E k 4=y:=⟨_,rfl⟩;have hQ3:Hid (∀z,w2.grownBy z none→z.cell? ⟨Q,3,none⟩=some (.int .i64 x)∧z.cell? ⟨Q,4,none⟩=some (.int .i64 y)):=fun z hz=>by
  have h3:=((uh hQ).on hz).cell (c:=3) (by omega);have h4:=((uh hQ).on hz).cell (c:=4) (by omega);rw [←hx,←hy];exact ⟨h3,h4⟩
 rw [hx] at x0 x9 hmon hstr;rw [hy] at y0 y9 hmon hstr;clear hx hy hQ;have hg2:=hide (World.grownBy.refl w2 none);go_upto_block 0 with fail
 go_cut [6,7] from 8 (fun vb va wx=>∃b a:Int,vb=.int .i64 b∧va=.int .i64 a∧Hid (Md.Seen c E x y 4 b a)∧Hid (a=-1∨∃h:Nat,h<32∧a=(h:Int)∧E h 0=1)∧Hid (Gd.Shown w wx B gC gE gI cC cE cI s g c E I)∧Hid (w2.grownBy wx none))
 case first =>
  go_wp2_with fail
  go_loopw [6,7,8,9,10,11,12] (fun v6 v7 v8 v9 v10 v11 v12 wr=>∃(t:Nat) (b a:Int),t≤4∧v6=.int .i64 b∧v7=.int .i64 a∧v8=.int .i64 (t:Int)∧Hid (Md.Seen c E x y t b a)∧Hid (a=-1∨∃h:Nat,h<32∧a=(h:Int)∧E h 0=1)∧Hid (Gd.Shown w wr B gC gE gI cC cE cI s g c E I)∧Hid (w2.grownBy wr none)) (fun _ _ v8 _ _ _ _ _=>10 - (intOf v8).toNat)
  case atStart=>exact ⟨0,0,-1,by omega,rfl,rfl,rfl,⟨rfl,rfl⟩,.inl rfl,hO2,hg2⟩
  case round =>
   clear hO2 hg2;obtain ⟨t,b,a,ht,rfl,rfl,rfl,hSeen,hAt,hO2,hg2⟩:=hrel;by_cases hlt:t<4
   ·have hlt':(t:Int)<4:=by omega
    have HT:=hide hlt;have q5:=(uh hO2).box.eleven.2.2.2.2.2.1;have ch:=hide (refHero7_any gE cE E (t:Int) wr (uh hO2).lists.own);have hrow:=hide (@Md.hero_row E (t:Int));obtain ⟨h0,hh⟩:∃h,Gd.hero E (t:Int)=h:=⟨_,rfl⟩;have hh':=hide hh;rw [hh] at ch;clear hh hlt ht;go_wp2_with fail;refine (uh ch).mono ?_;rintro e w3 ⟨rfl,hg⟩;have hO3:=hide ((uh hO2).on hg);have hg3:=hide (gtr (uh hg2) hg);clear hg ch q5 hO2 hg2;by_cases hneg:h0<0
    ·have hs2:Hid (Md.Seen c E x y (t+1) b a):=⟨b,a,uh hSeen,.inl ⟨by rw [uh hh'];exact hneg,rfl,rfl⟩⟩;clear hrow hh';go_wp2;go_roundw;case rel=>exact ⟨t+1,b,a,by have:=uh HT;omega,rfl,rfl,by go_num,hs2,hAt,hO3,hg3⟩
     case measure=>simp [intOf];have:=uh HT;omega
    obtain ⟨h,hh32,hhe,hk1,-⟩:=uh hrow (by rw [uh hh'];omega);obtain rfl:h0=(h:Int):=by rw [←uh hh'];exact hhe
    obtain ⟨p0,p9,r0,r9,-,-⟩:=uh hE' h hh32 (by omega);have HH:=hide (show h<32∧E h 0=1 from ⟨hh32,hk1⟩);have hh3:(h:Int)<32:=by omega
    have q5:=(uh hO3).box.eleven.2.2.2.2.2.1;have u3:=((uh hO3).lists.own.ents.row hh32).2.2.2.1;have u4:=((uh hO3).lists.own.ents.row hh32).2.2.2.2.1;clear hrow hhe hk1 hneg hh32;go_upto_region 10 with fail
    go_cut [10,11] from 51 to 105 (fun va vb wx=>va=.int .i64 (E h 3)∧vb=.int .i64 (E h 4)∧Hid (Gd.Shown w wx B gC gE gI cC cE cI s g c E I)∧Hid (w2.grownBy wx none))
    case first =>
     go_quiet (fail);go_wp2_with fail;go_meet;exact ⟨rfl,rfl,(uh hO3).on (gdw (World.grownBy.refl _ none) _),gdw (uh hg3) _⟩
    case rest =>
     clear q5 u3 u4 hO3 hg3;obtain ⟨rfl,rfl,hO3,hg3⟩:=hcut;have q4:=(uh hO3).box.eleven.2.2.2.2.1;have z3:=(uh hQ3 wc (uh hg3)).1;have z4:=(uh hQ3 wc (uh hg3)).2;have hstep:Hid (∀b' a',(∃r:Int,Fx.isRoot (((E h 3 - x)*(E h 3 - x)+(E h 4 - y)*(E h 4 - y))*65536) r∧((Md.Takes c x y (E h 3) (E h 4) r b a∧b'=r∧a'=(h:Int))∨(¬Md.Takes c x y (E h 3) (E h 4) r b a∧b'=b∧a'=a)))→Md.Seen c E x y (t+1) b' a'):=fun b' a' hr=>by
      obtain ⟨r,h1,h2⟩:=hr;exact ⟨b,a,uh hSeen,.inr ⟨h,r,uh hh',h1,h2⟩⟩
     have cd:=hide (refDist_any (E h 3 - x) (E h 4 - y) wc (by omega) (by omega) (by omega) (by omega));have cs:=hide (refSees_any (some ⟨gC,0,none⟩) 384 cC c x y (E h 3) (E h 4) wc (uh hO3).lists.vec (uh hc'));obtain ⟨X,hX⟩:∃z,E h 3=z:=⟨_,rfl⟩;obtain ⟨Y,hY⟩:∃z,E h 4=z:=⟨_,rfl⟩;rw [hX] at cd cs hstep p0 p9;rw [hY] at cd cs hstep r0 r9;rw [hX,hY];have w1:IntKind.i64.wrap (X - x)=X - x:=by rw [IntKind.wrap_i64];omega
     have w2':IntKind.i64.wrap (Y - y)=Y - y:=by rw [IntKind.wrap_i64];omega
     clear hX hY hSeen hh';go_wp2_with fail;refine (uh cd).mono ?_;rintro e wy ⟨r,rfl,hr,hy⟩;subst wy;have hr':=hide hr;clear hr cd;go_upto_region 12 with fail
     go_cut [103] from 51 to 102 (fun va wx=>∃p:Bool,va=.bool p∧Hid (Md.Tell p (Md.Takes c x y X Y r b a))∧Hid (Gd.Shown w wx B gC gE gI cC cE cI s g c E I)∧Hid (w2.grownBy wx none))
     case first =>
      by_cases hd:r≤1536
      ·go_wp2_with fail;refine (uh cs).mono ?_;rintro e wz ⟨q,rfl,hq,hb⟩;have hg:=below_grown hb;have hO4:=hide ((uh hO3).on hg);have hg4:=hide (gtr (uh hg3) hg);have hq':=hide hq;clear hb hg hq cs;cases q
       ·have hno:Hid (Md.Tell false (Md.Takes c x y X Y r b a)):=⟨fun h=>by simp at h,fun h=>(uh hq').2 h.2.1⟩;go_wp2_with fail;go_meet;exact ⟨false,rfl,hno,hO4,hg4⟩
       ·by_cases ha:a<0
        ·have hyes:Hid (Md.Tell true (Md.Takes c x y X Y r b a)):=⟨fun _=>⟨hd,(uh hq').1 rfl,.inl ha⟩,fun _=>rfl⟩;go_wp2_with fail;go_meet;exact ⟨true,rfl,hyes,hO4,hg4⟩
        ·by_cases hb:r<b
         ·have hyes:Hid (Md.Tell true (Md.Takes c x y X Y r b a)):=⟨fun _=>⟨hd,(uh hq').1 rfl,.inr hb⟩,fun _=>rfl⟩;go_wp2_with fail;go_meet;exact ⟨true,by first | rfl | (simp [hb];done) | (simp;omega),hyes,hO4,hg4⟩
         ·have hno:Hid (Md.Tell false (Md.Takes c x y X Y r b a)):=⟨fun h=>by simp at h,fun h=>by rcases h.2.2 with h | h <;> omega⟩;go_wp2_with fail;go_meet;exact ⟨false,by first | rfl | (simp [hb];done) | (simp;omega),hno,hO4,hg4⟩
      ·have hno:Hid (Md.Tell false (Md.Takes c x y X Y r b a)):=⟨fun h=>by simp at h,fun h=>absurd h.1 hd⟩;clear cs;go_wp2_with fail;go_meet;exact ⟨false,rfl,hno,hO3,hg3⟩
     case rest =>
      clear q4 z3 z4 cs hO3 hg3;obtain ⟨p,rfl,hp,hO3,hg3⟩:=hcut;cases p
      ·have hs2:Hid (Md.Seen c E x y (t+1) b a):=uh hstep b a ⟨r,uh hr',.inr ⟨(Md.to_bool (uh hp)).1 rfl,rfl,rfl⟩⟩;go_wp2;go_roundw;case rel=>exact ⟨t+1,b,a,by have:=uh HT;omega,rfl,rfl,by go_num,hs2,hAt,hO3,hg3⟩
       case measure=>simp [intOf];have:=uh HT;omega
      ·have hs2:Hid (Md.Seen c E x y (t+1) r (h:Int)):=uh hstep r (h:Int) ⟨r,uh hr',.inl ⟨(uh hp).1 rfl,rfl,rfl⟩⟩;go_wp2;go_roundw;case rel=>exact ⟨t+1,r,(h:Int),by have:=uh HT;omega,rfl,rfl,by go_num,hs2,.inr ⟨h,(uh HH).1,rfl,(uh HH).2⟩,hO3,hg3⟩
       case measure=>simp [intOf];have:=uh HT;omega
   ·obtain rfl:t=4:=by omega
    have hge:¬((4:Nat):Int)<4:=by omega
    clear hlt ht;go_wp2_with fail;go_meet;exact ⟨b,a,rfl,rfl,hSeen,hAt,hO2,hg2⟩
 case rest =>
  clear hO2 hg2;obtain ⟨b,a,rfl,rfl,hSeen,hAt,hO2,hg2⟩:=hcut;rcases uh hAt with rfl|⟨h,hh32,rfl,hk1⟩
  ·have hres:Hid (∀v wx,v=Md.stray s c E k→w.grownBy wx none→Md.Says w (Md.IsMonster s c E (k:Int)) (.returned (.int .i64 v)) wx):=fun v wx hv hg=>⟨v,uh hto v ((uh hmon v).2 ⟨b,-1,uh hSeen,.inl ⟨by omega,hv⟩⟩),rfl,hg⟩;have bd:=Dc.die_bd 8 (s 0) [s 1,(k:Int),90] (by omega);have cd:Hid (∀b,b=wc.heap.size→Calls Tryz.prog 81 #[.int .i64 8,.int .i64 (s 0),.slice (some ⟨b,0,none⟩) 3 3] (wc.alloc (.cells #[.int .i64 (s 1),.int .i64 (k:Int),.int .i64 90] 3)) fun e w'=>e=.returned (.int .i64 (Dc.die 8 (s 0) [s 1,(k:Int),90]))∧w'=wc.alloc (.cells #[.int .i64 (s 1),.int .i64 (k:Int),.int .i64 90] 3)):=fun b hb=>by
    subst hb;exact refDie_row 8 (s 0) _ 3 3 _ _ (Row.three wc (s 1) (k:Int) 90 3) (by omega)
   obtain ⟨d,hd⟩:∃d,Dc.die 8 (s 0) [s 1,(k:Int),90]=d:=⟨_,rfl⟩;rw [hd] at cd bd hstr;obtain ⟨bd0,bd8⟩:=bd;have hgz:=World.grownBy_alloc wc (.cells #[.int .i64 (s 1),.int .i64 (k:Int),.int .i64 90] 3) none;have hO3:=hide ((uh hO2).on hgz);have hg3:=hide (gtr (uh hg2) hgz);have q0:=(uh hO2).box.eleven.1;have q1:=(uh hO2).box.eleven.2.1;have hzero:Hid (¬((1≤d∧d≤4)∧Gr.walkB (Gr.at 384 c (x+(Fx.way d).1) (y+(Fx.way d).2))=true∧En.first (En.atQ E (x+(Fx.way d).1) (y+(Fx.way d).2)) 32<0)→0=Md.stray s c E k):=fun h=>by rw [uh hstr,if_neg h]
   have hdie:Hid (((1≤d∧d≤4)∧Gr.walkB (Gr.at 384 c (x+(Fx.way d).1) (y+(Fx.way d).2))=true∧En.first (En.atQ E (x+(Fx.way d).1) (y+(Fx.way d).2)) 32<0)→d=Md.stray s c E k):=fun h=>by rw [uh hstr,if_pos h]
   clear hd hgz hmon hto hstr hSeen hAt;go_upto_region 20 with fail;go_wp2_with fail;refine (uh cd _ rfl).mono ?_;rintro e wy ⟨rfl,hy⟩;rw [←hy] at hO3 hg3;clear hy q0 q1 cd hO2 hg2;by_cases h1:1≤d;rotate_left
   ·have hfin:=hide (uh hres 0 wy (uh hzero (fun h=>h1 h.1.1)) (uh hO3).grown);clear hzero hdie hres;go_wp2;go_ret;exact uh hfin
   by_cases h4:d≤4;rotate_left
   ·have hfin:=hide (uh hres 0 wy (uh hzero (fun h=>h4 h.1.2)) (uh hO3).grown);clear hzero hdie hres;go_wp2;go_ret;exact uh hfin
   obtain ⟨n,rfl⟩:∃n:Nat,d=(n:Int):=⟨d.toNat,by omega⟩;obtain ⟨s1,s2,s3,s4⟩:=Md.way_small n;have cw:=hide (fun wq=>refWay_any (n:Int) wq);have ca:=hide (refAt_any wy.heap.size (some ⟨gC,0,none⟩) 384 cC c (x+(Fx.way (n:Int)).1) (y+(Fx.way (n:Int)).2) wy (uh hO3).lists.vec (uh hc'));have ce:=hide (entRefAt_same gE 32 cE E (x+(Fx.way (n:Int)).1) (y+(Fx.way (n:Int)).2) wy (uh hO3).lists.own.ents);obtain ⟨dx,hdx⟩:∃z,(Fx.way (n:Int)).1=z:=⟨_,rfl⟩;obtain ⟨dy,hdy⟩:∃z,(Fx.way (n:Int)).2=z:=⟨_,rfl⟩;rw [hdx] at s1 s2 cw ca ce hzero hdie;rw [hdy] at s3 s4 cw ca ce hzero hdie;obtain ⟨z,hz⟩:∃z,En.first (En.atQ E (x+dx) (y+dy)) 32=z:=⟨_,rfl⟩;obtain ⟨a,ha⟩:∃z,Gr.at 384 c (x+dx) (y+dy)=z:=⟨_,rfl⟩;have ck:=hide (refWalk_any a wy);obtain ⟨q,hq⟩:∃z,Gr.walkB a=z:=⟨_,rfl⟩;rw [hz] at ce hzero hdie;rw [ha] at ca hzero hdie;rw [hq] at ck hzero hdie;have w1:IntKind.i64.wrap (x+dx)=x+dx:=by rw [IntKind.wrap_i64];omega
   have w3:IntKind.i64.wrap (y+dy)=y+dy:=by rw [IntKind.wrap_i64];omega
   have q4:=(uh hO3).box.eleven.2.2.2.2.1;have q5:=(uh hO3).box.eleven.2.2.2.2.2.1;have z3:=(uh hQ3 wy (uh hg3)).1;have z4:=(uh hQ3 wy (uh hg3)).2;clear hdx hdy hz ha hq;go_wp2_with fail;refine (uh cw _).mono ?_;rintro e wq ⟨rfl,hy⟩;subst wq;go_wp2_with fail;refine (uh ca).mono ?_;rintro e wq ⟨rfl,hy⟩;subst wq;go_wp2_with fail;refine (uh ck).mono ?_;rintro e wq ⟨rfl,hy⟩;subst wq;clear cw ca ck;cases q
   ·have hfin:=hide (uh hres 0 wy (uh hzero (fun h=>by simpa using h.2.1)) (uh hO3).grown);clear hzero hdie hres ce;go_wp2;go_ret;exact uh hfin
   ·go_wp2_with fail;refine (uh ce).mono ?_;rintro e wq ⟨rfl,hy⟩;subst wq;clear ce;by_cases hzn:z<0
    ·have hfin:=hide (uh hres (n:Int) wy (uh hdie ⟨⟨h1,h4⟩,by first | rfl | trivial,hzn⟩) (uh hO3).grown);clear hzero hdie hres;go_wp2;go_ret;exact uh hfin
    ·have hfin:=hide (uh hres 0 wy (uh hzero (fun h=>hzn h.2.2)) (uh hO3).grown);clear hzero hdie hres;go_wp2;go_ret;exact uh hfin
  ·have hres:Hid (∀v wx,(if 0<Nv.beside (E h 3 - x) (E h 4 - y) then v=Nv.beside (E h 3 - x) (E h 4 - y) else Nv.IsToward c (fun _=>E h 4*24+E h 3) 1 E 32 x y v)→w.grownBy wx none→Md.Says w (Md.IsMonster s c E (k:Int)) (.returned (.int .i64 v)) wx):=fun v wx hv hg=>⟨v,uh hto v ((uh hmon v).2 ⟨b,(h:Int),uh hSeen,.inr ⟨h,rfl,hv⟩⟩),rfl,hg⟩;obtain ⟨p0,p9,r0,r9,-,-⟩:=uh hE' h hh32 (by omega);have HH:=hide hh32;have hh3:(h:Int)<32:=by omega
   have q5:=(uh hO2).box.eleven.2.2.2.2.2.1;have u3:=((uh hO2).lists.own.ents.row hh32).2.2.2.1;have u4:=((uh hO2).lists.own.ents.row hh32).2.2.2.2.1;clear hmon hstr hto hSeen hAt hk1 hh32;go_upto_region 15 with fail
   go_cut [13,14] from 15 (fun va vb wx=>va=.int .i64 (E h 3)∧vb=.int .i64 (E h 4)∧Hid (Gd.Shown w wx B gC gE gI cC cE cI s g c E I)∧Hid (w2.grownBy wx none))
   case first =>
    go_quiet (fail);go_wp2_with fail;go_meet;exact ⟨rfl,rfl,(uh hO2).on (gdw (World.grownBy.refl _ none) _),gdw (uh hg2) _⟩
   case rest =>
    clear q5 u3 u4 hO2 hg2;obtain ⟨rfl,rfl,hO3,hg3⟩:=hcut;obtain ⟨X,hX⟩:∃z,E h 3=z:=⟨_,rfl⟩;obtain ⟨Y,hY⟩:∃z,E h 4=z:=⟨_,rfl⟩;rw [hX] at hres p0 p9;rw [hY] at hres r0 r9;rw [hX,hY];have q4:=(uh hO3).box.eleven.2.2.2.2.1;have q5:=(uh hO3).box.eleven.2.2.2.2.2.1;have z3:=(uh hQ3 wc (uh hg3)).1;have z4:=(uh hQ3 wc (uh hg3)).2;have cb:=refBeside_any x y X Y wc (by omega) (by omega) (by omega) (by omega);rw [wrap64_id (X - x) (by omega),wrap64_id (Y - y) (by omega)] at cb;have cb':=hide cb;obtain ⟨d,hd⟩:∃d,Nv.beside (X - x) (Y - y)=d:=⟨_,rfl⟩;rw [hd] at cb' hres;clear hX hY cb hd;go_wp2_with fail;refine (uh cb').mono ?_;rintro e wy ⟨rfl,hy⟩;subst wy;clear cb';by_cases hd:0<d
    ·have hfin:=hide (uh hres d wc (by rw [if_pos hd]) (uh hO3).grown);clear hres;go_wp2;go_ret;exact uh hfin
    ·have hgz:=hide (World.grownBy_alloc wc (.cells #[.int .i64 (Y*24+X)] 3) none);have ct:Hid (∀b,b=wc.heap.size→Calls Tryz.prog 73 #[.slice (some ⟨gC,0,none⟩) 384 cC,.slice (some ⟨gE,0,none⟩) 32 cE,.int .i64 x,.int .i64 y,.slice (some ⟨b,0,none⟩) 1 1] (wc.alloc (.cells #[.int .i64 (Y*24+X)] 3)) (Nv.SaysToward (wc.alloc (.cells #[.int .i64 (Y*24+X)] 3)) c (fun _=>Y*24+X) 1 E 32 x y)):=fun b hb=>by
      subst hb;have hL:=(uh hO3).lists.on (uh hgz);exact refToward_any (some ⟨gC,0,none⟩) (some ⟨wc.heap.size,0,none⟩) cC gE 32 cE 1 1 c (fun _=>Y*24+X) E x y _ hL.vec (uh hc') hL.own.ents (uh hcE') (Nv.one_row wc (Y*24+X) 3) (fun _=>by omega)
     have hres2:Hid (∀v wx,Nv.IsToward c (fun _=>Y*24+X) 1 E 32 x y v→w.grownBy wx none→Md.Says w (Md.IsMonster s c E (k:Int)) (.returned (.int .i64 v)) wx):=fun v wx hv hg=>uh hres v wx (by rw [if_neg hd];exact hv) hg;obtain ⟨M,hM⟩:∃M,Y*24+X=M:=⟨_,rfl⟩;have w1:IntKind.i64.wrap (Y*24)=Y*24:=by rw [IntKind.wrap_i64];omega
     have w3:IntKind.i64.wrap (Y*24+X)=Y*24+X:=by rw [IntKind.wrap_i64];omega
     rw [hM] at hgz ct hres2;have w4:IntKind.i64.wrap M=M:=by rw [←hM];exact w3
     clear hres w3;go_wp2_with fail;refine (uh ct _ rfl).mono ?_;rintro e w4 ⟨v,hv,rfl,hg⟩;have hfin:=hide (uh hres2 v w4 hv (gtr (uh hO3).grown (gtr (uh hgz) hg)));clear hv hg hres2 ct;go_wp2;go_ret;exact uh hfin


open Go.RowKit

set_option maxRecDepth 8000 in
set_option maxHeartbeats 12800000 in
theorem refDo_none (s g c:Nat→Int) (E I:Nat→Nat→Int) (gC gE gI cC cE cI:Nat) (seat input:Int) (w:World) (hL:Gd.Lists w gC gE gI c E I) (hno:¬(0≤seat∧seat<4∧0≤Gd.hero E seat)) :
  Calls Tryz.prog 46 #[.agg (Gd.world s gC gE gI cC cE cI g),.int .i64 seat,.int .i64 input] w (Gd.Worlds w s g c E I):=by
 obtain ⟨w0,hw0,hbox,hres,hg0,hsz⟩:=Gd.boxes w gC gE gI cC cE cI s g;have ca':=hide (refTwin_any s g c E I gC gE gI cC cE cI w0 (hL.on hg0));obtain ⟨b0,b1,b2,b3,b4,b5,b6,b7,b8,b9,b10⟩:=hbox.eleven;have hbx:=hide hbox;have hrs:=hide hres;have hg0':=hide hg0;have hsz':=hide hsz;have hfB:=hbox.free;have hno':=hide hno;clear hL hbox hres hg0 hsz hno;unfold Gd.world at hw0 ca' ⊢;go_enter Tryz.func46,Tryz.ntmps46;go_upto_region 1 with fail;rw [←hw0];clear hw0;obtain ⟨B,hB⟩:∃B,w.heap.size=B:=⟨_,rfl⟩;rw [hB] at hbx hrs hsz' b0 b1 b2 b3 b4 b5 b6 b7 b8 b9 b10 ⊢;have hB':=hide hB;rw [hB] at hfB;clear hB
 go_cut [] from 7 (fun wx=>∃g1 g2 g3 c1 c2 c3,Hid (Gd.Boxed w wx B g1 g2 g3 c1 c2 c3 s g c E I))
 case first =>
  go_wp2_with fail;refine (uh ca').mono ?_;rintro e w1 ⟨g1,g2,g3,c1,c2,c3,rfl,hcap,l1,l2,l3,n1,n2,n3,hL1,hg1⟩;obtain ⟨y0,y1,y2,y3,y4,y5,y6,y7,y8,y9,y10⟩:=((uh hbx).on hg1).eleven;have fB:=((uh hbx).on hg1).free;have fin:Hid (Gd.Boxed w (w1.setCells B 0 (Gd.world s g1 g2 g3 c1 c2 c3 g).toList) B g1 g2 g3 c1 c2 c3 s g c E I):=Gd.Boxed.new (uh hbx) (uh hrs) (uh hg0') (uh hB') (uh hsz') hcap l1 l2 l3 n1 n2 n3 hL1 hg1;unfold Gd.world at fin ⊢;clear hcap l1 l2 l3 n1 n2 n3 hL1 hg1 b0 b1 b2 b3 b4 b5 b6 b7 b8 b9 b10 hfB ca';go_wp2_with fail;go_meet;exact ⟨g1,g2,g3,c1,c2,c3,fin⟩
 case rest =>
  obtain ⟨g1,g2,g3,c1,c2,c3,hX⟩:=hcut;clear b0 b1 b2 b3 b4 b5 b6 b7 b8 b9 b10 hfB ca' hbx hrs hg0' hsz' hB';clear w0;have b5:=(uh hX).hold.box.eleven.2.2.2.2.2.1;have ch:=refHero7_any g2 c2 E seat wc (uh hX).hold.lists.own;obtain ⟨h,hh⟩:∃h,Gd.hero E seat=h:=⟨_,rfl⟩;rw [hh] at ch hno';have ch':=hide ch;clear ch hh;go_wp2_with fail;refine (uh ch').mono ?_;rintro e w2 ⟨rfl,hg2⟩;have hbx:=hide ((uh hX).on hg2);clear hg2 ch' b5 hX;obtain ⟨b0,b1,b2,b3,b4,b5,b6,b7,b8,b9,b10⟩:=(uh hbx).hold.box.eleven;have fz:=(uh hbx).res.free;obtain ⟨z0,z1,z2,z3,z4,z5,z6,z7,z8,z9,z10⟩:=Gd.res_cells (uh hbx).res;have hfin:=hide (fun vs=>(uh hbx).worlds vs);have hn:=uh hno';clear hno';by_cases h0:h<0
  ·clear hn;go_wp2;refine bodyPost_ret (v:=.agg (Gd.world s g1 g2 g3 c1 c2 c3 g)) (by simp [results,Tryz.results46,go_sem,Gd.world,z0,z1,z2,z3,z4,z5,z6,z7,z8,z9,z10]) rfl ?_;exact uh hfin [_,_,_,_,_,_,_,_,_,_,_]
  ·by_cases h1:seat<0
   ·clear hn;go_wp2;refine bodyPost_ret (v:=.agg (Gd.world s g1 g2 g3 c1 c2 c3 g)) (by simp [results,Tryz.results46,go_sem,Gd.world,z0,z1,z2,z3,z4,z5,z6,z7,z8,z9,z10]) rfl ?_;exact uh hfin [_,_,_,_,_,_,_,_,_,_,_]
   ·have h2:¬seat<4:=by omega
    clear hn;go_wp2;refine bodyPost_ret (v:=.agg (Gd.world s g1 g2 g3 c1 c2 c3 g)) (by simp [results,Tryz.results46,go_sem,Gd.world,z0,z1,z2,z3,z4,z5,z6,z7,z8,z9,z10]) rfl ?_;exact uh hfin [_,_,_,_,_,_,_,_,_,_,_]

theorem refDo_any (s g c:Nat→Int) (E I:Nat→Nat→Int) (gC gE gI cC cE cI:Nat) (seat input:Int) (w:World) (hL:Gd.Lists w gC gE gI c E I) (F:Gd.Fine c g E I) :
  Calls Tryz.prog 46 #[.agg (Gd.world s gC gE gI cC cE cI g),.int .i64 seat,.int .i64 input] w (Gd.Worlds w s (Gd.nextG c g E I seat input) c (Gd.nextE E I seat input) (Gd.nextI c g E I seat input)):=by
 unfold Gd.nextG Gd.nextE Gd.nextI;by_cases hc:0≤seat∧seat<4∧0≤Gd.hero E seat
 ·obtain ⟨s0,s4,h0⟩:=hc;obtain ⟨t,rfl⟩:∃t:Nat,seat=(t:Int):=⟨seat.toNat,by omega⟩;obtain ⟨k,hk,hh,he,_⟩:=Gd.hero_pos h0;have hc:0≤(t:Int)∧(t:Int)<4∧0≤Gd.hero E (t:Int):=⟨s0,s4,h0⟩;rw [if_pos hc,if_pos hc,if_pos hc,hh,Int.toNat_natCast,Int.toNat_natCast];exact Gd.does (input:=input) F (by omega) hk (fun a b d e f h=>refDo_one s g c E I gC gE gI cC cE cI t k w hL (by omega) hk hh input F.cells fun _ p0 _ _=>p0 a b d e f h) (fun a b d=>refDo_one s g c E I gC gE gI cC cE cI t k w hL (by omega) hk hh input F.cells fun _ _ p1 _=>p1 a b d) (fun a b d e f h i=>refDo_one s g c E I gC gE gI cC cE cI t k w hL (by omega) hk hh input F.cells fun _ _ _ p2=>p2 a b d e f h i) (fun a b d e f h i j=>refDo_two s g c E I gC gE gI cC cE cI t k w hL (by omega) hk hh input F.cells fun _ p0 _ _=>p0 a b d e f h i j) (fun a b d e f h i j=>refDo_two s g c E I gC gE gI cC cE cI t k w hL (by omega) hk hh input F.cells fun _ _ p1 _=>p1 a b d e f h i j) (fun a b d=>refDo_two s g c E I gC gE gI cC cE cI t k w hL (by omega) hk hh input F.cells fun _ _ _ p2=>p2 a b d) (fun a b d e f h i=>refDo_three s g c E I gC gE gI cC cE cI t k w hL (by omega) hk hh input F.cells fun _ p0 _ _=>p0 a b d e f h i) (fun a b d=>refDo_three s g c E I gC gE gI cC cE cI t k w hL (by omega) hk hh input F.cells fun _ _ p1 _=>p1 a b d) (fun a b d e f h i j=>refDo_four s g c E I gC gE gI cC cE cI t k w hL (by omega) hk hh input F.cells fun _ p0 _ _=>p0 a b d e f h i j) (fun a b d e f h i j l m n=>refDo_four s g c E I gC gE gI cC cE cI t k w hL (by omega) hk hh input F.cells fun _ _ p1 _=>p1 a b d e f h i j l m n) (fun a b d=>refDo_three s g c E I gC gE gI cC cE cI t k w hL (by omega) hk hh input F.cells fun _ _ _ p2=>p2 a b d) (fun a b d e f h=>refDo_four s g c E I gC gE gI cC cE cI t k w hL (by omega) hk hh input F.cells fun _ _ _ p2=>p2 a b d e f h) (fun a b d e f h=>refDo_five s g c E I gC gE gI cC cE cI t k w hL (by omega) hk hh input F.cells fun _ p0 _=>p0 a b d e f h) (fun a b d=>refDo_five s g c E I gC gE gI cC cE cI t k w hL (by omega) hk hh input F.cells fun _ _ p1=>p1 a b d) (fun a b d e=>refDo_six s g c E I gC gE gI cC cE cI t k w hL (by omega) hk hh input F.cells fun _ p0 _=>p0 a b d e) (fun a b d e f=>refDo_six s g c E I gC gE gI cC cE cI t k w hL (by omega) hk hh input F.cells fun _ _ p1=>p1 a b d e f) (fun a b d e f h i=>refDo_seven s g c E I gC gE gI cC cE cI t k w hL (by omega) hk hh input F.cells fun _ p0 _=>p0 a b d e f h i) (fun a b d e f h i j l m=>refDo_seven s g c E I gC gE gI cC cE cI t k w hL (by omega) hk hh input F.cells fun _ _ p1=>p1 a b d e f h i j l m)
 ·rw [if_neg hc,if_neg hc,if_neg hc];exact refDo_none s g c E I gC gE gI cC cE cI seat input w hL hc

end Go.Proofs.YtldgbkjceildfaaGreat

namespace Go.Proofs.YtldgbkjceildfaaGreat
open Go.RowKit Go.ChangeShapes Go.WideShapes

theorem Cr.wf_bound {n:Int} (h:(Lit.int .i64 n).wf=true):-9223372036854775808≤n∧n≤9223372036854775807:=by
 simp only [Lit.wf,Bool.and_eq_true,decide_eq_true_eq,show IntKind.i64.min=-9223372036854775808 from by decide,show IntKind.i64.max=9223372036854775807 from by decide] at h;exact h

theorem open_row {H:Type} {enc:TypeId × Value→H} {w:World} {base:Nat} {sp:Nat→Bool} {held:Bool} {fuel:Nat} {a:Option Addr} {len cap:Nat} {x:DataW H × List MemPlace} (h:DataW.trod enc Tryz.prog w base sp held fuel 23 [.slice a len cap]=some x):∃z,len≤maxLen∧Cr.Nums w a len z:=by
 rcases Go.Deep.open_slice Tryz.underlying23 h with ⟨hcs,_⟩|⟨a',len',cap',m,n,D,Pl,hcs,_,hl,hm,hmm,_,hx⟩
 ·simp only [List.cons.injEq,Value.slice.injEq,and_true] at hcs;obtain ⟨rfl,rfl,rfl⟩:=hcs;exact ⟨fun _=>0,Nat.zero_le _,fun i hi=>absurd hi (Nat.not_lt_zero i)⟩
 ·simp only [List.cons.injEq,Value.slice.injEq,and_true] at hcs;obtain ⟨rfl,rfl,rfl⟩:=hcs;have hc1:Tryz.prog.cellsOf 3=1:=by kernel_rfl
  rw [hc1] at hx;have hlm:len≤m:=by rw [hmm];split <;> omega
  obtain ⟨z,hz⟩:∃z:Nat→Int,∀i,i<len→w.cell? (a'.add (i*1))=some (.int .i64 (z i))∧(Lit.int .i64 (z i)).wf=true:=by
   refine Go.Deep.choose_lt (α:=Int) (p:=fun i e=>w.cell? (a'.add (i*1))=some (.int .i64 e)∧(Lit.int .i64 e).wf=true) fun i hi=>?_;obtain ⟨cs',h1,h2⟩:=hx i (by omega);obtain ⟨_,hlen,hcell⟩:=World.cells?_some h1;obtain ⟨e,rfl,_,hw⟩:=DataW.trod_int Tryz.underlying3 h2;have h0:=hcell 0 (by omega);exact ⟨e,by simpa [Addr.add] using h0,hw⟩
  refine ⟨z,Nat.le_trans hl hm,fun i hi=>?_⟩;obtain ⟨b,off,spot⟩:=a';have hc0:=(hz i hi).1;have hspot:spot=none:=by simpa [Addr.add] using World.cell?_spot (hz 0 (by omega)).1
  subst hspot;rw [add_plain,Nat.mul_one] at hc0;have hb:=Go.block_lt_of_cell hc0;exact ⟨b,off,rfl,hb,hc0,Cr.wf_bound (hz i hi).2⟩

def Cr.Came (w:World) (a:Option Addr) (len:Nat) (V:Nat→Option Addr × Nat × Nat) (z:Nat→Nat→Int):Prop :=
 len≤maxLen∧∀i,i<len→∃b o,a=some ⟨b,o,none⟩∧b<w.heap.size∧w.cell? ⟨b,o+i,none⟩=some (.slice (V i).1 (V i).2.1 (V i).2.2)∧(V i).2.1≤maxLen∧Cr.Nums w (V i).1 (V i).2.1 (z i)

theorem Cr.Came.on {w w':World} {a:Option Addr} {len:Nat} {V:Nat→Option Addr × Nat × Nat} {z:Nat→Nat→Int} (h:Cr.Came w a len V z) (hg:w.grownBy w' none):Cr.Came w' a len V z :=
 ⟨h.1,fun i hi=>by
  obtain ⟨b,o,ha,hb,hc,hn,hz⟩:=h.2 i hi;exact ⟨b,o,ha,Nat.lt_of_lt_of_le hb hg.size,(gce hg b _ hb (by simp)).trans hc,hn,hz.on hg⟩⟩

theorem open_rows {H:Type} {enc:TypeId × Value→H} {w:World} {base:Nat} {sp:Nat→Bool} {held:Bool} {fuel:Nat} {a:Option Addr} {len cap:Nat} {x:DataW H × List MemPlace} (h:DataW.trod enc Tryz.prog w base sp held fuel 22 [.slice a len cap]=some x):∃V z,Cr.Came w a len V z:=by
 rcases Go.Deep.open_slice Tryz.underlying22 h with ⟨hcs,_⟩|⟨a',len',cap',m,n,D,Pl,hcs,_,hl,hm,hmm,_,hx⟩
 ·simp only [List.cons.injEq,Value.slice.injEq,and_true] at hcs;obtain ⟨rfl,rfl,rfl⟩:=hcs;exact ⟨fun _=>(none,0,0),fun _ _=>0,Nat.zero_le _,fun i hi=>absurd hi (Nat.not_lt_zero i)⟩
 ·simp only [List.cons.injEq,Value.slice.injEq,and_true] at hcs;obtain ⟨rfl,rfl,rfl⟩:=hcs;have hc1:Tryz.prog.cellsOf 23=1:=by kernel_rfl
  rw [hc1] at hx;have hlm:len≤m:=by rw [hmm];split <;> omega
  obtain ⟨q,hq⟩:∃q:Nat→(Option Addr × Nat × Nat) × (Nat→Int),∀i,i<len→w.cell? (a'.add (i*1))=some (.slice (q i).1.1 (q i).1.2.1 (q i).1.2.2)∧(q i).1.2.1≤maxLen∧Cr.Nums w (q i).1.1 (q i).1.2.1 (q i).2:=by
   refine Go.Deep.choose_lt (α:=(Option Addr × Nat × Nat) × (Nat→Int)) (p:=fun i e=>w.cell? (a'.add (i*1))=some (.slice e.1.1 e.1.2.1 e.1.2.2)∧e.1.2.1≤maxLen∧Cr.Nums w e.1.1 e.1.2.1 e.2) fun i hi=>?_;obtain ⟨cs',h1,h2⟩:=hx i (by omega);obtain ⟨_,hlen,hcell⟩:=World.cells?_some h1;have h0:=hcell 0 (by omega);obtain ⟨r,l,k,rfl⟩:∃r l k,cs'=[.slice r l k]:=by
    rcases Go.Deep.open_slice Tryz.underlying23 h2 with ⟨hcs,_⟩|⟨a2,len2,cap2,_,_,_,_,hcs,_⟩
    ·exact ⟨none,0,0,hcs⟩
    ·exact ⟨some a2,len2,cap2,hcs⟩
   obtain ⟨z,hz1,hz2⟩:=open_row h2;exact ⟨((r,l,k),z),by simpa [Addr.add] using h0,hz1,hz2⟩
  refine ⟨fun i=>(q i).1,fun i=>(q i).2,Nat.le_trans hl hm,fun i hi=>?_⟩;obtain ⟨b,off,spot⟩:=a';have hc0:=(hq i hi).1;have hspot:spot=none:=by simpa [Addr.add] using World.cell?_spot (hq 0 (by omega)).1
  subst hspot;rw [add_plain,Nat.mul_one] at hc0;exact ⟨b,off,rfl,Go.block_lt_of_cell hc0,hc0,(hq i hi).2.1,(hq i hi).2.2⟩

end Go.Proofs.YtldgbkjceildfaaGreat
