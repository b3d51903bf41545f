import Derived.Test.YtbanjoflgoiegaaGreatPart11
import Derived.Deep.Cut
import Derived.Deep.RegionWith
set_option maxHeartbeats 3200000
namespace Go.Proofs.YtbanjoflgoiegaaGreat
open Go.Proofs.Tryz
open Go.RowKit
variable{I:N2}{x y:World}
theorem jn{P:Nat}{a b c:Int}(h:ax x P 189 3 (fun j=>#[Value.int .i64 a,.int .i64 b,.int .i64 c][j]?.getD undef)):x.cell? ⟨P,0,none⟩=some (.int .i64 a)/\x.cell? ⟨P,1,none⟩=some (.int .i64 b)/\x.cell? ⟨P,2,none⟩=some (.int .i64 c) :=
 ⟨h.cell (i:=0) (by omega),h.cell (i:=1) (by omega),h.cell (i:=2) (by omega)⟩
theorem Mv{Q:Nat}{T:TypeId}{F:Nat->Value}{a b c:Value}(h:ax x Q T 3 F):ax (((x.setCell ⟨Q,0,none⟩ a).setCell ⟨Q,1,none⟩ b).setCell ⟨Q,2,none⟩ c) Q T 3 (fun j=>#[a,b,c][j]?.getD undef):=by
 refine(((h.store 0 a).store 1 b).store 2 c).congr fun j hj=>?_;rcases(show j=0\/j=1\/j=2 by omega)with rfl|rfl|rfl <;> rfl
theorem HW{Q:Nat}{a b c:Value}(h:x.grownBy y none)(hQ:x.heap.size<=Q):x.grownBy (((y.setCell ⟨Q,0,none⟩ a).setCell ⟨Q,1,none⟩ b).setCell ⟨Q,2,none⟩ c) none :=
 gsr (gsr (gsr h ⟨Q,0,none⟩ hQ a) ⟨Q,1,none⟩ hQ b) ⟨Q,2,none⟩ hQ c
theorem ay.put{g m:Nat}{T:TypeId}(h:ay x g T m (Gd.aL I))(k:Nat)(a b c d:Int):ay ((((x.setCell ⟨g,k*4,none⟩ (.int .i64 a)).setCell ⟨g,k*4+1,none⟩ (.int .i64 b)).setCell ⟨g,k*4+2,none⟩ (.int .i64 c)).setCell ⟨g,k*4+3,none⟩ (.int .i64 d)) g T m (Gd.aL (En.put I k (Gd.row a b c d))):=h.Mc k (Gd.row a b c d)
theorem gT{g:Nat}(h:x.grownBy y (some g))(k:Nat)(a b c d:Value):x.grownBy ((((y.setCell ⟨g,k*4,none⟩ a).setCell ⟨g,k*4+1,none⟩ b).setCell ⟨g,k*4+2,none⟩ c).setCell ⟨g,k*4+3,none⟩ d) (some g) :=
 gst (gst (gst (gst h _ _) _ _) _ _) _ _
theorem lD{r:Option Nat}(h:x.grownBy y none):x.grownBy y r :=
 ⟨h.os,h.tape,h.output,h.size,fun i hi _=>h.block i hi (fun e=>by cases e)⟩
theorem Gd.MQ{i f:Nat}(h:Gd.an I 40 3 (I i 2) (I i 0-2)=(f:Int))(h2:I i 1=2):Gd.l7 I 40 (I i 2) i=En.put (En.put I f (Gd.row (I f 0) (I i 1) (I i 2) (I i 3))) i (Gd.row (I i 0) 3 (I i 2) (I i 0-2)):=by
 obtain⟨k,hk,e,_,hka,_⟩:=Gd.gd (I:=I) (n:=40) (w:=3) (a:=I i 2) (b:=I i 0-2) (by omega);have W9:k=f:=by omega
 rw[W9]at hka;unfold Gd.l7;rw[abP (by omega),h,abG,hka,h2]
theorem Gd.MP{i:Nat}(h:Gd.an I 40 3 (I i 2) (I i 0-2)<0):Gd.l7 I 40 (I i 2) i=En.put I i (Gd.row (I i 0) 3 (I i 2) (I i 0-2)):=by
 unfold Gd.l7;rw[abO (by omega)]
theorem PO(g c i:Nat)(I:N2)(w:World)(hL:ay w g 62 160 (Gd.aL I))(hi:i<40)(k0:0<=I i 0)(k1:I i 0<=100)(h2:I i 1=2):Calls prog 184 #[.slice (some ⟨g,0,none⟩) 40 c,.int .i64 (i:Int)] w fun e w'=>e=.returned (.tuple #[])/\ay w' g 62 160 (Gd.aL (Gd.l7 I 40 (I i 2) i))/\w.grownBy w' (some g):=by
 have GR:(i:Int)<40:=by omega
 have mr:=aa hL;have hn:=hL.fo (n:=40) (by omega) (by omega);obtain⟨u0,u1,u2,u3⟩:=hn.row hi;have cp:=aa (oR (I i 0) (I i 1) (I i 2) (I i 3) w);have NL:=aa h2;clear hL hn h2;go_enter func184,ntmps184;go_wp2_with fail;refine aaR (uh cp) fun w1 hg1=>?_;clear cp u0 u1 u2 u3;go_upto_region 1 with fail;have hP2:=ax.lit (abH w1 (.cells #[.int .i64 (I i 1),.int .i64 (I i 2),.int .i64 (I i 3)] 189));have hg2:=gal hg1 (.cells #[.int .i64 (I i 1),.int .i64 (I i 2),.int .i64 (I i 3)] 189);obtain⟨w2,ig⟩:=abV (w1.alloc (.cells #[.int .i64 (I i 1),.int .i64 (I i 2),.int .i64 (I i 3)] 189));have ZT:w.heap.size<=w1.heap.size:=hg1.size;obtain⟨P,hP⟩:=abV w1.heap.size;rw[ig]at hP2 hg2|-;rw[hP]at hP2 ZT|-;have T5:=aa hP2;have zG:=aa hg2;have hlP:=hP2.lt;have hlg:=abR (uh mr).lt hg2.size;clear ig hP hg1 w1;have U4:=k0;have dc:Hid (∀x,Hid (w2.grownBy x none)->(x.cell? ⟨P,1,none⟩=some (.int .i64 (I i 2))/\x.cell? ⟨g,i*4,none⟩=some (.int .i64 (I i 0)))):=fun x hx=>⟨(jn ((uh T5).grown (uh hx) (by simp))).2.1,((((uh mr).on (uh zG)).on (uh hx)).fo (n:=40) (by omega) (by omega)).row hi |>.1⟩;obtain⟨q1,q2⟩:=uh dc w2 (abF _ _);have cw:Hid (∀x,Hid (w2.grownBy x none)->Calls prog 193 #[.int .i64 (I i 2),.int .i64 (I i 0)] x fun e w'=>e=.returned (.agg #[.int .i64 3,.int .i64 (I i 2),.int .i64 (I i 0-2)])/\Hid (w2.grownBy w' none)):=fun x hx=>(wL (I i 2) (I i 0) k0 k1 x).mono fun e w' ⟨h1,h2⟩=>⟨h1,gtr (uh hx) h2⟩;have xm:Hid (w2.grownBy w2.drew none):=gd1 (abF _ _);obtain⟨Z,hZ⟩:∃Z,Z=w2.alloc (.cells #[.int .i64 0,.int .i64 0,.int .i64 0] 189):=⟨_,rfl⟩;have hZg:w2.grownBy Z none:=by rw[hZ];exact abE _ _ _
 have hZa:ax Z w2.heap.size 189 3 (fun j=>#[Value.int .i64 0,.int .i64 0,.int .i64 0][j]?.getD undef):=by rw[hZ];exact ax.lit (abH w2 _)
 have Zi:Hid (Calls prog 193 #[.int .i64 (I i 2),.int .i64 (I i 0)] Z.drew fun e w'=>e=.returned (.agg #[.int .i64 3,.int .i64 (I i 2),.int .i64 (I i 0-2)])/\Hid (w2.grownBy w' none)/\Hid (ax w' w2.heap.size 189 3 (fun j=>#[Value.int .i64 0,.int .i64 0,.int .i64 0][j]?.getD undef))):=(wL (I i 2) (I i 0) k0 k1 Z.drew).mono fun e w' ⟨h1,h2⟩=>⟨h1,gtr (gd1 hZg) h2,hZa.grown (gtr (gd1 (abF _ _)) h2) (by simp)⟩;rw[hZ]at Zi;have fr:Hid (∀x:World,Hid (ax x w2.heap.size 189 3 (fun j=>#[Value.int .i64 0,.int .i64 0,.int .i64 0][j]?.getD undef))->(x.cell? ⟨w2.heap.size,0,none⟩=some (.int .i64 0)/\x.cell? ⟨w2.heap.size,1,none⟩=some (.int .i64 0)/\x.cell? ⟨w2.heap.size,2,none⟩=some (.int .i64 0))/\x.frozen? ⟨w2.heap.size,0,none⟩=false/\x.frozen? ⟨w2.heap.size,1,none⟩=false/\x.frozen? ⟨w2.heap.size,2,none⟩=false):=fun x h=>⟨jn (uh h),(uh h).free 0,(uh h).free 1,(uh h).free 2⟩;clear hP2 hg2 k0 k1 U4 hZ hZg hZa Z;go_cut [5] from 12 (fun v5 wx=>∃Q,v5=.pointer (some ⟨Q,0,none⟩)/\Hid (ax wx Q 189 3 (fun j=>#[Value.int .i64 3,.int .i64 (I i 2),.int .i64 (I i 0-2)][j]?.getD undef))/\Hid (w2.grownBy wx none)/\Hid (w2.heap.size<=Q))
 case first =>
  go_region_with (first| (go_at_call 193;refine aaR (uh cw _ xm) fun w3 dl=>?_;obtain⟨z1,z2⟩:=uh dc w3 dl;have fa:=aa dl)|(go_at_call 193;refine(uh Zi).mono ?_;rintro e w3 ⟨rfl,dl,fa⟩;obtain⟨z1,z2⟩:=uh dc w3 dl;obtain⟨⟨y0,y1,y2⟩,f0,f1,f2⟩:=uh fr w3 fa))
  all_goals
   go_wp2_with fail;go_meet
   first| exact⟨w3.heap.size,rfl,ax.lit (abH w3 _),gal (uh dl) _,(uh dl).size⟩|exact⟨w2.heap.size,rfl,Mv (uh fa),HW (uh dl) (abL _),abL _⟩
 case rest =>
  obtain⟨Q,rfl,hQ,MY,WA⟩:=hcut;have ZU:Hid (w.heap.size<=Q):=abM (uh zG).size (uh WA);clear dc q1 q2 cw xm Zi fr;obtain⟨r0,r1,r2⟩:=jn (uh hQ);have Wu:=aa (((uh mr).on (uh zG)).on (uh MY));have ZS:=aa ((uh T5).grown (uh MY) (by simp));have iR:=aa (gtr (uh zG) (uh MY));clear T5 zG MY hlP hlg WA;have cat:=aa (kv g 40 c I 3 (I i 2) (I i 0-2) wc ((uh Wu).fo (n:=40) (by omega) (by omega)));obtain⟨f,hf⟩:=abV (Gd.an I 40 3 (I i 2) (I i 0-2));rw[hf]at cat;have fb:=aa hf;clear hf;go_wp2_with fail;refine aaR (uh cat) fun w4 hg4=>?_;clear cat r0 r1 r2;have Q5:=aa (gtr (uh iR) hg4);have aaT:Hid (g≠P):=by
   show g≠P;have:=(uh mr).lt;omega
  have sJ:=aa ((uh hQ).grown hg4 (by simp));have WZ:Hid (g≠Q):=by
   show g≠Q;have:=(uh mr).lt;have:=uh ZU;omega
  by_cases kf:0<=f
  ·obtain⟨m,rfl⟩:∃m:Nat,f=(m:Int):=⟨f.toNat,by omega⟩;obtain⟨hm,hmi⟩:m<40/\i≠m:=by
    obtain⟨k,hk,e,gv,_⟩:=Gd.gd (I:=I) (n:=40) (w:=3) (a:=I i 2) (b:=I i 0-2) (by rw[uh fb];exact kf);have:=uh fb;have hkm:k=m:=(by omega);have h2:=uh NL;subst hkm;exact⟨hk,by rintro rfl;omega⟩
   have mf:(m:Int)<40:=by omega
   have HRa:=aa hm;have Y5:=aa hi;have ZL:=aa (show En.put I m (Gd.row (I m 0) (I i 1) (I i 2) (I i 3)) i=I i from En.ak hmi);have Ym:=aa ((uh Wu).on hg4);have hPa:=aa ((uh ZS).grown hg4 (by simp));clear hg4 hm hi hmi Wu ZS hQ iR ZT ZU;have OK:Hid (∀x,Hid (w4.grownBy x none)->(x.cell? ⟨g,m*4,none⟩=some (.int .i64 (I m 0))/\x.cell? ⟨g,m*4+1,none⟩=some (.int .i64 (I m 1))/\x.cell? ⟨g,m*4+2,none⟩=some (.int .i64 (I m 2))/\x.cell? ⟨g,m*4+3,none⟩=some (.int .i64 (I m 3))/\x.cell? ⟨P,0,none⟩=some (.int .i64 (I i 1))/\x.cell? ⟨P,1,none⟩=some (.int .i64 (I i 2))/\x.cell? ⟨P,2,none⟩=some (.int .i64 (I i 3)))/\x.frozen? ⟨g,m*4,none⟩=false/\x.frozen? ⟨g,m*4+1,none⟩=false/\x.frozen? ⟨g,m*4+2,none⟩=false/\x.frozen? ⟨g,m*4+3,none⟩=false):=fun x hx=>by
    have h1:=((uh Ym).on (uh hx)).fo (n:=40) (by omega) (by omega) |>.row (uh HRa);have h2:=jn ((uh hPa).grown (uh hx) (by simp));have h3:=fun j=>((uh Ym).on (uh hx)).free j;exact⟨⟨h1.1,h1.2.1,h1.2.2.1,h1.2.2.2,h2.1,h2.2.1,h2.2.2⟩,h3 _,h3 _,h3 _,h3 _⟩
   have cma:Hid (∀x,Hid (w4.grownBy x none)->Calls prog 183 #[.agg #[.int .i64 (I m 0),.int .i64 (I m 1),.int .i64 (I m 2),.int .i64 (I m 3)],.agg #[.int .i64 (I i 1),.int .i64 (I i 2),.int .i64 (I i 3)]] x fun e w'=>e=.returned (.agg #[.int .i64 (I m 0),.int .i64 (I i 1),.int .i64 (I i 2),.int .i64 (I i 3)])/\Hid (w4.grownBy w' none)):=fun x hx=>(kY _ _ _ _ _ _ _ x).mono fun e w' ⟨h1,h2⟩=>⟨h1,gtr (uh hx) h2⟩;have hda:Hid (w4.grownBy w4.drew none):=gd1 (abF _ _);obtain⟨⟨x0,x1,x2,x3,x4,x5,x6⟩,y0,y1,y2,y3⟩:=uh OK w4 (abF _ _);go_upto_region 4 with fail;go_cut [] from 25 (fun wx=>Hid (ay wx g 62 160 (Gd.aL (En.put I m (Gd.row (I m 0) (I i 1) (I i 2) (I i 3)))))/\Hid (w4.grownBy wx (some g)))
   case first =>
    go_region_with (first| (go_at_call 183;refine aaR (uh cma _ hda) fun w5 hga=>?_;obtain⟨⟨z0,z1,z2,z3,z4,z5,z6⟩,f0,f1,f2,f3⟩:=uh OK w5 hga))
    all_goals
     go_wp2_with fail;go_meet;exact⟨((uh Ym).on (uh hga)).put m (I m 0) (I i 1) (I i 2) (I i 3),gT (lD (r:=some g) (uh hga)) m _ _ _ _⟩
   case rest =>
    obtain⟨Wv,Us⟩:=hcut;clear OK cma hda x0 x1 x2 x3 x4 x5 x6 y0 y1 y2 y3;have tZ:=aa (gtr (lD (r:=some g) (uh Q5)) (uh Us));have T6:=(uh sJ).grown (uh Us) (by simpa using uh WZ);have N6:=Gd.MQ (uh fb) (uh NL);have T4:=uh Wv;obtain⟨J,hJ⟩:=abV (En.put I m (Gd.row (I m 0) (I i 1) (I i 2) (I i 3)));rw[hJ]at T4 ZL N6;have ah:Hid (Gd.l7 I 40 (I i 2) i=En.put J i (Gd.row (J i 0) 3 (J i 2) (J i 0-2))):=by
     show _=_;rw[uh ZL];exact N6
    have PV:=aa T4;rw[<-uh ZL]at T6|-;have Sx:=aa T6;clear T6 N6 T4 hJ Wv Us sJ Q5 fb hPa Ym;have Hc:Hid (∀x,Hid (wc.grownBy x none)->(x.cell? ⟨g,i*4,none⟩=some (.int .i64 (J i 0))/\x.cell? ⟨g,i*4+1,none⟩=some (.int .i64 (J i 1))/\x.cell? ⟨g,i*4+2,none⟩=some (.int .i64 (J i 2))/\x.cell? ⟨g,i*4+3,none⟩=some (.int .i64 (J i 3))/\x.cell? ⟨Q,0,none⟩=some (.int .i64 3)/\x.cell? ⟨Q,1,none⟩=some (.int .i64 (J i 2))/\x.cell? ⟨Q,2,none⟩=some (.int .i64 (J i 0-2)))/\x.frozen? ⟨g,i*4,none⟩=false/\x.frozen? ⟨g,i*4+1,none⟩=false/\x.frozen? ⟨g,i*4+2,none⟩=false/\x.frozen? ⟨g,i*4+3,none⟩=false):=fun x hx=>by
     have h1:=((uh PV).on (uh hx)).fo (n:=40) (by omega) (by omega) |>.row (uh Y5);have h2:=jn ((uh Sx).grown (uh hx) (by simp));have h3:=fun j=>((uh PV).on (uh hx)).free j;exact⟨⟨h1.1,h1.2.1,h1.2.2.1,h1.2.2.2,h2.1,h2.2.1,h2.2.2⟩,h3 _,h3 _,h3 _,h3 _⟩
    have Zh:Hid (∀x,Hid (wc.grownBy x none)->Calls prog 183 #[.agg #[.int .i64 (J i 0),.int .i64 (J i 1),.int .i64 (J i 2),.int .i64 (J i 3)],.agg #[.int .i64 3,.int .i64 (J i 2),.int .i64 (J i 0-2)]] x fun e w'=>e=.returned (.agg #[.int .i64 (J i 0),.int .i64 3,.int .i64 (J i 2),.int .i64 (J i 0-2)])/\Hid (wc.grownBy w' none)):=fun x hx=>(kY _ _ _ _ _ _ _ x).mono fun e w' ⟨h1,h2⟩=>⟨h1,gtr (uh hx) h2⟩;have hdz:Hid (wc.grownBy wc.drew none):=gd1 (abF _ _);obtain⟨⟨x0,x1,x2,x3,x4,x5,x6⟩,y0,y1,y2,y3⟩:=uh Hc wc (abF _ _);go_upto_region 5 with fail
    go_region_with (first| (go_at_call 183;refine aaR (uh Zh _ hdz) fun w6 fM=>?_;obtain⟨⟨z0,z1,z2,z3,z4,z5,z6⟩,f0,f1,f2,f3⟩:=uh Hc w6 fM))
    all_goals
     have qH:=aa (((uh PV).on (uh fM)).put i (J i 0) 3 (J i 2) (J i 0-2));have hfg:=aa (gtr (uh tZ) (gT (lD (r:=some g) (uh fM)) i (.int .i64 (J i 0)) (.int .i64 3) (.int .i64 (J i 2)) (.int .i64 (J i 0-2))));go_wp2
     go_end0
     exact⟨rfl,by rw[uh ah];exact uh qH,uh hfg⟩
  ·have dH:f<0:=by omega
   have ah:=aa (Gd.MP (I:=I) (i:=i) (by rw[uh fb];exact dH));have Y5:=aa hi;have PV:=aa ((uh Wu).on hg4);have Sx:=sJ;have tZ:=aa (lD (r:=some g) (uh Q5));clear hg4 hi Wu ZS hQ iR ZT ZU sJ Q5 fb;have Hc:Hid (∀x,Hid (w4.grownBy x none)->(x.cell? ⟨g,i*4,none⟩=some (.int .i64 (I i 0))/\x.cell? ⟨g,i*4+1,none⟩=some (.int .i64 (I i 1))/\x.cell? ⟨g,i*4+2,none⟩=some (.int .i64 (I i 2))/\x.cell? ⟨g,i*4+3,none⟩=some (.int .i64 (I i 3))/\x.cell? ⟨Q,0,none⟩=some (.int .i64 3)/\x.cell? ⟨Q,1,none⟩=some (.int .i64 (I i 2))/\x.cell? ⟨Q,2,none⟩=some (.int .i64 (I i 0-2)))/\x.frozen? ⟨g,i*4,none⟩=false/\x.frozen? ⟨g,i*4+1,none⟩=false/\x.frozen? ⟨g,i*4+2,none⟩=false/\x.frozen? ⟨g,i*4+3,none⟩=false):=fun x hx=>by
    have h1:=((uh PV).on (uh hx)).fo (n:=40) (by omega) (by omega) |>.row (uh Y5);have h2:=jn ((uh Sx).grown (uh hx) (by simp));have h3:=fun j=>((uh PV).on (uh hx)).free j;exact⟨⟨h1.1,h1.2.1,h1.2.2.1,h1.2.2.2,h2.1,h2.2.1,h2.2.2⟩,h3 _,h3 _,h3 _,h3 _⟩
   have Zh:Hid (∀x,Hid (w4.grownBy x none)->Calls prog 183 #[.agg #[.int .i64 (I i 0),.int .i64 (I i 1),.int .i64 (I i 2),.int .i64 (I i 3)],.agg #[.int .i64 3,.int .i64 (I i 2),.int .i64 (I i 0-2)]] x fun e w'=>e=.returned (.agg #[.int .i64 (I i 0),.int .i64 3,.int .i64 (I i 2),.int .i64 (I i 0-2)])/\Hid (w4.grownBy w' none)):=fun x hx=>(kY _ _ _ _ _ _ _ x).mono fun e w' ⟨h1,h2⟩=>⟨h1,gtr (uh hx) h2⟩;have hdz:Hid (w4.grownBy w4.drew none):=gd1 (abF _ _);obtain⟨⟨x0,x1,x2,x3,x4,x5,x6⟩,y0,y1,y2,y3⟩:=uh Hc w4 (abF _ _);go_upto_region 5 with fail
   go_region_with (first| (go_at_call 183;refine aaR (uh Zh _ hdz) fun w6 fM=>?_;obtain⟨⟨z0,z1,z2,z3,z4,z5,z6⟩,f0,f1,f2,f3⟩:=uh Hc w6 fM))
   all_goals
    have qH:=aa (((uh PV).on (uh fM)).put i (I i 0) 3 (I i 2) (I i 0-2));have hfg:=aa (gtr (uh tZ) (gT (lD (r:=some g) (uh fM)) i (.int .i64 (I i 0)) (.int .i64 3) (.int .i64 (I i 2)) (.int .i64 (I i 0-2))));go_wp2
    go_end0
    exact⟨rfl,by rw[uh ah];exact uh qH,uh hfg⟩
