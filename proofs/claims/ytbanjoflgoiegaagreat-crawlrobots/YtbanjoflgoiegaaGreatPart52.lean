import Derived.Test.YtbanjoflgoiegaaGreatPart49
import Derived.Test.YtbanjoflgoiegaaGreatPart51
set_option maxHeartbeats 6400000
set_option maxRecDepth 8000
namespace Go.Proofs.YtbanjoflgoiegaaGreat
open Go.Proofs.Tryz
open Go.RowKit
def Cr.M6(v:World)(P:Nat)(how inp:N1)(sp:Nat->Bool)(bK:Bool)(s c:N1)(p:Cr.M->Prop)(e:Ending)(x:World):Prop :=
 ∃n:Cr.M,p n/\Cr.tR v P how inp sp bK n.left s n.g c n.E n.I e x
theorem Lz(v x:World)(P gC gE gI cC cE cI:Nat)(how inp:N1)(sp:Nat->Bool)(bK left:Bool)(s g c:N1)(E I:N2)(t k:Nat)(h:Cr.ik v x P gC gE gI cC cE cI how inp sp bK left s g c E I)(hS:Cr.bs c E I)(hG:Cr.uG g)(ht:t<4)(hk:k<32)(hh:Gd.aV E (t:Int)=(k:Int))(k1:E k 0=1)(aK:¬0<E k 10):Calls prog 73 #[.pointer (some ⟨P,0,none⟩),.int .i64 (t:Int),.int .i64 (k:Int)] x (Cr.M6 v P how inp sp bK s c (Cr.gG s c (t:Int) (how t) (inp t) ⟨g,E,I,left⟩)):=by
 have oA:(t:Int)<4:=by omega
 have hF:=aa h;have NU:=aa hS;have hGo:=aa hG;have HK:=aa (And.intro hk k1);obtain⟨a0,a1,-⟩:=h.dQ ht
 have gw:Hid (∀u,(how t=1\/how t=2)->(if how t=2 then Md.cB c E I (t:Int) u else u=inp t)->Cr.gG s c (t:Int) (how t) (inp t) ⟨g,E,I,left⟩ (Cr.eU s c ⟨g,E,I,left⟩ (t:Int) k u)):=fun u h1 h2=>(show _ by
  unfold Cr.gG;show if Gd.aV E (t:Int)<0\/0<E (Gd.aV E (t:Int)).toNat 10\/(how t≠1/\how t≠2)then _ else _;rw[hh,abG,abO (by omega)]
  exact⟨u,h2,rfl⟩)
 have GY:Hid (how t≠1->how t≠2->Cr.gG s c (t:Int) (how t) (inp t) ⟨g,E,I,left⟩ ⟨g,E,I,left⟩):=fun h1 h2=>(show _ by
  unfold Cr.gG;show if Gd.aV E (t:Int)<0\/0<E (Gd.aV E (t:Int)).toNat 10\/(how t≠1/\how t≠2)then _ else _
  rw[abP (.inr (.inr ⟨h1,h2⟩))])
 have cd:=aa (fun u z (hz:Cr.ik v z P gC gE gI cC cE cI how inp sp bK left s g c E I)=>QA v z P gC gE gI cC cE cI how inp sp bK left s g c E I t k u hz hS hG hk k1);have cr:=aa (vU s g c E I gC gE gI cC cE cI (t:Int) x h.ab hS.ly.cells h.aG.1 h.aG.2 hS.kz);obtain⟨H,hH⟩:=abV (how t);obtain⟨N,hN⟩:=abV (inp t);rw[hH]at a0 gw GY;rw[hN]at a1 gw GY;rw[hH,hN];obtain⟨b0,b1,b2,b3,b4,b5,b6,b7,b8,b9,b10⟩:=h.ae;clear h hS hG hk hh k1 aK hH hN ht;by_cases h2:H=2
 ·subst h2;unfold Gd.world at cr;have L8:Hid (∀u,Md.cB c E I (t:Int) u->Cr.gG s c (t:Int) 2 N ⟨g,E,I,left⟩ (Cr.eU s c ⟨g,E,I,left⟩ (t:Int) k u)):=fun u h=>uh gw u (.inr rfl) (by rw[abP rfl];exact h);clear GY gw;go_enter func73,ntmps73;go_wp2_with fail;refine(uh cr).mono ?_;rintro e w1 ⟨u,hu,rfl,hg⟩;have hm:=aa (uh L8 u hu);have V0:=aa (uh cd u w1 ((uh hF).on hg));clear hu hg cr cd L8 b0 b1 b2 b3 b4 b5 b6 b7 b8 b9 b10 a0 a1 hF;go_wp2_with fail;refine aaR (uh V0) fun w2 ah=>?_;have gh:=aa ah;clear ah V0;go_wp2
  go_end0
  exact⟨_,uh hm,rfl,uh gh⟩
 ·have e2:(H==2)=false:=by simpa using h2
  by_cases h1:H=1
  ·subst h1;have hm:=aa (uh gw N (.inl rfl) (by rw[abO (by omega)]));have V0:=aa (uh cd N x (uh hF));clear cr cd gw GY b0 b1 b2 b3 b4 b5 b6 b7 b8 b9 b10 hF h2;go_enter func73,ntmps73;go_wp2_with fail;refine aaR (uh V0) fun w2 ah=>?_;have gh:=aa ah;clear ah V0;go_wp2
   go_end0
   exact⟨_,uh hm,rfl,uh gh⟩
  ·have e1:(H==1)=false:=by simpa using h1
   have hm:=aa (uh GY h1 h2);clear cr cd gw GY b0 b1 b2 b3 b4 b5 b6 b7 b8 b9 b10 h1 h2;go_enter func73,ntmps73;go_wp2
   go_end0
   exact⟨_,uh hm,rfl,gC,gE,gI,cC,cE,cI,uh hF⟩
theorem Nu(v x:World)(P gC gE gI cC cE cI:Nat)(how inp:N1)(sp:Nat->Bool)(bK left:Bool)(s g c:N1)(E I:N2)(h:Cr.ik v x P gC gE gI cC cE cI how inp sp bK left s g c E I)(hS:Cr.bs c E I)(hG:Cr.uG g):Calls prog 30 #[.pointer (some ⟨P,0,none⟩)] x (Cr.M6 v P how inp sp bK s c (Cr.br s c how inp 4 ⟨g,E,I,left⟩)):=by
 have hF:=aa h;have kQ:Hid (∀t n,Cr.br s c how inp t ⟨g,E,I,left⟩ n->Cr.lj c n):=fun t n hn=>Cr.lj.nW (m:=⟨g,E,I,left⟩) ⟨hS,hG⟩ hn;clear h hS hG;go_enter func30,ntmps30;go_wp2_with fail;go_loopw [4] (fun v4 wr=>∃(t g1 g2 g3 c1 c2 c3:Nat)(m:Cr.M),t<=4/\v4=.int .i64 (t:Int)/\Hid (Cr.br s c how inp t ⟨g,E,I,left⟩ m)/\Hid (Cr.ik v wr P g1 g2 g3 c1 c2 c3 how inp sp bK m.left s m.g c m.E m.I)) (fun v4 _=>10-(intOf v4).toNat)
 case atStart=>exact⟨0,gC,gE,gI,cC,cE,cI,⟨g,E,I,left⟩,by omega,rfl,rfl,hF⟩
 case round =>
  clear hF;obtain⟨t,g1,g2,g3,c1,c2,c3,m,ht,rfl,hm,hF⟩:=hrel;by_cases hlt:t<4
  ·have hlt':(t:Int)<4:=by omega
   have HL:=aa hlt;have P9:=aa (uh kQ t m (uh hm));obtain⟨G,E,I,L⟩:=m;have b5:=(uh hF).ae.2.2.2.2.2.1;have ch:=nh g2 32 c2 E (t:Int) wr (uh hF).ab.own.ai (uh hF).aG.1;have hp:=@Gd.gV E (t:Int);change Calls _ _ _ _ (aJ wr (.int .i64 (Gd.aV E (t:Int))))at ch;have jB:Hid (∀n,(Gd.aV E (t:Int)<0\/0<E (Gd.aV E (t:Int)).toNat 10)->n=⟨G,E,I,L⟩->Cr.br s c how inp (t+1) _ n):=fun n h1 h2=>⟨_,uh hm,(show Cr.gG s c (t:Int) (how t) (inp t) ⟨G,E,I,L⟩ n by unfold Cr.gG;rw[abP (by rcases h1 with h|h;exact .inl h;exact .inr (.inl h))];exact h2)⟩;obtain⟨z,hz⟩:=abV (Gd.aV E (t:Int));rw[hz]at ch hp jB;have uj:=aa ch;have uu:=aa hp;have kW:=aa hz;clear hlt ht ch hp hz;go_upto_region 4 with(go_at_call 68;refine(uh uj).mono ?_;rintro e w1 ⟨rfl,hg1⟩);have ka:=aa ((uh hF).on hg1);clear hg1 uj b5 hF;by_cases h0:0<=z
   ·obtain⟨k,hk,rfl,k2,k1⟩:=uh uu h0;have jy:(k:Int)<32:=(by omega);have hge:(k:Int)≥0:=(by omega);have HK:=aa hk;have HK1:=aa k1;have b5:=(uh ka).ae.2.2.2.2.2.1;obtain⟨r0,r1,r2,r3,r4,r5,r6,r7,r8,r9,pb⟩:=(uh ka).ab.own.ai.row hk;have cs:=aa (oK (E k) w1);obtain⟨b,hb⟩:∃b,decide (0<E k 10)=b:=⟨_,rfl⟩;rw[hb]at cs;have pF:=aa hb;unfold En.cells at cs;clear uu h0 hk k1 k2 hb;go_wp2_with fail;refine aaR (uh cs) fun w2 hg2=>?_;have eN:=aa ((uh ka).on hg2);clear hg2 cs b5 r0 r1 r2 r3 r4 r5 r6 r7 r8 r9 pb ka;cases b
    ·have cm:=aa (Lz v w2 P g1 g2 g3 c1 c2 c3 how inp sp bK L s G c E I t k (uh eN) (uh P9).1 (uh P9).2 (uh HL) (uh HK) (uh kW) (uh HK1) (of_decide_eq_false (uh pF)));clear jB;go_wp2_with fail;refine(uh cm).mono ?_;rintro e w3 ⟨n,hn,rfl,j1,j2,j3,d1,d2,d3,kn⟩;have ju:Hid (Cr.br s c how inp (t+1) _ n):=⟨_,uh hm,hn⟩;have TZ:=aa kn;clear hn kn cm eN;go_wp2;go_roundw
     case rel=>exact⟨t+1,j1,j2,j3,d1,d2,d3,n,by have:=uh HL;omega,by go_num,ju,TZ⟩
     case measure=>simp[intOf];have:=uh HL;omega
    ·have ju:=aa (uh jB ⟨G,E,I,L⟩ (.inr (by rw[abG];exact of_decide_eq_true (uh pF))) rfl);clear jB;go_wp2;go_roundw
     case rel=>exact⟨t+1,g1,g2,g3,c1,c2,c3,⟨G,E,I,L⟩,by have:=uh HL;omega,by go_num,ju,eN⟩
     case measure=>simp[intOf];have:=uh HL;omega
   ·have aan:¬z≥0:=(by omega);have ju:=aa (uh jB ⟨G,E,I,L⟩ (.inl (by omega)) rfl);clear jB uu h0;go_wp2;go_roundw
    case rel=>exact⟨t+1,g1,g2,g3,c1,c2,c3,⟨G,E,I,L⟩,by have:=uh HL;omega,by go_num,ju,ka⟩
    case measure=>simp[intOf];have:=uh HL;omega
  ·obtain rfl:t=4:=by omega
   have hge:¬((4:Nat):Int)<4:=by omega
   clear hlt ht;go_wp2
   go_end0
   exact⟨m,uh hm,rfl,g1,g2,g3,c1,c2,c3,uh hF⟩
def Cr.Tr(v:World)(P:Nat)(how inp:N1)(sp:Nat->Bool)(bK left:Bool)(s g c:N1)(E I:N2)(e:Ending)(x:World):Prop :=
 ∃F J,Cr.cS s c 32 E I F J/\Cr.tR v P how inp sp bK left s g c F J e x
theorem Ly(v x:World)(P gC gE gI cC cE cI:Nat)(how inp:N1)(sp:Nat->Bool)(bK left:Bool)(s g c:N1)(E I:N2)(h:Cr.ik v x P gC gE gI cC cE cI how inp sp bK left s g c E I)(hS:Cr.bs c E I):Calls prog 31 #[.pointer (some ⟨P,0,none⟩)] x (Cr.Tr v P how inp sp bK left s g c E I):=by
 have hF:=aa h;have P9:Hid (∀i F J,i<=32->Cr.cS s c i E I F J->Cr.bs c F J):=fun i F J hi hp=>hS.pt hi hp;have b5:=h.ae.2.2.2.2.2.1;clear h hS;go_enter func31,ntmps31;go_wp2_with fail;go_loopw [10] (fun v10 wr=>∃(i g1 g2 g3 c1 c2 c3:Nat)(F J:N2),i<=32/\v10=.int .i64 (i:Int)/\Hid (Cr.cS s c i E I F J)/\Hid (Cr.ik v wr P g1 g2 g3 c1 c2 c3 how inp sp bK left s g c F J)) (fun v10 _=>40-(intOf v10).toNat)
 case atStart=>exact⟨0,gC,gE,gI,cC,cE,cI,E,I,by omega,rfl,⟨rfl,rfl⟩,hF⟩
 case round =>
  clear hF b5;obtain⟨i,g1,g2,g3,c1,c2,c3,F,J,hi,rfl,hp,hF⟩:=hrel;by_cases hlt:i<32
  ·have hlt':(i:Int)<32:=by omega
   have HL:=aa hlt;have hs:=aa (uh P9 i F J hi (uh hp));obtain⟨w0,aD⟩:∃w0,w0=wr.alloc (.cells (En.cells (F i)) 54):=⟨_,rfl⟩;have aN:wr.grownBy w0 none:=by rw[aD];exact abE _ _ _
   have hQ:Hid (ay w0 wr.heap.size 54 11 (bB (F i))):=by rw[aD];exact ay.ei _ _ _
   have sI:=aa ((uh hF).on aN);have b5:=(uh hF).ae.2.2.2.2.2.1;obtain⟨r0,r1,r2,r3,r4,r5,r6,r7,r8,r9,pb⟩:=(uh hF).ab.own.ai.row hlt;have cm:=aa (oJ (F i) w0);have jB:Hid ((F i 0=0\/F i 0=1\/0<F i 10)->Cr.cS s c (i+1) E I F J):=fun h1=>⟨F,J,uh hp,(show Cr.fu s c i F J F J by unfold Cr.fu;rw[abP h1];exact⟨rfl,rfl⟩)⟩;have pR:Hid (∀u,¬(F i 0=0\/F i 0=1\/0<F i 10)->Md.aU s c F (i:Int) u->Cr.cS s c (i+1) E I (Cr.dQ s c F J i u true).1 (Cr.dQ s c F J i u true).2):=fun u h1 h2=>⟨F,J,uh hp,(show Cr.fu s c i F J _ _ by unfold Cr.fu;rw[abO h1];exact⟨u,h2,rfl,rfl⟩)⟩;obtain⟨bm,Z5⟩:∃b,decide (F i 0≠0/\F i 0≠1)=b:=⟨_,rfl⟩;rw[Z5]at cm;have WH:=aa Z5;unfold En.cells at aD cm;clear hlt hi aN hF Z5;go_upto_region 4 with fail;rw[<-aD];clear aD b5 r0 r1 r2 r3 r4 r5 r6 r7 r8 r9 pb;obtain⟨Q,hQe⟩:=abV wr.heap.size;rw[hQe]at hQ|-;clear hQe;obtain⟨q0,q1,q2,q3,q4,q5,q6,q7,q8,q9,S4⟩:=(uh hQ).kt;go_wp2_with fail;refine aaR (uh cm) fun w1 hg1=>?_;have ka:=aa ((uh sI).on hg1);have FU:=aa ((uh hQ).on hg1);clear hg1 cm q0 q1 q2 q3 q4 q5 q6 q7 q8 q9 S4 sI hQ;cases bm
   ·have ju:=aa (uh jB (by
     have h:=of_decide_eq_false (uh WH);by_cases a:F i 0=0
     ·exact .inl a
     ·by_cases b:F i 0=1
      ·exact .inr (.inl b)
      ·exact absurd ⟨a,b⟩ h))
    clear jB pR;go_wp2;go_roundw
    case rel=>exact⟨i+1,g1,g2,g3,c1,c2,c3,F,J,by have:=uh HL;omega,by go_num,ju,ka⟩
    case measure=>simp[intOf];have:=uh HL;omega
   ·have hm:=aa (of_decide_eq_true (uh WH));have cs:=aa (oK (F i) w1);obtain⟨b,hb⟩:∃b,decide (0<F i 10)=b:=⟨_,rfl⟩;rw[hb]at cs;have pF:=aa hb;unfold En.cells at cs;clear hb;obtain⟨q0,q1,q2,q3,q4,q5,q6,q7,q8,q9,S4⟩:=(uh FU).kt;go_wp2_with fail;refine aaR (uh cs) fun w2 hg2=>?_;have eN:=aa ((uh ka).on hg2);clear hg2 cs q0 q1 q2 q3 q4 q5 q6 q7 q8 q9 S4 ka FU;cases b
    ·have hng:Hid (¬(F i 0=0\/F i 0=1\/0<F i 10)):=(show¬(F i 0=0\/F i 0=1\/0<F i 10) by
      have h1:=uh hm;have h2:=of_decide_eq_false (uh pF)
      omega)
     obtain⟨b0,b1,b2,b3,b4,b5,b6,b7,b8,b9,b10⟩:=(uh eN).ae;have Zg:=aa (sY s g c F J g1 g2 g3 c1 c2 c3 (i:Int) w2 (uh eN).ab (uh hs).ly.cells (uh eN).aG.1 (uh hs).kz);unfold Gd.world at Zg;clear jB;go_wp2_with fail;refine(uh Zg).mono ?_;rintro e w3 ⟨u,hu,rfl,dl⟩;have ju:=aa (uh pR u (uh hng) hu);have cw:=xM v w3 P g1 g2 g3 c1 c2 c3 how inp sp bK left s g c F J i u ((uh eN).on dl) (uh hs) (uh HL) (uh hm).1;rw[show decide (F i 0≠1)=true from abJ (uh hm).2]at cw;have qT:=aa cw;clear hu dl Zg b0 b1 b2 b3 b4 b5 b6 b7 b8 b9 b10 eN pR cw;go_wp2_with fail;refine(uh qT).mono ?_;rintro e w4 ⟨rfl,j1,j2,j3,d1,d2,d3,kn⟩;have TZ:=aa kn;clear kn qT;go_wp2;go_roundw
     case rel=>exact⟨i+1,j1,j2,j3,d1,d2,d3,_,_,by have:=uh HL;omega,by go_num,ju,TZ⟩
     case measure=>simp[intOf];have:=uh HL;omega
    ·have ju:=aa (uh jB (.inr (.inr (of_decide_eq_true (uh pF)))));clear jB pR;go_wp2;go_roundw
     case rel=>exact⟨i+1,g1,g2,g3,c1,c2,c3,F,J,by have:=uh HL;omega,by go_num,ju,eN⟩
     case measure=>simp[intOf];have:=uh HL;omega
  ·obtain rfl:i=32:=by omega
   have hge:¬((32:Nat):Int)<32:=by omega
   clear hlt hi;go_wp2
   go_end0
   exact⟨F,J,uh hp,rfl,g1,g2,g3,c1,c2,c3,uh hF⟩
