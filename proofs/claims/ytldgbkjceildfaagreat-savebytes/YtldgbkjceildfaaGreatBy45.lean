import Derived.Test.YtldgbkjceildfaaGreatBy32
namespace Go.Proofs.YtldgbkjceildfaaGreat
open Go.RowKit

set_option maxRecDepth 8000 in
set_option maxHeartbeats 51200000 in
theorem refDo_five (s g c:Nat→Int) (E I:Nat→Nat→Int) (gC gE gI cC cE cI t k:Nat) (w:World) (hL:Gd.Lists w gC gE gI c E I) (ht:t<4) (hk:k<32) (hh:Gd.hero E (t:Int)=(k:Int)) (input:Int) (hc:∀i,0≤c i∧c i≤255) (does:∀P:Prop,(∀m:Nat,input=8→m<40→Gd.has I 40 (t:Int) 1 3=(m:Int)→Gd.find I 40 1 (E k 3) (E k 4)=-1→Gd.Res c g E I t k input g E (En.put I m (Gd.row (I m 0) 1 (E k 3) (E k 4)))→P)→(input=10→Gr.at 384 c (E k 3) (E k 4)≠5→Gd.Res c g E I t k input g E I→P)→P) :
  Calls Tryz.prog 46 #[.agg (Gd.world s gC gE gI cC cE cI g),.int .i64 (t:Int),.int .i64 input] w (Gd.Worlds w s (Gd.give g t (Gd.goldOf I (t:Int) (E k 3) (E k 4) (decide (Gr.at 384 c (E k 3) (E k 4)=5)) (g t) input)) c (Gd.entsOf E I k (t:Int) input) (Gd.act I 40 (t:Int) (E k 3) (E k 4) (decide (Gr.at 384 c (E k 3) (E k 4)=5)) (g t) input)):=by
 obtain ⟨w0,hw0,hbox,hres,hg0,hsz⟩:=Gd.boxes w gC gE gI cC cE cI s g;have ca':=hide (refTwin_any s g c E I gC gE gI cC cE cI w0 (hL.on hg0));obtain ⟨b0,b1,b2,b3,b4,b5,b6,b7,b8,b9,b10⟩:=hbox.eleven;have hbx:=hide hbox;have hrs:=hide hres;have hg0':=hide hg0;have hsz':=hide hsz;have hfB:=hbox.free;have hh':=hide hh;have ht':(t:Int)<4:=by omega
 have hk':(k:Int)<32:=by omega
 have HK:=hide hk;have HT:=hide ht;have HC:=hide hc;have HD:=hide does;clear hc does;clear hL hbox hres hg0 hsz hh hk ht;unfold Gd.world at hw0 ca' ⊢;go_enter Tryz.func46,Tryz.ntmps46;go_upto_region 1 with fail;rw [←hw0];clear hw0;obtain ⟨B,hB⟩:∃B,w.heap.size=B:=⟨_,rfl⟩;rw [hB] at hbx hrs hsz' b0 b1 b2 b3 b4 b5 b6 b7 b8 b9 b10 ⊢;have hB':=hide hB;rw [hB] at hfB;clear hB
 go_cut [] from 7 (fun wx=>∃g1 g2 g3 c1 c2 c3,Hid (Gd.Boxed w wx B g1 g2 g3 c1 c2 c3 s g c E I))
 case first =>
  go_wp2_with fail;refine (uh ca').mono ?_;rintro e w1 ⟨g1,g2,g3,c1,c2,c3,rfl,hcap,l1,l2,l3,n1,n2,n3,hL1,hg1⟩;obtain ⟨y0,y1,y2,y3,y4,y5,y6,y7,y8,y9,y10⟩:=((uh hbx).on hg1).eleven;have fB:=((uh hbx).on hg1).free;have fin:Hid (Gd.Boxed w (w1.setCells B 0 (Gd.world s g1 g2 g3 c1 c2 c3 g).toList) B g1 g2 g3 c1 c2 c3 s g c E I):=Gd.Boxed.new (uh hbx) (uh hrs) (uh hg0') (uh hB') (uh hsz') hcap l1 l2 l3 n1 n2 n3 hL1 hg1;unfold Gd.world at fin ⊢;clear hcap l1 l2 l3 n1 n2 n3 hL1 hg1 b0 b1 b2 b3 b4 b5 b6 b7 b8 b9 b10 hfB ca';go_wp2_with fail;go_meet;exact ⟨g1,g2,g3,c1,c2,c3,fin⟩
 case rest =>
  obtain ⟨g1,g2,g3,c1,c2,c3,hX⟩:=hcut;clear b0 b1 b2 b3 b4 b5 b6 b7 b8 b9 b10 hfB ca' hbx hrs hg0' hsz' hB';clear w0;have b5:=(uh hX).hold.box.eleven.2.2.2.2.2.1;have ch:=refHero7_any g2 c2 E (t:Int) wc (uh hX).hold.lists.own;rw [uh hh'] at ch;have ch':=hide ch;clear ch;go_wp2_with fail;refine (uh ch').mono ?_;rintro e w2 ⟨rfl,hg2⟩;have hX2:=hide ((uh hX).on hg2);clear hg2 ch' b5 hX hh';have b5:=(uh hX2).hold.box.eleven.2.2.2.2.2.1;obtain ⟨u0,u1,u2,u3,u4,u5,u6,u7,u8,u9,u10⟩:=(uh hX2).hold.lists.own.ents.row (uh HK);have hX3:=hide ((uh hX2).on (World.grownBy_alloc w2 (.cells (En.cells (E k)) 70) none));have hQ:=hide (Gd.ent_box w2 (E k));have hQn:=hide (Gd.ent_far (uh hX2));go_upto_region 6 with fail;unfold En.cells at hX3 hQ;obtain ⟨Q,hQe⟩:∃Q,w2.heap.size=Q:=⟨_,rfl⟩;rw [hQe] at hQ hQn ⊢;generalize w2.alloc (.cells #[.int .i64 (E k 0),.int .i64 (E k 1),.int .i64 (E k 2),.int .i64 (E k 3),.int .i64 (E k 4),.int .i64 (E k 5),.int .i64 (E k 6),.int .i64 (E k 7),.int .i64 (E k 8),.int .i64 (E k 9),.int .i64 (E k 10)] 70)=w3 at hX3 hQ ⊢;clear hQe u0 u1 u2 u3 u4 u5 u6 u7 u8 u9 u10 b5 hX2;obtain ⟨z3,z4,z5,z6⟩:=uh hQ;have b6:=(uh hX3).hold.box.eleven.2.2.2.2.2.2.1;have ci:=hide (refIn7_same g3 40 c3 I 1 (E k 3) (E k 4) w3 (uh hX3).hold.lists.its);have cs:=hide (refSlot_same g3 40 c3 I (t:Int) w3 (uh hX3).hold.lists.its);obtain ⟨fi,hfi⟩:∃fi,Gd.find I 40 1 (E k 3) (E k 4)=fi:=⟨_,rfl⟩;obtain ⟨sl,hsl⟩:∃sl,Gd.slot I 40 (t:Int)=sl:=⟨_,rfl⟩;rw [hfi] at ci;rw [hsl] at cs;have HFI:=hide hfi;have HSL:=hide hsl;clear hfi hsl;go_wp2_with fail;refine (uh ci).mono ?_;rintro e wy ⟨rfl,hy⟩;subst wy;go_wp2_with fail;refine (uh cs).mono ?_;rintro e wy ⟨rfl,hy⟩;subst wy;clear ci cs b6;go_upto_block 0 with fail
  go_cut [] from 7 (fun wx=>∃G F J,Gd.Res c g E I t k input G F J∧Hid (Gd.Boxed w wx B g1 g2 g3 c1 c2 c3 s G c F J))
  case first =>
   clear z3 z4 z5 z6;refine uh HD _ ?_ ?_;all_goals clear HD
   ·rintro m hin hm hd hf hRs;have j5:(input == 5)=false:=by rw [hin];rfl
    have j6:(input == 6)=false:=by rw [hin];rfl
    have j7:(input == 7)=false:=by rw [hin];rfl
    have j8:(input == 8)=true:=by rw [hin];rfl
    have j10:(input == 10)=false:=by rw [hin];rfl
    clear hin;obtain rfl:fi=-1:=(uh HFI).symm.trans hf;clear hf;clear HFI HSL;have hm':(m:Int)<40:=by omega
    have HM:=hide hm;clear hm;have cp:=hide (refHas_same g3 40 c3 I (t:Int) 1 3 w3 (uh hX3).hold.lists.its);rw [hd] at cp;clear hd;go_wp2_with fail;refine (uh cp).mono ?_;rintro e wy ⟨rfl,hy⟩;subst wy;clear cp;obtain ⟨z3,z4,z5,z6⟩:=uh hQ;clear z5 z6;obtain ⟨i0,i1,i2,i3⟩:=(uh hX3).hold.lists.its.row (uh HM);have fI:=(uh hX3).hold.lists.items.free;have hst:=hide ((uh hX3).move3 m 1 (E k 3) (E k 4));go_wp2_with fail
    go_region
    all_goals
     go_wp2_with fail;go_meet;exact ⟨_,_,_,hRs,(uh hst).on (gd1 (World.grownBy.refl _ _))⟩
   ·rintro hin hsh hRs;have j5:(input == 5)=false:=by rw [hin];rfl
    have j6:(input == 6)=false:=by rw [hin];rfl
    have j7:(input == 7)=false:=by rw [hin];rfl
    have j8:(input == 8)=false:=by rw [hin];rfl
    have j10:(input == 10)=true:=by rw [hin];rfl
    clear hin;clear HFI HSL;have hc:=uh HC;obtain ⟨z3,z4,z5,z6⟩:=uh hQ;clear z5 z6;have cin:=hide (fun q:Int=>refIn7_same g3 40 c3 I 4 q 0 w3 (uh hX3).hold.lists.its);have cat:=refAt_any w3.heap.size (some ⟨g1,0,none⟩) 384 c1 c (E k 3) (E k 4) w3 (uh hX3).hold.lists.vec hc;obtain ⟨A,hA⟩:∃A,Gr.at 384 c (E k 3) (E k 4)=A:=⟨_,rfl⟩;rw [hA] at cat hsh;have cat':=hide cat;clear cat hA hc;go_wp2_with fail
    go_loop [17,18] (fun vi vq=>∃(q:Nat) (iv:Int),q≤3∧vq=.int .i64 (q:Int)∧vi=.int .i64 iv∧Hid (Gd.Wares I q iv)) (fun _ vq=>10 - (intOf vq).toNat)
    case atStart=>exact ⟨0,-1,by omega,rfl,rfl,.inl ⟨rfl,fun j hj=>by omega⟩⟩
    case round =>
     obtain ⟨q,iv,hq,rfl,rfl,hP⟩:=hrel;by_cases hq3:q<3
     ·have hq3':(q:Int)<3:=by omega
      have HQ:=hide hq3;clear hq3 hq;by_cases hn:iv<0
      ·have hnext:=hide (Gd.Wares.next (uh hP) hn (uh HQ));obtain ⟨r,hr⟩:∃r,Gd.find I 40 4 (q:Int) 0=r:=⟨_,rfl⟩;have c2:=uh cin (q:Int);rw [hr] at c2 hnext;have c2':=hide c2;clear c2 hr cin cat' hP;go_wp2_with fail;refine (uh c2').mono ?_;rintro e wy ⟨rfl,hy⟩;subst wy;go_wp2;go_round;case rel=>exact ⟨q+1,r,by have:=uh HQ;omega,by go_num,rfl,hnext⟩
       case measure=>simp [intOf];have:=uh HQ;omega
      ·have hw:=(uh hP).done (.inl (by omega));have b4:=(uh hX3).hold.box.eleven.2.2.2.2.1;have hsh2:(A == 5)=false:=by simpa using hsh
       clear hsh hw;clear cin hP;go_wp2_with fail;refine (uh cat').mono ?_;rintro e wy ⟨rfl,hy⟩;subst wy;clear cat';go_wp2_with fail;go_meet;exact ⟨_,_,_,hRs,hX3⟩
     ·have hq3':¬(q:Int)<3:=by omega
      have hw:=(uh hP).done (.inr (by omega));clear hq3 hq;have b4:=(uh hX3).hold.box.eleven.2.2.2.2.1;have hsh2:(A == 5)=false:=by simpa using hsh
      clear hsh hw;clear cin hP;go_wp2_with fail;refine (uh cat').mono ?_;rintro e wy ⟨rfl,hy⟩;subst wy;clear cat';go_wp2_with fail;go_meet;exact ⟨_,_,_,hRs,hX3⟩
  case rest =>
   obtain ⟨Gn,En',Jn,hRs,hbx⟩:=hcut;obtain ⟨b0,b1,b2,b3,b4,b5,b6,b7,b8,b9,b10⟩:=(uh hbx).hold.box.eleven;have fz:=(uh hbx).res.free;obtain ⟨z0,z1,z2,z3,z4,z5,z6,z7,z8,z9,z10⟩:=Gd.res_cells (uh hbx).res;have hfin:=hide (fun vs=>(uh hbx).worlds vs);go_wp2;refine bodyPost_ret (v:=.agg (Gd.world s g1 g2 g3 c1 c2 c3 Gn)) (by simp [results,Tryz.results46,go_sem,Gd.world,z0,z1,z2,z3,z4,z5,z6,z7,z8,z9,z10]) rfl ?_;obtain ⟨rfl,rfl,rfl⟩:=hRs;exact uh hfin [_,_,_,_,_,_,_,_,_,_,_]

end Go.Proofs.YtldgbkjceildfaaGreat
