import Derived.Test.YtbanjoflgoiegaaGreatPart02
import Derived.Test.YtbanjoflgoiegaaGreatPart04
set_option maxHeartbeats 4000000
set_option maxRecDepth 8000
namespace Go.Proofs.YtbanjoflgoiegaaGreat
open Go.Proofs.Tryz
open Go.RowKit
variable{G c:Nat}{tx ty x y:Int}{w wr:World}
structure ij(w:World)(G:Nat)(x y tx ty:Int)(wr:World):Prop where
 iV:ax wr w.heap.size 118 2 (fun j=>.int .i64 (if j=0 then x else y))
 uY:ax wr (w.heap.size+1) 118 2 (fun j=>.int .i64 (if j=0 then tx else ty))
 grown:w.grownBy wr (some G)
theorem ij.on{wx:World}(h:ij w G x y tx ty wr)(hg:wr.grownBy wx none):ij w G x y tx ty wx :=
 ⟨h.iV.grown hg (by simp),h.uY.grown hg (by simp),cO h.grown hg⟩
theorem gpt(w:World)(g i:Nat)(u:Value):w.grownBy (w.setCell ⟨g,i,none⟩ u) (some g):=gst (abF _ _) i u
theorem ij.put(h:ij w G x y tx ty wr)(hG:G<w.heap.size)(i:Nat)(u:Value):ij w G x y tx ty (wr.setCell ⟨G,i,none⟩ u) :=
 ⟨h.iV.grown (gpt wr G i u) (by simp;omega),h.uY.grown (gpt wr G i u) (by simp;omega),gst h.grown i u⟩
theorem ij.move(h:ij w G x y tx ty wr)(u v:Int):ij w G u v tx ty ((wr.setCell ⟨w.heap.size,0,none⟩ (.int .i64 u)).setCell ⟨w.heap.size,1,none⟩ (.int .i64 v)):=by
 have hg:wr.grownBy ((wr.setCell ⟨w.heap.size,0,none⟩ (.int .i64 u)).setCell ⟨w.heap.size,1,none⟩ (.int .i64 v)) (some w.heap.size):=gst (gpt _ _ _ _) _ _;refine⟨?_,h.uY.grown hg (by simp),gow h.grown hg (fun n e=>by cases e;omega)⟩;refine((h.iV.store _ _).store _ _).congr fun j hj=>?_;rcases(show j=0\/j=1 by omega)with rfl|rfl <;> rfl
theorem ax.iY(w:World)(x y:Int)(T:TypeId):ax (w.alloc (.cells #[.int .i64 x,.int .i64 y] T)) w.heap.size T 2 (fun j=>.int .i64 (if j=0 then x else y)):=by
 refine⟨_,abH _ _,rfl,fun i hi=>?_⟩;rcases(show i=0\/i=1 by omega)with rfl|rfl <;> rfl
theorem ij.start(w:World)(G:Nat)(x y tx ty:Int):ij w G x y tx ty ((w.alloc (.cells #[.int .i64 x,.int .i64 y] 118)).alloc (.cells #[.int .i64 tx,.int .i64 ty] 118)):=by
 refine⟨(ax.iY _ _ _ _).alloc _,?_,gal (abE _ _ _) _⟩;have h:=ax.iY (w.alloc (.cells #[.int .i64 x,.int .i64 y] 118)) tx ty 118
 simpa using h
theorem Gn.R0(hx:x=tx)(hy:y=ty):Gn.dh x y tx ty=0:=by
 unfold Gn.dh;omega
theorem Gn.n9{first:Bool}{st:(Nat->Int) × Bool}(h:¬(x=tx/\y=ty))(hc:y*24+x=(c:Int)):Gn.digRun tx ty first (Gn.dh x y tx ty) st x y=Gn.digRun tx ty first (Gn.dh (Gn.dY x y tx ty first) (Gn.dZ x y tx ty first) tx ty) (Gn.bG st c) (Gn.dY x y tx ty first) (Gn.dZ x y tx ty first):=by
 rw[<-Gn.cJ x y tx ty first h,Gn.digRun,hc,abG]
theorem Gn.rX{first:Bool}{st:(Nat->Int) × Bool}(hx:x=tx)(hy:y=ty)(hc:y*24+x=(c:Int)):Gn.digRun tx ty first (Gn.dh x y tx ty) st x y=Gn.bG st c:=by
 rw[Gn.R0 hx hy,Gn.digRun,hc,abG]
theorem Gn.yZ{st:(Nat->Int) × Bool}(h:st.1 c=0):Gn.bG st c=(Gr.dj st.1 c (if st.2 then 1 else 2),true):=abP h
theorem Gn.yY{st:(Nat->Int) × Bool}(h:¬st.1 c=0):Gn.bG st c=st:=abO h
theorem ax.w9{g n:Nat}{T:TypeId}{F:N1}(h:ax w g T n (aZ F))(i:Nat)(v:Int):ax (w.setCell ⟨g,i,none⟩ (.int .u8 v)) g T n (aZ (Gr.dj F i v)):=by
 refine(h.store i _).congr fun j _=>?_;show(if j=i then Value.int .u8 v else .int .u8 (F j))=.int .u8 (if j=i then v else F j);split <;> rfl
theorem QD(G:Nat)(c0:N1)(x0 y0 tx ty:Int)(first:Bool)(w:World)(hA:ax w G 5 384 (aZ c0))(h5:∀i,0<=c0 i/\c0 i<=5)(tB:(1<=x0/\x0<=22)/\1<=y0/\y0<=14)(ht:(1<=tx/\tx<=22)/\1<=ty/\ty<=14):Calls prog 130 #[.slice (some ⟨G,0,none⟩) 384 384,.agg #[.int .i64 x0,.int .i64 y0],.agg #[.int .i64 tx,.int .i64 ty],.bool first] w
   (fun e w'=>e=.returned (.tuple #[])/\ax w' G 5 384 (aZ (Gn.digRun tx ty first (Gn.dh x0 y0 tx ty) (c0,false) x0 y0).1)/\w.grownBy w' (some G)):=by
 have hG:=hA.lt;have jr:=aa hA;have TO:=aa h5;have oA:=aa ht;have XR:=aa tB;obtain⟨fin,ah⟩:∃fin,fin=(Gn.digRun tx ty first (Gn.dh x0 y0 tx ty) (c0,false) x0 y0).1:=⟨_,rfl⟩;rw[<-ah];have gh:=aa ah;clear hA h5 ah ht tB;go_enter func130,ntmps130;go_wp2_with fail;refine l9 0 (fun m a' w'=>∃(x y kd:Int) (st:(Nat->Int) × Bool) (u4 u7 u9 iO S7 S8 S9 Ta Tb u16 Tc Td Te Tf Tg Ti Tj Tk Tl Tm Tn:Value),a'={ tmps:=#[.slice (some ⟨G,0,none⟩) 384 384,.agg #[.int .i64 x0,.int .i64 y0],.agg #[.int .i64 tx,.int .i64 ty],.bool first,u4,.pointer (some ⟨w.heap.size,0,none⟩),.pointer (some ⟨w.heap.size+1,0,none⟩),u7,.int .u8 kd,u9,iO,S7,S8,S9,Ta,Tb,u16,Tc,Td,Te,Tf,Tg,Ti,Tj,Tk,Tl,Tm,Tn],defers:=[] }/\((1<=x/\x<=22)/\1<=y/\y<=14)/\(∀i,0<=st.1 i/\st.1 i<=5)/\ax w' G 5 384 (aZ st.1)/\ij w G x y tx ty w'/\m=Gn.dh x y tx ty/\(Gn.digRun tx ty first m st x y).1=fin/\kd=(if st.2 then 1 else 2)) rfl ?_ ?_
 ·obtain⟨st,aK⟩:∃st:(Nat->Int) × Bool,st=(c0,false):=⟨_,rfl⟩;have Of:Hid ((2:Int)=if st.2 then 1 else 2):=by rw[aK];rfl
  have UQ:Hid (∀i,0<=st.1 i/\st.1 i<=5):=by rw[aK];exact uh TO
  have dP:Hid (ax ((w.alloc (.cells #[.int .i64 x0,.int .i64 y0] 118)).alloc (.cells #[.int .i64 tx,.int .i64 ty] 118)) G 5 384 (aZ st.1)):=by rw[aK];exact((uh jr).alloc _).alloc _
  have dp:=aa (ij.start w G x0 y0 tx ty);have jg:Hid ((Gn.digRun tx ty first (Gn.dh x0 y0 tx ty) st x0 y0).1=fin):=by rw[aK];exact(uh gh).symm
  obtain⟨⟨b1,b2⟩,b3,b4⟩:=uh XR;clear aK jr TO gh XR;have p1:=(uh dp).iV.cell (i:=0) (by omega);have p2:=(uh dp).iV.cell (i:=1) (by omega);simp only[ite_true,Nat.one_ne_zero,ite_false]at p1 p2;go_wp2_with fail
  go_step3
  go_wp2_with fail;refine aaR (rP x0 y0 _ (by omega) (by omega) (by omega) (by omega)) fun wn zH=>?_;obtain⟨c,hc⟩:∃c:Nat,y0*24+x0=(c:Int):=⟨(y0*24+x0).toNat,by omega⟩;have iu:c<384:=by omega
  have dF:=aa ((uh dP).grown zH (by simp));have kN:=aa ((uh dp).on zH);rw[hc];have ya:wn.cell? ⟨G,c,none⟩=some (.int .u8 (st.1 c)):=(uh dF).cell iu;have Z9:=(uh dF).free c;have oS:(c:Int)<384:=by omega
  have fD:=aa hc;have Ox:=aa (Gn.gJ (k:=c) (uh UQ));clear zH dP dp p1 p2 hc;by_cases nl:st.1 c=0
  ·have aD:(st.1 c==0)=true:=by simpa using nl
   have iG:=Gn.yZ nl;rw[<-uh Of]at iG;have fa:Hid (ax (wn.setCell ⟨G,c,none⟩ (.int .u8 2)) G 5 384 (aZ (Gn.bG st c).1)):=by rw[iG];exact(uh dF).w9 c _
   have Oe:Hid ((1:Int)=if (Gn.bG st c).2 then 1 else 2):=by rw[iG];rfl
   have eV:=aa ((uh kN).put hG c (.int .u8 2));obtain⟨wm,OB⟩:∃wm,wm=wn.setCell ⟨G,c,none⟩ (.int .u8 2):=⟨_,rfl⟩;rw[<-OB]at fa eV;have p1:=(uh eV).iV.cell (i:=0) (by omega);have p2:=(uh eV).iV.cell (i:=1) (by omega);have p3:=(uh eV).uY.cell (i:=0) (by omega);have p4:=(uh eV).uY.cell (i:=1) (by omega);simp only[ite_true,Nat.one_ne_zero,ite_false]at p1 p2 p3 p4;clear nl iG dF kN;have UX:=OB.symm;clear OB;by_cases fh:x0=tx/\y0=ty
   ·obtain⟨hex,Jl⟩:=fh;have q1:(x0==tx)=true:=by simpa using hex
    have q2:(y0==ty)=true:=by simpa using Jl
    have hf:Hid (ax wm G 5 384 (aZ fin)):=by
     have h:=uh fa;rw[<-Gn.rX (first:=first) hex Jl (uh fD),uh jg]at h;exact h
    clear hex Jl;go_wp2;simp only[Exit.jump];refine abN (results_none rfl _ _ _) rfl ?_;exact⟨rfl,uh hf,(uh eV).grown⟩
   ·have tw:=Gn.n9 (first:=first) (st:=st) fh (uh fD);rw[<-Gn.cJ x0 y0 tx ty first fh]at jg;have eO:=uh jg;rw[Gn.cJ x0 y0 tx ty first fh,tw]at eO;have oX:=aa eO;have zL:=aa (Gn.cJ x0 y0 tx ty first fh);have FW:=Gn.iT x0 y0 tx ty first ⟨⟨b1,b2⟩,b3,b4⟩ (uh oA)
    have vo:=aa FW;obtain⟨nx,gM⟩:∃nx,nx=Gn.dY x0 y0 tx ty first:=⟨_,rfl⟩
    obtain⟨ny,Js⟩:∃ny,ny=Gn.dZ x0 y0 tx ty first:=⟨_,rfl⟩
    rw[<-gM,<-Js]at oX zL vo;have lK:=fun w'=>nX x0 y0 tx ty first w' (by omega) (by omega) (by omega) (by omega)
    rw[<-gM,<-Js]at lK;have qv:=aa lK;clear tw eO FW gM Js lK;have hq:(x0==tx)=false\/((x0==tx)=true/\(y0==ty)=false):=by
     by_cases hx:x0=tx
     ·right;exact⟨by simpa using hx,by simpa using fun h=>fh ⟨hx,h⟩⟩
     ·left
      simpa using hx
    clear fh;rcases hq with q1|⟨q1,q2⟩
    all_goals
     go_wp2_with fail;refine aaR (uh qv _) fun wv hgv=>?_;have jN:=aa ((uh fa).grown hgv (by simp));have iH:=aa ((uh eV).on hgv);have z1:=(uh iH).iV.cell (i:=0) (by omega);have z2:=(uh iH).iV.cell (i:=1) (by omega);have z3:=(uh iH).iV.free 0;have z4:=(uh iH).iV.free 1;clear hgv;go_wp2_with fail
     go_step3
     exact⟨rfl,Gn.dh nx ny tx ty,nx,ny,_,Gn.bG st c,_,_,_,_,_,_,_,_,_,_,_,_,_,_,_,_,_,_,_,_,_,rfl,uh vo,uh Ox,(uh jN).grown (gst (gpt _ _ _ _) _ _) (by simp;omega),(uh iH).move nx ny,rfl,uh oX,uh Oe⟩
  ·have aD:(st.1 c==0)=false:=by simpa using nl
   have iG:=Gn.yY nl;have fa:Hid (ax wn G 5 384 (aZ (Gn.bG st c).1)):=by rw[iG];exact uh dF
   have Oe:Hid ((2:Int)=if (Gn.bG st c).2 then 1 else 2):=by rw[iG];exact uh Of
   have eV:=kN;have p1:=(uh eV).iV.cell (i:=0) (by omega);have p2:=(uh eV).iV.cell (i:=1) (by omega);have p3:=(uh eV).uY.cell (i:=0) (by omega);have p4:=(uh eV).uY.cell (i:=1) (by omega);simp only[ite_true,Nat.one_ne_zero,ite_false]at p1 p2 p3 p4;clear nl iG dF kN;by_cases fh:x0=tx/\y0=ty
   ·obtain⟨hex,Jl⟩:=fh;have q1:(x0==tx)=true:=by simpa using hex
    have q2:(y0==ty)=true:=by simpa using Jl
    have hf:Hid (ax wn G 5 384 (aZ fin)):=by
     have h:=uh fa;rw[<-Gn.rX (first:=first) hex Jl (uh fD),uh jg]at h;exact h
    clear hex Jl;go_wp2;simp only[Exit.jump];refine abN (results_none rfl _ _ _) rfl ?_;exact⟨rfl,uh hf,(uh eV).grown⟩
   ·have tw:=Gn.n9 (first:=first) (st:=st) fh (uh fD);rw[<-Gn.cJ x0 y0 tx ty first fh]at jg;have eO:=uh jg;rw[Gn.cJ x0 y0 tx ty first fh,tw]at eO;have oX:=aa eO;have zL:=aa (Gn.cJ x0 y0 tx ty first fh);have FW:=Gn.iT x0 y0 tx ty first ⟨⟨b1,b2⟩,b3,b4⟩ (uh oA)
    have vo:=aa FW;obtain⟨nx,gM⟩:∃nx,nx=Gn.dY x0 y0 tx ty first:=⟨_,rfl⟩
    obtain⟨ny,Js⟩:∃ny,ny=Gn.dZ x0 y0 tx ty first:=⟨_,rfl⟩
    rw[<-gM,<-Js]at oX zL vo;have lK:=fun w'=>nX x0 y0 tx ty first w' (by omega) (by omega) (by omega) (by omega)
    rw[<-gM,<-Js]at lK;have qv:=aa lK;clear tw eO FW gM Js lK;have hq:(x0==tx)=false\/((x0==tx)=true/\(y0==ty)=false):=by
     by_cases hx:x0=tx
     ·right;exact⟨by simpa using hx,by simpa using fun h=>fh ⟨hx,h⟩⟩
     ·left
      simpa using hx
    clear fh;rcases hq with q1|⟨q1,q2⟩
    all_goals
     go_wp2_with fail;refine aaR (uh qv _) fun wv hgv=>?_;have jN:=aa ((uh fa).grown hgv (by simp));have iH:=aa ((uh eV).on hgv);have z1:=(uh iH).iV.cell (i:=0) (by omega);have z2:=(uh iH).iV.cell (i:=1) (by omega);have z3:=(uh iH).iV.free 0;have z4:=(uh iH).iV.free 1;clear hgv;go_wp2_with fail
     go_step3
     exact⟨rfl,Gn.dh nx ny tx ty,nx,ny,_,Gn.bG st c,_,_,_,_,_,_,_,_,_,_,_,_,_,_,_,_,_,_,_,_,_,rfl,uh vo,uh Ox,(uh jN).grown (gst (gpt _ _ _ _) _ _) (by simp;omega),(uh iH).move nx ny,rfl,uh oX,uh Oe⟩
 ·rintro m a' w2 ⟨x,y,kd,st,u4,u7,u9,iO,S7,S8,S9,Ta,Tb,u16,Tc,Td,Te,Tf,Tg,Ti,Tj,Tk,Tl,Tm,Tn,rfl,hb,hs5,hA,hH,rfl,nS,Uy⟩;obtain⟨⟨b1,b2⟩,b3,b4⟩:=hb;have dp:=aa hH;have dP:=aa hA;have UQ:=aa hs5;have jg:=aa nS;have Of:=aa Uy;clear hA hH hs5 nS Uy jr TO gh;have p1:=(uh dp).iV.cell (i:=0) (by omega);have p2:=(uh dp).iV.cell (i:=1) (by omega);simp only[ite_true,Nat.one_ne_zero,ite_false]at p1 p2;go_wp2_with fail;refine aaR (rP x y _ (by omega) (by omega) (by omega) (by omega)) fun wn zH=>?_;obtain⟨c,hc⟩:∃c:Nat,y*24+x=(c:Int):=⟨(y*24+x).toNat,by omega⟩;have iu:c<384:=by omega
  have dF:=aa ((uh dP).grown zH (by simp));have kN:=aa ((uh dp).on zH);rw[hc];have ya:wn.cell? ⟨G,c,none⟩=some (.int .u8 (st.1 c)):=(uh dF).cell iu;have Z9:=(uh dF).free c;have oS:(c:Int)<384:=by omega
  have fD:=aa hc;have Ox:=aa (Gn.gJ (k:=c) (uh UQ));clear zH dP dp p1 p2 hc;by_cases nl:st.1 c=0
  ·have aD:(st.1 c==0)=true:=by simpa using nl
   have iG:=Gn.yZ nl;rw[<-uh Of]at iG;have fa:Hid (ax (wn.setCell ⟨G,c,none⟩ (.int .u8 kd)) G 5 384 (aZ (Gn.bG st c).1)):=by rw[iG];exact(uh dF).w9 c _
   have Oe:Hid ((1:Int)=if (Gn.bG st c).2 then 1 else 2):=by rw[iG];rfl
   have eV:=aa ((uh kN).put hG c (.int .u8 kd));obtain⟨wm,OB⟩:∃wm,wm=wn.setCell ⟨G,c,none⟩ (.int .u8 kd):=⟨_,rfl⟩;rw[<-OB]at fa eV;have p1:=(uh eV).iV.cell (i:=0) (by omega);have p2:=(uh eV).iV.cell (i:=1) (by omega);have p3:=(uh eV).uY.cell (i:=0) (by omega);have p4:=(uh eV).uY.cell (i:=1) (by omega);simp only[ite_true,Nat.one_ne_zero,ite_false]at p1 p2 p3 p4;clear nl iG dF kN;have UX:=OB.symm;clear OB;by_cases fh:x=tx/\y=ty
   ·obtain⟨hex,Jl⟩:=fh;have q1:(x==tx)=true:=by simpa using hex
    have q2:(y==ty)=true:=by simpa using Jl
    have hf:Hid (ax wm G 5 384 (aZ fin)):=by
     have h:=uh fa;rw[<-Gn.rX (first:=first) hex Jl (uh fD),uh jg]at h;exact h
    clear hex Jl;go_wp2;simp only[Exit.jump];refine abN (results_none rfl _ _ _) rfl ?_;exact⟨rfl,uh hf,(uh eV).grown⟩
   ·have tw:=Gn.n9 (first:=first) (st:=st) fh (uh fD);rw[<-Gn.cJ x y tx ty first fh]at jg;have eO:=uh jg;rw[Gn.cJ x y tx ty first fh,tw]at eO;have oX:=aa eO;have zL:=aa (Gn.cJ x y tx ty first fh);have FW:=Gn.iT x y tx ty first ⟨⟨b1,b2⟩,b3,b4⟩ (uh oA)
    have vo:=aa FW;obtain⟨nx,gM⟩:∃nx,nx=Gn.dY x y tx ty first:=⟨_,rfl⟩
    obtain⟨ny,Js⟩:∃ny,ny=Gn.dZ x y tx ty first:=⟨_,rfl⟩
    rw[<-gM,<-Js]at oX zL vo;have lK:=fun w'=>nX x y tx ty first w' (by omega) (by omega) (by omega) (by omega)
    rw[<-gM,<-Js]at lK;have qv:=aa lK;clear tw eO FW gM Js lK;have hq:(x==tx)=false\/((x==tx)=true/\(y==ty)=false):=by
     by_cases hx:x=tx
     ·right;exact⟨by simpa using hx,by simpa using fun h=>fh ⟨hx,h⟩⟩
     ·left
      simpa using hx
    clear fh;rcases hq with q1|⟨q1,q2⟩
    all_goals
     go_wp2_with fail;refine aaR (uh qv _) fun wv hgv=>?_;have jN:=aa ((uh fa).grown hgv (by simp));have iH:=aa ((uh eV).on hgv);have z1:=(uh iH).iV.cell (i:=0) (by omega);have z2:=(uh iH).iV.cell (i:=1) (by omega);have z3:=(uh iH).iV.free 0;have z4:=(uh iH).iV.free 1;clear hgv;go_wp2_with fail
     go_step3
     exact⟨rfl,Gn.dh nx ny tx ty,by have:=uh zL;omega,nx,ny,_,Gn.bG st c,_,_,_,_,_,_,_,_,_,_,_,_,_,_,_,_,_,_,_,_,_,rfl,uh vo,uh Ox,(uh jN).grown (gst (gpt _ _ _ _) _ _) (by simp;omega),(uh iH).move nx ny,rfl,uh oX,uh Oe⟩
  ·have aD:(st.1 c==0)=false:=by simpa using nl
   have iG:=Gn.yY nl;have fa:Hid (ax wn G 5 384 (aZ (Gn.bG st c).1)):=by rw[iG];exact uh dF
   have Oe:Hid ((kd:Int)=if (Gn.bG st c).2 then 1 else 2):=by rw[iG];exact uh Of
   have eV:=kN;have p1:=(uh eV).iV.cell (i:=0) (by omega);have p2:=(uh eV).iV.cell (i:=1) (by omega);have p3:=(uh eV).uY.cell (i:=0) (by omega);have p4:=(uh eV).uY.cell (i:=1) (by omega);simp only[ite_true,Nat.one_ne_zero,ite_false]at p1 p2 p3 p4;clear nl iG dF kN;by_cases fh:x=tx/\y=ty
   ·obtain⟨hex,Jl⟩:=fh;have q1:(x==tx)=true:=by simpa using hex
    have q2:(y==ty)=true:=by simpa using Jl
    have hf:Hid (ax wn G 5 384 (aZ fin)):=by
     have h:=uh fa;rw[<-Gn.rX (first:=first) hex Jl (uh fD),uh jg]at h;exact h
    clear hex Jl;go_wp2;simp only[Exit.jump];refine abN (results_none rfl _ _ _) rfl ?_;exact⟨rfl,uh hf,(uh eV).grown⟩
   ·have tw:=Gn.n9 (first:=first) (st:=st) fh (uh fD);rw[<-Gn.cJ x y tx ty first fh]at jg;have eO:=uh jg;rw[Gn.cJ x y tx ty first fh,tw]at eO;have oX:=aa eO;have zL:=aa (Gn.cJ x y tx ty first fh);have FW:=Gn.iT x y tx ty first ⟨⟨b1,b2⟩,b3,b4⟩ (uh oA)
    have vo:=aa FW;obtain⟨nx,gM⟩:∃nx,nx=Gn.dY x y tx ty first:=⟨_,rfl⟩
    obtain⟨ny,Js⟩:∃ny,ny=Gn.dZ x y tx ty first:=⟨_,rfl⟩
    rw[<-gM,<-Js]at oX zL vo;have lK:=fun w'=>nX x y tx ty first w' (by omega) (by omega) (by omega) (by omega)
    rw[<-gM,<-Js]at lK;have qv:=aa lK;clear tw eO FW gM Js lK;have hq:(x==tx)=false\/((x==tx)=true/\(y==ty)=false):=by
     by_cases hx:x=tx
     ·right;exact⟨by simpa using hx,by simpa using fun h=>fh ⟨hx,h⟩⟩
     ·left
      simpa using hx
    clear fh;rcases hq with q1|⟨q1,q2⟩
    all_goals
     go_wp2_with fail;refine aaR (uh qv _) fun wv hgv=>?_;have jN:=aa ((uh fa).grown hgv (by simp));have iH:=aa ((uh eV).on hgv);have z1:=(uh iH).iV.cell (i:=0) (by omega);have z2:=(uh iH).iV.cell (i:=1) (by omega);have z3:=(uh iH).iV.free 0;have z4:=(uh iH).iV.free 1;clear hgv;go_wp2_with fail
     go_step3
     exact⟨rfl,Gn.dh nx ny tx ty,by have:=uh zL;omega,nx,ny,_,Gn.bG st c,_,_,_,_,_,_,_,_,_,_,_,_,_,_,_,_,_,_,_,_,_,rfl,uh vo,uh Ox,(uh jN).grown (gst (gpt _ _ _ _) _ _) (by simp;omega),(uh iH).move nx ny,rfl,uh oX,uh Oe⟩
theorem pj{op tg:Nat->Prop}{F:N1}(h:Gr.dO op tg F):∀(n:Nat) i,i<384->F i=n->n<=400:=by
 intro n i hi hn;have key:∀m:Nat,m<=n->∃j,j<384/\F j=m:=by
  intro m hm
  induction hnm:n-m generalizing m with
  | zero=>exact⟨i,hi,by omega⟩
  | succ q ih =>
   obtain⟨j,hj,he⟩:=ih (m+1) (by omega) (by omega);obtain⟨_,j',_,zK,_,_,_,xn⟩:=h.back j hj (by omega);exact⟨j',zK,by omega⟩
 by_cases hc:n<=400
 ·exact hc
 ·exfalso;have inj:∀m:Nat,m<=n+1->m<=(List.range 384).countP (fun i=>decide (0<=F i/\F i<m)):=by
   intro m
   induction m with
   | zero=>intro _;exact Nat.zero_le _
   | succ m ih =>
    intro hm;have h1:=ih (by omega);obtain⟨j,hj,he⟩:=key m (by omega);have h2:(List.range 384).countP (fun i=>decide (0<=F i/\F i<m))<(List.range 384).countP (fun i=>decide (0<=F i/\F i<((m+1:Nat):Int))):=by
     have hs:∀(l:List Nat),j∈l->l.countP (fun i=>decide (0<=F i/\F i<m))<l.countP (fun i=>decide (0<=F i/\F i<((m+1:Nat):Int))):=by
      intro l
      induction l with
      | nil=>intro hm;cases hm
      | cons x l ih =>
       intro hm;have hle:l.countP (fun i=>decide (0<=F i/\F i<m))<=l.countP (fun i=>decide (0<=F i/\F i<((m+1:Nat):Int))) :=
        List.countP_mono_left fun y _ hy=>by simp only[decide_eq_true_eq]at *;omega
       rw[List.countP_cons,List.countP_cons];rcases List.mem_cons.1 hm with rfl|hm
       ·rw[abO (by simp;omega),abP (by simp;omega)];omega
       ·have:=ih hm;by_cases hx:0<=F x/\F x<m
        ·rw[abP (by simpa using hx),abP (by simp;omega)];omega
        ·rw[abO (by simpa using hx)];omega
     exact hs _ (List.mem_range.2 hj)
    omega
  have:=inj 401 (by omega);have hle:(List.range 384).countP (fun i=>decide (0<=F i/\F i<((401:Nat):Int)))<=(List.range 384).length:=List.countP_le_length;rw[List.length_range]at hle;omega
namespace Gn
variable{F c:N1}
structure MR(c:N1)(up:Nat)(F:N1):Prop where
 is:Gr.dO (fun i=>Gr.aS (c i)=true) (fun i=>i=up) F
 out:∀i,384<=i->F i=0
theorem MR.bo{up:Nat}{H:N1}(h:MR c up F)(k:MR c up H):F=H:=by
 funext i;by_cases hi:i<384
 ·exact h.is.bo k.is i hi
 ·rw[h.out i (by omega),k.out i (by omega)]
theorem pU{op op' tg tg':Nat->Prop}{H:N1}(h:Gr.dO op tg F)(ho:∀i,i<384->(op i↔op' i))(ht:∀i,i<384->(tg i↔tg' i))(hF:∀i,i<384->F i=H i):Gr.dO op' tg' H:=by
 refine⟨fun i hi=>?_,fun i hi=>?_,fun i hi hp=>?_,fun j hj h0 d hd hn hop=>?_⟩
 ·rw[<-hF i hi];exact h.lo i hi
 ·rw[<-hF i hi,h.zero i hi];exact ht i hi
 ·rw[<-hF i hi]at hp;obtain⟨o,j,d,hj,hd,hn,he,hv⟩:=h.back i hi hp;exact⟨(ho i hi).1 o,j,d,hj,hd,hn,he,by rw[<-hF i hi,<-hF j hj];exact hv⟩
 ·rw[<-hF j hj]at h0;have hb:=Gr.yr hn;have:=h.TK j hj h0 d hd hn ((ho _ hb).2 hop);rw[<-hF j hj,<-hF _ hb];exact this
theorem MR.XY{op tg:Nat->Prop}{up:Nat}(h:Gr.dO op tg F)(ho:∀i,i<384->(op i↔Gr.aS (c i)=true))(ht:∀i,i<384->(tg i↔i=up)):MR c up (fun i=>if i<384 then F i else 0):=by
 refine⟨pU h ho ht fun i hi=>by rw[abP hi],fun i hi=>by rw[abO (by omega)]⟩
structure ti(F:N1)(far:Nat):Prop where
 lt:far<384
 wD:∀i,i<384->F i<=F far
 fst:∀i,i<far->F i<F far
theorem ti.bo{a b:Nat}(h:ti F a)(k:ti F b):a=b:=by
 have h1:=h.wD b k.lt;have h2:=k.wD a h.lt;rcases Nat.lt_trichotomy a b with g|g|g
 ·have:=k.fst a g;omega
 ·exact g
 ·have:=h.fst b g;omega
theorem TJ(F:N1):∃far,ti F far/\F far=most F 383:=by
 obtain⟨i,hi,he⟩:=RB F 383;obtain⟨m,hm,hl⟩:=vO (fun i=>i<=383/\F i=most F 383) i ⟨hi,he⟩;refine⟨m,⟨by omega,fun j hj=>by rw[hm.2];exact Lf F 383 j (by omega),fun j hj=>?_⟩,hm.2⟩;have h1:=Lf F 383 j (by omega);rw[hm.2];by_cases e:F j=most F 383
 ·have:=hl j ⟨by omega,e⟩;omega
 ·omega
def jK(c F:N1)(v:Int):Option Nat:=(List.range 384).find? (fun i=>F i==v&&c i==1)
def FH(c:N1):Option Nat->Nat->Int
 | none=>c
 | some k=>Gr.dj c k 5
def bp(d:aY)(c F:N1)(far:Nat):Nat->Int :=
 if d 6 0 2=0 then FH (Gr.dj c far 4) (jK (Gr.dj c far 4) F (F far/2))else Gr.dj c far 4
theorem yD{v:Int}{k:Nat}(hk:k<384)(hp:(F k==v&&c k==1)=true)(hn:∀i,i<k->(F i==v&&c i==1)=false):jK c F v=some k:=by
 unfold jK;rw[List.find?_range_eq_some];exact⟨hp,List.mem_range.2 hk,fun j hj=>by rw[hn j hj];rfl⟩
theorem yC{v:Int}(hn:∀i,i<384->(F i==v&&c i==1)=false):jK c F v=none:=by
 unfold jK;rw[List.find?_range_eq_none];exact fun j hj=>by rw[hn j hj];rfl
end Gn
theorem dV{w w':World}(h:Below w.heap.size w w'):w.grownBy w' none:=⟨h.os,h.tape,h.output,h.size,fun k hk _=>h.block k hk⟩
theorem il.S3(B:Nat)(w:World)(a:Option Addr)(F:Nat->Value):il B w a 0 F:=⟨Nat.zero_le _,.inl rfl⟩
theorem il.bo(w:World)(B:Nat)(hB:B=w.heap.size)(v:Value)(T:TypeId)(F:Nat->Value)(hv:F 0=v):il (w.alloc (.cells #[v] T)).heap.size (w.alloc (.cells #[v] T)) (some ⟨B,0,none⟩) 1 F:=by
 subst hB;refine⟨by decide,.inr ⟨_,_,rfl,by simp,fun i hi=>?_⟩⟩;obtain rfl:i=0:=by omega
 simp[hv]
structure fK(w:World)(G:Nat)(s f ux uy:Int)(wr:World):Prop where
 ep:ax wr w.heap.size 116 2 (fun j=>.int .i64 (if j=0 then s else f))
 up:ax wr (w.heap.size+1) 118 2 (fun j=>.int .i64 (if j=0 then ux else uy))
 grown:w.grownBy wr (some G)
theorem fK.on{w:World}{G:Nat}{s f ux uy:Int}{wr wx:World}(h:fK w G s f ux uy wr)(hg:wr.grownBy wx none):fK w G s f ux uy wx :=
 ⟨h.ep.grown hg (by simp),h.up.grown hg (by simp),cO h.grown hg⟩
theorem fK.put{w:World}{G:Nat}{s f ux uy:Int}{wr:World}(h:fK w G s f ux uy wr)(hG:G<w.heap.size)(i:Nat)(u:Value):fK w G s f ux uy (wr.setCell ⟨G,i,none⟩ u) :=
 ⟨h.ep.grown (gpt wr G i u) (by simp;omega),h.up.grown (gpt wr G i u) (by simp;omega),gst h.grown i u⟩
theorem fK.start(w:World)(G:Nat)(s f ux uy:Int):fK w G s f ux uy ((w.alloc (.cells #[.int .i64 s,.int .i64 f] 116)).alloc (.cells #[.int .i64 ux,.int .i64 uy] 118)):=by
 refine⟨(ax.iY _ _ _ _).alloc _,?_,gal (abE _ _ _) _⟩;have h:=ax.iY (w.alloc (.cells #[.int .i64 s,.int .i64 f] 116)) ux uy 118
 simpa using h
def IR(w:World)(G:Nat)(d:Gn.aY)(c:N1)(up:Nat)(e:Ending)(w':World):Prop :=
 ∃(F:N1)(far g:Nat),Gn.MR c up F/\Gn.ti F far/\e=.returned (.slice (some ⟨g,0,none⟩) 384 384)/\w.heap.size<=g/\ax w' g 3 384 (bB F)/\ax w' G 5 384 (aZ (Gn.bp d c F far))/\w.grownBy w' (some G)
theorem Kb(s f:Int)(d:Gn.aY)(hd:∀a b n,Gn.D s f a b n=d a b n)(G:Nat)(c:N1)(ux uy:Int)(up:Nat)(w:World)(hA:ax w G 5 384 (aZ c))(h5:∀i,0<=c i/\c i<=5)(hx:(1<=ux/\ux<=22)/\1<=uy/\uy<=14)(hu:uy*24+ux=(up:Int)):Calls prog 99 #[.agg #[.int .i64 s,.int .i64 f],.slice (some ⟨G,0,none⟩) 384 384,.agg #[.int .i64 ux,.int .i64 uy]] w (IR w G d (Gr.dj c up 3) up):=by
 have hG:=hA.lt;obtain⟨⟨x1,x2⟩,x3,x4⟩:=hx;have K7:up<384:=by omega
 have aau:(up:Int)<384:=by omega
 have SE:∀i,0<=Gr.dj c up 3 i/\Gr.dj c up 3 i<=5:=Gn.wH h5 (by omega);have MX:Gr.dj c up 3 up=3:=Gr.fV _ _ _;obtain⟨c1,kx⟩:∃c1,c1=Gr.dj c up 3:=⟨_,rfl⟩;rw[<-kx]at SE MX|-;have vt:=aa kx;have jr:=aa hA;have jL:=aa hd;have WI:=aa SE;have aad:=aa MX;have Qc:=aa hu;have tp:=aa (fK.start w G s f ux uy);have p1:=(uh tp).up.cell (i:=0) (by omega);have p2:=(uh tp).up.cell (i:=1) (by omega);simp only[ite_true,Nat.one_ne_zero,ite_false]at p1 p2;clear hA hd h5 kx SE MX;go_enter func99,ntmps99;go_wp2_with fail;clear p1 p2;refine aaR (rP ux uy _ (by omega) (by omega) (by omega) (by omega)) fun wn zH=>?_;have dP:=aa ((((uh jr).alloc _).alloc _).grown zH (by simp));have dp:=aa ((uh tp).on zH);rw[hu];have q1:=(uh dP).cell K7;have q2:=(uh dP).free up;have dF:Hid (ax (wn.setCell ⟨G,up,none⟩ (.int .u8 3)) G 5 384 (aZ c1)):=by rw[uh vt];exact(uh dP).w9 up 3
 have kN:=aa ((uh dp).put hG up (.int .u8 3));obtain⟨wm,OB⟩:=abV (wn.setCell ⟨G,up,none⟩ (.int .u8 3));rw[OB]at dF kN;have p1:=(uh kN).up.cell (i:=0) (by omega);have p2:=(uh kN).up.cell (i:=1) (by omega);simp only[ite_true,Nat.one_ne_zero,ite_false]at p1 p2;clear zH dP dp jr tp hu;go_wp2_with fail;clear q1 q2 p1 p2 OB;clear wn;refine aaR (rP ux uy _ (by omega) (by omega) (by omega) (by omega)) fun wv hgv=>?_;have fa:=aa ((uh dF).grown hgv (by simp));have eV:=aa ((uh kN).on hgv);rw[uh Qc];clear hgv dF kN;clear wm;go_wp2_with fail;have jN:=aa ((uh fa).alloc (.cells #[.int .i64 (up:Int)] 3));have iH:=aa ((uh eV).on (abE wv (.cells #[.int .i64 (up:Int)] 3) none));have hV:=il.bo wv wv.heap.size rfl (.int .i64 (up:Int)) 3 (bB fun _=>(up:Int)) rfl;refine(sC _ _ _ 0 1 _ _ _ c1 (fun _=>(up:Int)) (fun _=>false) _ ((uh jN).lg _ (uh jN).lt (by decide)) (fun i=>by have:=uh WI i;omega) (il.S3 _ _ _ _) hV (fun _=>by constructor <;> omega)).mono ?_;rintro e w5 ⟨F0,⟨g,rfl,hg,Sn,nb⟩,tY⟩;have hF:Gn.MR c1 up (fun i=>if i<384 then F0 i else 0):=Gn.MR.XY tY
  (fun i hi=>by simp[Gr.dt])
  (fun i hi=>by
   constructor
   ·rintro⟨_,j,_,he⟩;have xn:(up:Int)=(i:Int):=he;omega
   ·rintro rfl
    exact⟨by rw[uh aad];rfl,0,by omega,rfl⟩)
 have zp:ax w5 g 3 384 (bB fun i=>if i<384 then F0 i else 0):=Sn.congr fun j hj=>by
  show Value.int .i64 (F0 j)=.int .i64 (if j<384 then F0 j else 0);rw[abP hj]
 obtain⟨F,Wk⟩:∃F:N1,F=fun i=>if i<384 then F0 i else 0:=⟨_,rfl⟩;rw[<-Wk]at hF zp;have hgr:=dV nb;have TR:=aa ((uh jN).grown hgr (by simp));have qp:=aa ((uh iH).on hgr);have iU:=aa hF;have LI:=aa zp;have iR:w.heap.size+1+1<=g:=by have:=(uh eV).up.lt;simp at hg;omega
 clear tY Sn nb hgr jN iH hV Wk hF zp fa eV hg;clear F0;go_wp2_with fail;refine(Rw w5.heap.size _ _ F _ ((uh LI).lg _ (uh LI).lt (by decide))).mono ?_;rintro e w' ⟨rfl,hw⟩;subst w';obtain⟨far,oU,SR⟩:=Gn.TJ F;rw[<-SR];clear SR;go_wp2_with fail;refine(L9 w5.heap.size _ _ F _ far _ ((uh LI).lg _ (uh LI).lt (by decide)) oU.lt rfl (fun i hi=>by have:=oU.fst i hi;omega)).mono ?_;rintro e w' ⟨rfl,hw⟩;subst w';have N5:=aa oU;have qH:far<384:=oU.lt;have abi:(far:Int)<384:=by omega
 have KY:0<=F far:=by
  have h0:=(uh iU).is.zero up K7;have:=oU.wD up K7;have:=h0.2 rfl;omega
 have gM:F far<=400:=by
  have:=pj (uh iU).is (F far).toNat far qH (by omega);omega
 have q1:=(uh TR).cell qH;have q2:=(uh TR).free far;have Yj:=aa ((uh TR).w9 far 4);have I9:=aa ((uh qp).put hG far (.int .u8 4));have TT:=aa ((uh LI).grown (gpt w5 G far (.int .u8 4)) (by simp;omega));obtain⟨c2,oS⟩:∃c2,c2=Gr.dj c1 far 4:=⟨_,rfl⟩;rw[<-oS]at Yj;have zC:=aa oS;have h25:Hid (∀i,0<=c2 i/\c2 i<=5):=by rw[oS];exact Gn.wH (uh WI) (by omega)
 obtain⟨w6,SX⟩:∃wm,w5.setCell ⟨G,far,none⟩ (.int .u8 4)=wm:=⟨_,rfl⟩;rw[SX]at Yj I9 TT;have p1:=(uh I9).ep.cell (i:=0) (by omega);have p2:=(uh I9).ep.cell (i:=1) (by omega);simp only[ite_true,Nat.one_ne_zero,ite_false]at p1 p2;clear oU oS TR qp LI;go_wp2_with fail;clear q1 q2 p1 p2 SX;have kP:=gR s f 6 0 2 w6 (by omega);rw[uh jL]at kP;obtain⟨D0,wO⟩:∃x,x=d 6 0 2:=⟨_,rfl⟩;rw[<-wO]at kP;have GC:=aa wO;clear wO;refine kP.mono ?_;rintro e w7 ⟨rfl,N8⟩;have TS:=aa ((uh Yj).grown N8 (by simp));have Vx:=aa ((uh I9).on N8);have QP:=aa ((uh TT).grown N8 (by simp));clear kP N8 Yj I9 TT;clear w6;by_cases hz:D0=0
 ·have kW:(D0 !=0)=false:=by simpa using hz
  have Qf:=aa (show d 6 0 2=0 by rw[<-uh GC];exact hz);clear hz;go_wp2_with fail;go_loop [33] (fun i=>∃k:Nat,k<=384/\i=.int .i64 (k:Int)/\∀j,j<k->(F j==F far/2&&c2 j==1)=false) (fun i=>400-(intOf i).toNat)
  case atStart=>exact⟨0,by omega,rfl,fun j hj=>by omega⟩
  case round =>
   obtain⟨k,hk,rfl,hno⟩:=hrel;have aT:=aa hno;clear hno;by_cases hlt:k<384
   ·have q1:w7.cell? ⟨g,k,none⟩=some (.int .i64 (F k)):=(uh QP).cell hlt;have q2:w7.cell? ⟨G,k,none⟩=some (.int .u8 (c2 k)):=(uh TS).cell hlt;have q3:=(uh TS).free k;have hlt':(k:Int)<384:=(by omega);have HL:=aa hlt;clear hlt hk;by_cases e1:(F k==F far/2)=true
    ·by_cases e2:(c2 k==1)=true
     ·have js:=Gn.yD (c:=c2) (F:=F) (v:=F far/2) (uh HL) (by rw[e1,e2];rfl) (uh aT);have aK:Hid (Gn.bp d c1 F far=Gr.dj c2 k 5):=by
       show Gn.bp d c1 F far=Gr.dj c2 k 5;unfold Gn.bp;rw[abP (uh Qf),<-uh zC,js];rfl
      clear js;go_wp2;go_ret;exact⟨F,far,g,uh iU,uh N5,rfl,by omega,(uh QP).grown (gpt _ _ _ _) (by simp;omega),by rw[uh aK];exact(uh TS).w9 k 5,gst (uh Vx).grown _ _⟩
     ·have Zl:(c2 k==1)=false:=by simpa using e2
      clear e2;go_wp2
      go_round
      case rel =>
       refine⟨k+1,by have:=uh HL;omega,by go_num,fun j hj=>?_⟩;by_cases pG:j=k
       ·subst pG;rw[e1,Zl];rfl
       ·exact uh aT j (by omega)
      case measure=>simp[intOf];omega
    ·have Zk:(F k==F far/2)=false:=by simpa using e1
     clear e1;go_wp2
     go_round
     case rel =>
      refine⟨k+1,by have:=uh HL;omega,by go_num,fun j hj=>?_⟩;by_cases pG:j=k
      ·subst pG;rw[Zk];rfl
      ·exact uh aT j (by omega)
     case measure=>simp[intOf];omega
   ·have hge:¬(k:Int)<384:=(by omega);obtain rfl:k=384:=(by omega);have js:=Gn.yC (c:=c2) (F:=F) (v:=F far/2) (uh aT);have aK:Hid (Gn.bp d c1 F far=c2):=by
     show Gn.bp d c1 F far=c2;unfold Gn.bp;rw[abP (uh Qf),<-uh zC,js];rfl
    clear js hk hlt;go_wp2;go_ret;exact⟨F,far,g,uh iU,uh N5,rfl,by omega,uh QP,by rw[uh aK];exact uh TS,(uh Vx).grown⟩
 ·have kW:(D0 !=0)=true:=by simpa using hz
  have aK:Hid (Gn.bp d c1 F far=c2):=by
   show Gn.bp d c1 F far=c2;unfold Gn.bp;rw[abO (by rw[<-uh GC];exact hz)];exact(uh zC).symm
  clear hz;go_wp2;go_ret;exact⟨F,far,g,uh iU,uh N5,rfl,by omega,uh QP,by rw[uh aK];exact uh TS,(uh Vx).grown⟩
