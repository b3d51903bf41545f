import Derived.Test.YtapgkgbpekkdjaaPart35
namespace Go.Proofs.Ytapgkgbpekkdjaa
open Go.RowKit

structure RefCor (w:World) (B G X Y:Nat) (d:Gn.Dice) (c:Nat→Int) (wr:World):Prop where
 cells:Arr wr G 5 384 (Byts c)
 xs:Arr wr X 99 6 (fun j=>.int .i64 (Gn.mx d j))
 ys:Arr wr Y 99 6 (fun j=>.int .i64 (Gn.my d j))
 res:Arr wr B 70 3 (fun _=>.slice none 0 0)
 grown:w.grownBy wr none
 o0:w.heap.size≤B
 o1:B<G
 o2:G<X
 o3:X<Y

theorem RefCor.on {w:World} {B G X Y:Nat} {d:Gn.Dice} {c:Nat→Int} {wr wx:World} (h:RefCor w B G X Y d c wr) (hg:wr.grownBy wx none):RefCor w B G X Y d c wx :=
 ⟨h.cells.grown hg (by simp),h.xs.grown hg (by simp),h.ys.grown hg (by simp),h.res.grown hg (by simp),grown_none h.grown hg,h.o0,h.o1,h.o2,h.o3⟩

theorem RefCor.dig {w:World} {B G X Y:Nat} {d:Gn.Dice} {c c':Nat→Int} {wr wx:World} (h:RefCor w B G X Y d c wr) (hA:Arr wx G 5 384 (Byts c')) (hg:wr.grownBy wx (some G)):RefCor w B G X Y d c' wx:=by
 have h0:=h.o0
 have h1:=h.o1
 have h2:=h.o2
 have h3:=h.o3
 exact ⟨hA,h.xs.grown hg (by simp;omega),h.ys.grown hg (by simp;omega),h.res.grown hg (by simp;omega),gow h.grown hg (fun n e=>by cases e;omega),h0,h1,h2,h3⟩

set_option maxRecDepth 100000 in
set_option maxHeartbeats 8000000 in
theorem ref_corr (s f:Int) (d:Gn.Dice) (hd:∀a b n,Gn.D s f a b n=d a b n) (hFr:Gn.Fair d) (h1f:1≤f) (h3f:f≤3) (w:World) (B G X Y:Nat) (wr:World)
  (hC:RefCor w B G X Y d (Gn.dug d 0) wr) {t2 t3 t8 t9 Aa Ab Ac Ad Ae Af Ag Ah Ai Aj Ak Al Am Ao Ap Aq Ar As Au Av Aw Ax Ay Az AA AB AC AD AE AF AG AH AI AJ AK AL AM AN AO AP AQ AR AS AT AU AV AW AX AY AZ A0 A1 A2 A3 A4 A5 A6 A7 A8 A9 Ba Bb Bc Bd Be Bf Bg Bh Bi Bj Bk Bl Bm Bn Bo Bp Bq Br Bs Bt Bu Bv Bw Bx Bz BA BB BC BD BE BF BG BH BI BJ BK BL BM BN BO BP BQ BR BS BT BU BV BW BX BY BZ B0 B1 B2 B3 B4 B5 B6 B7 B8 B9 Ca Cb Cc Cd Ce Cf Cg Ch Ci Cj Ck Cl Cm Cn Co Cp Cq Cs Ct Cu Cv Cw Cx Cy Cz CA CB CC CD CE CF CG CH CI CJ CK CL CM CN CO CP CQ CR CS CT CU CV CW CX CY CZ C0 C1 C2 C3 C4 C5 C6 C7 C8 C9 Da Db Dc Dd De Df Dg Dh Di Dj Dk Dl Dm Dn Dp Dq Dr Ds Dt Du Dv Dw Dx Dy Dz DA DB DC DD DE DF DG DH DI DJ DK DL DM DN DO DP DQ DR DS DT DU DV DW DX DY DZ D1 D2 D3 D4 D5 D6 D7 D8 D9 Ea Eb Ec Ed Ee Ef Eg Eh Ei Ej Ek El Em Eo Ep Er Es Et Eu Ev Ew Ex Ey Ez EA EB EC ED EE EF EG EH EI EJ EK EL EM EN EO EP EQ ER ES ET EU EV EW EX EY EZ E0 E1 E2 E3 E4 E5 E6 E7 E8 E9 Fa Fb Fc Fd Fe Ff Fg Fh Fi Fj Fk Fm Fn Fo:Value} :
  Code.wp Try.prog ((Try.f35.body.map (cdrop 4)).getD .skip) (bodyPost Try.prog Try.f35 (RefDone w d f)) ⟨#[.int .i64 s,.int .i64 f,t2,t3,.pointer (some ⟨B,0,none⟩),.slice (some ⟨G,0,none⟩) 384 384,.pointer (some ⟨X,0,none⟩),.pointer (some ⟨Y,0,none⟩),t8,t9,Aa,Ab,Ac,Ad,Ae,Af,Ag,Ah,Ai,Aj,Ak,Al,Am,Ao,Ap,Aq,Ar,As,Au,Av,Aw,Ax,Ay,Az,AA,AB,AC,AD,AE,AF,AG,AH,AI,AJ,AK,AL,AM,AN,AO,AP,AQ,AR,AS,AT,AU,AV,AW,AX,AY,AZ,A0,A1,A2,A3,A4,A5,A6,A7,A8,A9,Ba,Bb,Bc,Bd,Be,Bf,Bg,Bh,Bi,Bj,Bk,Bl,Bm,Bn,Bo,Bp,Bq,Br,Bs,Bt,Bu,Bv,Bw,Bx,Bz,BA,BB,BC,BD,BE,BF,BG,BH,BI,BJ,BK,BL,BM,BN,BO,BP,BQ,BR,BS,BT,BU,BV,BW,BX,BY,BZ,B0,B1,B2,B3,B4,B5,B6,B7,B8,B9,Ca,Cb,Cc,Cd,Ce,Cf,Cg,Ch,Ci,Cj,Ck,Cl,Cm,Cn,Co,Cp,Cq,Cs,Ct,Cu,Cv,Cw,Cx,Cy,Cz,CA,CB,CC,CD,CE,CF,CG,CH,CI,CJ,CK,CL,CM,CN,CO,CP,CQ,CR,CS,CT,CU,CV,CW,CX,CY,CZ,C0,C1,C2,C3,C4,C5,C6,C7,C8,C9,Da,Db,Dc,Dd,De,Df,Dg,Dh,Di,Dj,Dk,Dl,Dm,Dn,Dp,Dq,Dr,Ds,Dt,Du,Dv,Dw,Dx,Dy,Dz,DA,DB,DC,DD,DE,DF,DG,DH,DI,DJ,DK,DL,DM,DN,DO,DP,DQ,DR,DS,DT,DU,DV,DW,DX,DY,DZ,D1,D2,D3,D4,D5,D6,D7,D8,D9,Ea,Eb,Ec,Ed,Ee,Ef,Eg,Eh,Ei,Ej,Ek,El,Em,Eo,Ep,Er,Es,Et,Eu,Ev,Ew,Ex,Ey,Ez,EA,EB,EC,ED,EE,EF,EG,EH,EI,EJ,EK,EL,EM,EN,EO,EP,EQ,ER,ES,ET,EU,EV,EW,EX,EY,EZ,E0,E1,E2,E3,E4,E5,E6,E7,E8,E9,Fa,Fb,Fc,Fd,Fe,Ff,Fg,Fh,Fi,Fj,Fk,Fm,Fn,Fo],[]⟩ wr:=by
 conv=>arg 2;whnf
 have hd':=hide hd
 have hFr':=hide hFr
 have hC':=hide hC
 clear hd hFr hC
 go_wp2_with fail
 go_loopw [15] (fun vi wr=>∃j k:Nat,k≤5∧j=k+1∧vi=.int .i64 (j:Int)∧RefCor w B G X Y d (Gn.dug d k) wr) (fun vi _=>6 - (intOf vi).toNat)
 case atStart=>exact ⟨1,0,by omega,rfl,rfl,uh hC'⟩
 case round =>
  clear hC'
  rename_i hKK
  have hK0:=hide hKK
  clear hKK
  obtain ⟨j,k,hk,hj,rfl,hC⟩:=hrel
  have hC1:=hide hC
  clear hC
  by_cases hlt:k<5
  ·have hlt':(j:Int)<6:=by omega
   have hjk:(j:Int) - 1=(k:Int):=by omega
   have hk2:(k:Int)<6:=by omega
   have hwr:IntKind.i64.wrap ((j:Int) - 1)=(k:Int):=by rw [hjk,IntKind.wrap_i64];omega
   have hwr2:IntKind.i64.wrap (k:Int)=(k:Int):=by rw [IntKind.wrap_i64];omega
   obtain ⟨D0,hD0⟩:∃x,x=d (j:Int) 4 2:=⟨_,rfl⟩
   obtain ⟨x0,hx0⟩:∃x,x=Gn.mx d k:=⟨_,rfl⟩
   obtain ⟨y0,hy0⟩:∃x,x=Gn.my d k:=⟨_,rfl⟩
   obtain ⟨tx,hx1⟩:∃x,x=Gn.mx d j:=⟨_,rfl⟩
   obtain ⟨ty,hy1⟩:∃x,x=Gn.my d j:=⟨_,rfl⟩
   have b0:=Gn.mid_bd (uh hFr') k
   have b1:=Gn.mid_bd (uh hFr') j
   rw [←hx0,←hy0] at b0
   rw [←hx1,←hy1] at b1
   obtain ⟨a1,a2,a3,a4⟩:=b0
   obtain ⟨a5,a6,a7,a8⟩:=b1
   have keep:Hid (∀x c,RefCor w B G X Y d c x→(x.cell? ⟨X,j,none⟩=some (.int .i64 tx)∧x.cell? ⟨Y,j,none⟩=some (.int .i64 ty))):=fun x c hx=>by
    rw [hx1,hy1]
    exact ⟨hx.xs.cell (by omega),hx.ys.cell (by omega)⟩
   have p1:wr.cell? ⟨X,k,none⟩=some (.int .i64 x0):=by rw [hx0];exact (uh hC1).xs.cell (by omega)
   have p2:wr.cell? ⟨Y,k,none⟩=some (.int .i64 y0):=by rw [hy0];exact (uh hC1).ys.cell (by omega)
   obtain ⟨c0,hc0⟩:∃c0:Nat,y0*24+x0=(c0:Int):=⟨(y0*24+x0).toNat,by omega⟩
   have hdr:Hid (∀n,RefCor w B G X Y d (Gn.dug d k) (wr.drewN n)):=fun n=>(uh hC1).on (gdw (World.grownBy.refl _ none) n)
   have hdg:Hid (∀n,Calls Try.prog 59 #[.slice (some ⟨G,0,none⟩) 384 384,.int .i64 x0,.int .i64 y0,.bool false] (wr.drewN n) fun e w'=>e=.returned (.bool (Gn.digAt (Gn.dug d k,false) c0).2)∧Arr w' G 5 384 (Byts (Gn.digAt (Gn.dug d k,false) c0).1)∧(wr.drewN n).grownBy w' (some G)) :=
    fun n=>refDig_any G (Gn.dug d k,false) x0 y0 c0 (wr.drewN n) (uh hdr n).cells (Gn.dug_5 d k) (by omega) hc0
   obtain ⟨FIN,hFIN⟩:∃F,F=Gn.digRun tx ty (D0 == 0) (Gn.steps x0 y0 tx ty) (Gn.dug d k,false) x0 y0:=⟨_,rfl⟩
   have hdug:Hid (Gn.dug d j=FIN.1):=by
    show Gn.dug d j=FIN.1
    rw [hFIN,hx0,hy0,hx1,hy1,hD0,hj]
    rfl
   have hFIN':=hide hFIN
   have hdie:=hide (fun x=>refD_any s f (j:Int) 4 2 x (by omega))
   have hD0':=hide hD0
   have hc0':=hide hc0
   have h5':Hid (∀i,0≤Gn.dug d k i∧Gn.dug d k i≤5):=Gn.dug_5 d k
   have hj':=hide hj
   clear hD0 hx0 hy0 hx1 hy1 hFIN hj hlt hk
   go_wp2_with fail
   go_quiet (fail)
   go_wp2_with fail
   refine (uh hdg _).mono ?_
   rintro e wd ⟨rfl,hAd,hgd⟩
   have hC2:=hide ((uh hdr _).dig hAd hgd)
   clear hAd hgd hdg hdr p1 p2
   go_wp2_with fail
   have hdie2:=uh hdie wd
   rw [uh hd',←uh hD0'] at hdie2
   refine hdie2.mono ?_
   rintro e we ⟨rfl,hge⟩
   have hC3:=hide ((uh hC2).on hge)
   clear hge hC2 hdie2 hdie hC1
   clear wd
   obtain ⟨first,hfst⟩:∃b,(D0 == 0)=b:=⟨_,rfl⟩
   have hFIN2:Hid (Gn.digRun tx ty first (Gn.steps x0 y0 tx ty) (Gn.dug d k,false) x0 y0=FIN):=by
    rw [←hfst]
    exact (uh hFIN').symm
   clear hFIN'
   go_wp2_with fail
   go_loopw [16,17,18] (fun vx vy vd wr=>∃(x y:Int) (st:(Nat→Int) × Bool) (c0:Nat),vx=.int .i64 x∧vy=.int .i64 y∧vd=.bool (Gn.digAt st c0).2∧((1≤x∧x≤22)∧1≤y∧y≤14)∧y*24+x=(c0:Int)∧(∀i,0≤st.1 i∧st.1 i≤5)∧Gn.digRun tx ty first (Gn.steps x y tx ty) st x y=FIN∧RefCor w B G X Y d (Gn.digAt st c0).1 wr) (fun vx vy _ _=>Gn.steps (intOf vx) (intOf vy) tx ty)
   case atStart=>exact ⟨x0,y0,(Gn.dug d k,false),c0,rfl,rfl,rfl,⟨⟨a1,a2⟩,a3,a4⟩,uh hc0',uh h5',uh hFIN2,uh hC3⟩
   case round =>
    clear hC3 hFIN2 hfst
    obtain ⟨x,y,st,q0,rfl,rfl,rfl,⟨⟨e1,e2⟩,e3,e4⟩,hq0,h5,hrun,hC⟩:=hrel
    have hC1:=hide hC
    have hrun':=hide hrun
    have h5s:=hide h5
    have hq0':=hide hq0
    obtain ⟨p1,p2⟩:=uh keep _ _ hC
    obtain ⟨dr,hdr⟩:∃b,b=(Gn.digAt st q0).2:=⟨_,rfl⟩
    rw [←hdr]
    have hdr':=hide hdr
    clear hC hrun h5 hq0 hdr
    by_cases hx:x=tx
    ·by_cases hy:y=ty
     ·have hend:Hid (FIN=Gn.digAt st q0):=by
       have h:=uh hrun'
       rw [Gn.run_end hx hy (uh hq0')] at h
       exact h.symm
      have hfin:Hid (RefCor w B G X Y d (Gn.dug d j) wr):=by rw [uh hdug,uh hend];exact uh hC1
      have hx':(x != tx)=false:=by simpa using hx
      have hy':(y != ty)=false:=by simpa using hy
      clear hx hy
      go_wp2
      go_roundw
      case rel=>exact ⟨j+1,j,by omega,rfl,by go_num,uh hfin⟩
      case measure=>simp [intOf];omega
     ·have hne:Hid (¬(x=tx∧y=ty)):=fun h=>hy h.2
      have hnt:Hid (y≠ty):=hy
      have hx':(x != tx)=false:=by simpa using hx
      have hy':(y != ty)=true:=by simpa using hy
      have hyq:(y == ty)=false:=by simpa using hy
      clear hx hy
      cases first with
      | true =>
       have ew:Gn.way x y tx ty true=false:=by unfold Gn.way;rw [hyq,hx'];rfl
       have eX:Gn.stepX x y tx ty true=x:=by unfold Gn.stepX;rw [ew];rfl
       have eY:Gn.stepY x y tx ty true=Gn.to1 y ty:=by unfold Gn.stepY;rw [ew];rfl
       have hrun2:Hid (Gn.digRun tx ty true (Gn.steps (x) (Gn.to1 y ty) tx ty) (Gn.digAt st q0) (x) (Gn.to1 y ty)=FIN):=by
        have h:=uh hrun'
        rw [Gn.run_on (c:=q0) (uh hne) (uh hq0'),eX,eY] at h
        exact h
       have hbd2:(1≤(x)∧(x)≤22)∧1≤(Gn.to1 y ty)∧(Gn.to1 y ty)≤14:=by
        have h:=Gn.step_bd x y tx ty true ⟨⟨e1,e2⟩,e3,e4⟩ ⟨⟨a5,a6⟩,a7,a8⟩
        rw [eX,eY] at h
        exact h
       have hless:Gn.steps (x) (Gn.to1 y ty) tx ty+1=Gn.steps x y tx ty:=by
        have h:=Gn.step_less x y tx ty true (uh hne)
        rw [eX,eY] at h
        exact h
       obtain ⟨z,hz⟩:∃z,z=Gn.to1 y ty:=⟨_,rfl⟩
       rw [←hz] at hrun2 hbd2 hless
       have htw:=toward_any y ty wr (uh hnt) (by omega) (by omega)
       rw [←hz] at htw
       have htw':=hide htw
       obtain ⟨c1,hc1⟩:∃c1:Nat,z*24+x=(c1:Int):=⟨(z*24+x).toNat,by omega⟩
       have hdg:=hide (refDig_any G (Gn.digAt st q0) x z c1 wr (uh hC1).cells (Gn.digAt_5 (uh h5s)) hbd2 hc1)
       rw [←uh hdr'] at hdg
       have hc1':=hide hc1
       have hless':=hide hless
       obtain ⟨⟨g1,g2⟩,g3,g4⟩:=hbd2
       clear eX eY ew hz htw hc1 hless
       go_wp2_with fail
       refine (uh htw').mono ?_
       rintro e w' ⟨rfl,hw⟩
       subst w'
       go_wp2_with fail
       refine (uh hdg).mono ?_
       rintro e wy ⟨rfl,hAy,hgy⟩
       have hC2:=hide ((uh hC1).dig hAy hgy)
       clear hAy hgy hdg htw' hC1
       go_wp2
       go_roundw
       case rel=>exact ⟨x,z,Gn.digAt st q0,c1,rfl,rfl,rfl,⟨⟨g1,g2⟩,g3,g4⟩,uh hc1',Gn.digAt_5 (uh h5s),uh hrun2,uh hC2⟩
       case measure=>have:=uh hless';simp [intOf];omega
      | false =>
       have ew:Gn.way x y tx ty false=false:=by unfold Gn.way;rw [hyq];rfl
       have eX:Gn.stepX x y tx ty false=x:=by unfold Gn.stepX;rw [ew];rfl
       have eY:Gn.stepY x y tx ty false=Gn.to1 y ty:=by unfold Gn.stepY;rw [ew];rfl
       have hrun2:Hid (Gn.digRun tx ty false (Gn.steps (x) (Gn.to1 y ty) tx ty) (Gn.digAt st q0) (x) (Gn.to1 y ty)=FIN):=by
        have h:=uh hrun'
        rw [Gn.run_on (c:=q0) (uh hne) (uh hq0'),eX,eY] at h
        exact h
       have hbd2:(1≤(x)∧(x)≤22)∧1≤(Gn.to1 y ty)∧(Gn.to1 y ty)≤14:=by
        have h:=Gn.step_bd x y tx ty false ⟨⟨e1,e2⟩,e3,e4⟩ ⟨⟨a5,a6⟩,a7,a8⟩
        rw [eX,eY] at h
        exact h
       have hless:Gn.steps (x) (Gn.to1 y ty) tx ty+1=Gn.steps x y tx ty:=by
        have h:=Gn.step_less x y tx ty false (uh hne)
        rw [eX,eY] at h
        exact h
       obtain ⟨z,hz⟩:∃z,z=Gn.to1 y ty:=⟨_,rfl⟩
       rw [←hz] at hrun2 hbd2 hless
       have htw:=toward_any y ty wr (uh hnt) (by omega) (by omega)
       rw [←hz] at htw
       have htw':=hide htw
       obtain ⟨c1,hc1⟩:∃c1:Nat,z*24+x=(c1:Int):=⟨(z*24+x).toNat,by omega⟩
       have hdg:=hide (refDig_any G (Gn.digAt st q0) x z c1 wr (uh hC1).cells (Gn.digAt_5 (uh h5s)) hbd2 hc1)
       rw [←uh hdr'] at hdg
       have hc1':=hide hc1
       have hless':=hide hless
       obtain ⟨⟨g1,g2⟩,g3,g4⟩:=hbd2
       clear eX eY ew hz htw hc1 hless
       go_wp2_with fail
       refine (uh htw').mono ?_
       rintro e w' ⟨rfl,hw⟩
       subst w'
       go_wp2_with fail
       refine (uh hdg).mono ?_
       rintro e wy ⟨rfl,hAy,hgy⟩
       have hC2:=hide ((uh hC1).dig hAy hgy)
       clear hAy hgy hdg htw' hC1
       go_wp2
       go_roundw
       case rel=>exact ⟨x,z,Gn.digAt st q0,c1,rfl,rfl,rfl,⟨⟨g1,g2⟩,g3,g4⟩,uh hc1',Gn.digAt_5 (uh h5s),uh hrun2,uh hC2⟩
       case measure=>have:=uh hless';simp [intOf];omega
    ·have hne:Hid (¬(x=tx∧y=ty)):=fun h=>hx h.1
     have hx':(x != tx)=true:=by simpa using hx
     have hnx:=hide hx
     clear hx
     cases first with
     | true =>
      have hnt:Hid (x≠tx):=hnx
      have ew:Gn.way x y tx ty true=true:=by unfold Gn.way;rw [hx',Bool.true_and,Bool.or_true]
      have eX:Gn.stepX x y tx ty true=Gn.to1 x tx:=by unfold Gn.stepX;rw [ew];rfl
      have eY:Gn.stepY x y tx ty true=y:=by unfold Gn.stepY;rw [ew];rfl
      have hrun2:Hid (Gn.digRun tx ty true (Gn.steps (Gn.to1 x tx) (y) tx ty) (Gn.digAt st q0) (Gn.to1 x tx) (y)=FIN):=by
       have h:=uh hrun'
       rw [Gn.run_on (c:=q0) (uh hne) (uh hq0'),eX,eY] at h
       exact h
      have hbd2:(1≤(Gn.to1 x tx)∧(Gn.to1 x tx)≤22)∧1≤(y)∧(y)≤14:=by
       have h:=Gn.step_bd x y tx ty true ⟨⟨e1,e2⟩,e3,e4⟩ ⟨⟨a5,a6⟩,a7,a8⟩
       rw [eX,eY] at h
       exact h
      have hless:Gn.steps (Gn.to1 x tx) (y) tx ty+1=Gn.steps x y tx ty:=by
       have h:=Gn.step_less x y tx ty true (uh hne)
       rw [eX,eY] at h
       exact h
      obtain ⟨z,hz⟩:∃z,z=Gn.to1 x tx:=⟨_,rfl⟩
      rw [←hz] at hrun2 hbd2 hless
      have htw:=toward_any x tx wr (uh hnt) (by omega) (by omega)
      rw [←hz] at htw
      have htw':=hide htw
      obtain ⟨c1,hc1⟩:∃c1:Nat,y*24+z=(c1:Int):=⟨(y*24+z).toNat,by omega⟩
      have hdg:=hide (refDig_any G (Gn.digAt st q0) z y c1 wr (uh hC1).cells (Gn.digAt_5 (uh h5s)) hbd2 hc1)
      rw [←uh hdr'] at hdg
      have hc1':=hide hc1
      have hless':=hide hless
      obtain ⟨⟨g1,g2⟩,g3,g4⟩:=hbd2
      clear eX eY ew hz htw hc1 hless
      go_wp2_with fail
      refine (uh htw').mono ?_
      rintro e w' ⟨rfl,hw⟩
      subst w'
      go_wp2_with fail
      refine (uh hdg).mono ?_
      rintro e wy ⟨rfl,hAy,hgy⟩
      have hC2:=hide ((uh hC1).dig hAy hgy)
      clear hAy hgy hdg htw' hC1
      go_wp2
      go_roundw
      case rel=>exact ⟨z,y,Gn.digAt st q0,c1,rfl,rfl,rfl,⟨⟨g1,g2⟩,g3,g4⟩,uh hc1',Gn.digAt_5 (uh h5s),uh hrun2,uh hC2⟩
      case measure=>have:=uh hless';simp [intOf];omega
     | false =>
      by_cases hy:y=ty
      ·have hnt:Hid (x≠tx):=hnx
       have hyq:(y == ty)=true:=by simpa using hy
       clear hy
       have ew:Gn.way x y tx ty false=true:=by unfold Gn.way;rw [hyq];rfl
       have eX:Gn.stepX x y tx ty false=Gn.to1 x tx:=by unfold Gn.stepX;rw [ew];rfl
       have eY:Gn.stepY x y tx ty false=y:=by unfold Gn.stepY;rw [ew];rfl
       have hrun2:Hid (Gn.digRun tx ty false (Gn.steps (Gn.to1 x tx) (y) tx ty) (Gn.digAt st q0) (Gn.to1 x tx) (y)=FIN):=by
        have h:=uh hrun'
        rw [Gn.run_on (c:=q0) (uh hne) (uh hq0'),eX,eY] at h
        exact h
       have hbd2:(1≤(Gn.to1 x tx)∧(Gn.to1 x tx)≤22)∧1≤(y)∧(y)≤14:=by
        have h:=Gn.step_bd x y tx ty false ⟨⟨e1,e2⟩,e3,e4⟩ ⟨⟨a5,a6⟩,a7,a8⟩
        rw [eX,eY] at h
        exact h
       have hless:Gn.steps (Gn.to1 x tx) (y) tx ty+1=Gn.steps x y tx ty:=by
        have h:=Gn.step_less x y tx ty false (uh hne)
        rw [eX,eY] at h
        exact h
       obtain ⟨z,hz⟩:∃z,z=Gn.to1 x tx:=⟨_,rfl⟩
       rw [←hz] at hrun2 hbd2 hless
       have htw:=toward_any x tx wr (uh hnt) (by omega) (by omega)
       rw [←hz] at htw
       have htw':=hide htw
       obtain ⟨c1,hc1⟩:∃c1:Nat,y*24+z=(c1:Int):=⟨(y*24+z).toNat,by omega⟩
       have hdg:=hide (refDig_any G (Gn.digAt st q0) z y c1 wr (uh hC1).cells (Gn.digAt_5 (uh h5s)) hbd2 hc1)
       rw [←uh hdr'] at hdg
       have hc1':=hide hc1
       have hless':=hide hless
       obtain ⟨⟨g1,g2⟩,g3,g4⟩:=hbd2
       clear eX eY ew hz htw hc1 hless
       go_wp2_with fail
       refine (uh htw').mono ?_
       rintro e w' ⟨rfl,hw⟩
       subst w'
       go_wp2_with fail
       refine (uh hdg).mono ?_
       rintro e wy ⟨rfl,hAy,hgy⟩
       have hC2:=hide ((uh hC1).dig hAy hgy)
       clear hAy hgy hdg htw' hC1
       go_wp2
       go_roundw
       case rel=>exact ⟨z,y,Gn.digAt st q0,c1,rfl,rfl,rfl,⟨⟨g1,g2⟩,g3,g4⟩,uh hc1',Gn.digAt_5 (uh h5s),uh hrun2,uh hC2⟩
       case measure=>have:=uh hless';simp [intOf];omega
      ·have hnt:Hid (y≠ty):=hy
       have hyq:(y == ty)=false:=by simpa using hy
       clear hy
       have ew:Gn.way x y tx ty false=false:=by unfold Gn.way;rw [hyq];rfl
       have eX:Gn.stepX x y tx ty false=x:=by unfold Gn.stepX;rw [ew];rfl
       have eY:Gn.stepY x y tx ty false=Gn.to1 y ty:=by unfold Gn.stepY;rw [ew];rfl
       have hrun2:Hid (Gn.digRun tx ty false (Gn.steps (x) (Gn.to1 y ty) tx ty) (Gn.digAt st q0) (x) (Gn.to1 y ty)=FIN):=by
        have h:=uh hrun'
        rw [Gn.run_on (c:=q0) (uh hne) (uh hq0'),eX,eY] at h
        exact h
       have hbd2:(1≤(x)∧(x)≤22)∧1≤(Gn.to1 y ty)∧(Gn.to1 y ty)≤14:=by
        have h:=Gn.step_bd x y tx ty false ⟨⟨e1,e2⟩,e3,e4⟩ ⟨⟨a5,a6⟩,a7,a8⟩
        rw [eX,eY] at h
        exact h
       have hless:Gn.steps (x) (Gn.to1 y ty) tx ty+1=Gn.steps x y tx ty:=by
        have h:=Gn.step_less x y tx ty false (uh hne)
        rw [eX,eY] at h
        exact h
       obtain ⟨z,hz⟩:∃z,z=Gn.to1 y ty:=⟨_,rfl⟩
       rw [←hz] at hrun2 hbd2 hless
       have htw:=toward_any y ty wr (uh hnt) (by omega) (by omega)
       rw [←hz] at htw
       have htw':=hide htw
       obtain ⟨c1,hc1⟩:∃c1:Nat,z*24+x=(c1:Int):=⟨(z*24+x).toNat,by omega⟩
       have hdg:=hide (refDig_any G (Gn.digAt st q0) x z c1 wr (uh hC1).cells (Gn.digAt_5 (uh h5s)) hbd2 hc1)
       rw [←uh hdr'] at hdg
       have hc1':=hide hc1
       have hless':=hide hless
       obtain ⟨⟨g1,g2⟩,g3,g4⟩:=hbd2
       clear eX eY ew hz htw hc1 hless
       go_wp2_with fail
       refine (uh htw').mono ?_
       rintro e w' ⟨rfl,hw⟩
       subst w'
       go_wp2_with fail
       refine (uh hdg).mono ?_
       rintro e wy ⟨rfl,hAy,hgy⟩
       have hC2:=hide ((uh hC1).dig hAy hgy)
       clear hAy hgy hdg htw' hC1
       go_wp2
       go_roundw
       case rel=>exact ⟨x,z,Gn.digAt st q0,c1,rfl,rfl,rfl,⟨⟨g1,g2⟩,g3,g4⟩,uh hc1',Gn.digAt_5 (uh h5s),uh hrun2,uh hC2⟩
       case measure=>have:=uh hless';simp [intOf];omega
  ·have hge:¬(j:Int)<6:=by omega
   obtain rfl:k=5:=by omega
   clear hk hlt hj
   go_wp2_with fail
   exact uh hK0 _ _ (ref_stairs s f d (uh hd') (uh hFr') h1f h3f w B G X Y wr (uh hC1).cells (uh hC1).xs (uh hC1).ys (uh hC1).res (uh hC1).grown (uh hC1).o0 (uh hC1).o1)

end Go.Proofs.Ytapgkgbpekkdjaa
