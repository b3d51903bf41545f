import Derived.Test.YtapgkgbpekkdjaaPart34
import Derived.Test.YtapgkgbpekkdjaaPart28
namespace Go.Proofs.Ytapgkgbpekkdjaa
open Go.RowKit

def Gn.scan (F:Nat→Int) (up:Nat):Nat→Nat
 | 0=>up
 | n+1=>if F n > F (Gn.scan F up n) then n else Gn.scan F up n

theorem Gn.scan_is (F:Nat→Int) (up:Nat) (hu:up<384):∀n,n≤384→Gn.scan F up n<384∧F up≤F (Gn.scan F up n)∧(∀i,i<n→F i≤F (Gn.scan F up n))∧(Gn.scan F up n=up∨∀i,i<Gn.scan F up n→F i<F (Gn.scan F up n))
 | 0,_=>⟨hu,Int.le_refl _,fun i hi=>absurd hi (Nat.not_lt_zero _),.inl rfl⟩
 | n+1,hn=>by
  obtain ⟨h1,h2,h3,h4⟩:=Gn.scan_is F up hu n (by omega)
  unfold Gn.scan
  by_cases hc:F n > F (Gn.scan F up n)
  ·rw [if_pos hc]
   refine ⟨by omega,by omega,fun i hi=>?_,.inr fun i hi=>?_⟩
   ·by_cases e:i=n
    ·rw [e];exact Int.le_refl _
    ·have:=h3 i (by omega);omega
   ·have:=h3 i hi;omega
  ·rw [if_neg hc]
   refine ⟨h1,h2,fun i hi=>?_,h4⟩
   by_cases e:i=n
   ·rw [e];omega
   ·exact h3 i (by omega)

theorem Gn.scan_far {c F:Nat→Int} {up:Nat} (hu:up<384) (h:Gn.Fld c up F):Gn.IsFar F (Gn.scan F up 384):=by
 obtain ⟨h1,h2,h3,h4⟩:=Gn.scan_is F up hu 384 (Nat.le_refl _)
 refine ⟨h1,h3,fun i hi=>?_⟩
 rcases h4 with h4 | h4
 ·rw [h4] at hi h3 ⊢
  have h0:F up=0:=(h.is.zero up hu).2 rfl
  have hle:=h3 i (by omega)
  have hne:F i≠0:=fun e=>by have:=(h.is.zero i (by omega)).1 e;omega
  omega
 ·exact h4 i hi

theorem Gn.shop_flag {d:Gn.Dice} {c:Nat→Int} (h2:∀i,c i≠5) {F:Nat→Int} {far:Nat} (h0:d 6 0 2=0) :
  (Gn.shop (Gr.upd c far 4) F (F far / 2)=none→Gr.find 384 (Gn.stocked d c F far) 5=-1)∧(∀k,k<384→Gn.shop (Gr.upd c far 4) F (F far / 2)=some k→Gr.find 384 (Gn.stocked d c F far) 5=(k:Int)):=by
 have h4:∀i,Gr.upd c far 4 i≠5:=fun i=>by
  unfold Gr.upd
  split
  ·omega
  ·exact h2 i
 constructor
 ·intro hn
  unfold Gn.stocked
  rw [if_pos h0,hn]
  exact Gn.find_no h4
 ·intro k hk hs
  unfold Gn.stocked
  rw [if_pos h0,hs]
  refine Gn.find_at hk fun i=>?_
  show Gr.upd (Gr.upd c far 4) k 5 i=5↔i=k
  by_cases e:i=k
  ·rw [e,Gr.upd_at]
   exact ⟨fun _=>rfl,fun _=>rfl⟩
  ·rw [Gr.upd_ne _ _ e]
   exact ⟨fun h=>absurd h (h4 i),fun h=>absurd h e⟩

theorem Gn.no_shop {d:Gn.Dice} {c:Nat→Int} (h2:∀i,c i≠5) {F:Nat→Int} {far:Nat} (h0:d 6 0 2≠0):Gr.find 384 (Gn.stocked d c F far) 5=-1:=by
 unfold Gn.stocked
 rw [if_neg h0]
 refine Gn.find_no fun i=>?_
 unfold Gr.upd
 split
 ·omega
 ·exact h2 i

theorem Gn.base_no5 (d:Gn.Dice) (i:Nat):Gn.base d i≠5:=by
 unfold Gn.base Gr.upd
 split
 ·omega
 ·have:=Gn.dug_2 d 5 i;omega

structure RefStr (w:World) (B G gF:Nat) (c F:Nat→Int) (wr:World):Prop where
 cells:Arr wr G 5 384 (Byts c)
 fld:Arr wr gF 3 384 (Ints F)
 res:Arr wr B 70 3 (fun _=>.slice none 0 0)
 grown:w.grownBy wr none
 o0:w.heap.size≤B
 o1:B<G
 o2:G<gF

theorem RefStr.on {w:World} {B G gF:Nat} {c F:Nat→Int} {wr wx:World} (h:RefStr w B G gF c F wr) (hg:wr.grownBy wx none):RefStr w B G gF c F wx :=
 ⟨h.cells.grown hg (by simp),h.fld.grown hg (by simp),h.res.grown hg (by simp),grown_none h.grown hg,h.o0,h.o1,h.o2⟩

theorem RefStr.put {w:World} {B G gF:Nat} {c F:Nat→Int} {wr:World} (h:RefStr w B G gF c F wr) (k:Nat) (v:Int):RefStr w B G gF (Gr.upd c k v) F (wr.setCell ⟨G,k,none⟩ (.int .u8 v)):=by
 have h0:=h.o0
 have h1:=h.o1
 have h2:=h.o2
 have hg:=gpt wr G k (.int .u8 v)
 exact ⟨h.cells.byte k v,h.fld.grown hg (by simp;omega),h.res.grown hg (by simp;omega),gow h.grown hg (fun n e=>by cases e;omega),h0,h1,h2⟩

set_option maxRecDepth 100000 in
set_option maxHeartbeats 8000000 in
theorem ref_stairs (s f:Int) (d:Gn.Dice) (hd:∀a b n,Gn.D s f a b n=d a b n) (hFr:Gn.Fair d) (h1f:1≤f) (h3f:f≤3) (w:World) (B G X Y:Nat) (wr:World)
  (hA:Arr wr G 5 384 (Byts (Gn.dug d 5))) (hX:Arr wr X 99 6 (fun j=>.int .i64 (Gn.mx d j))) (hY:Arr wr Y 99 6 (fun j=>.int .i64 (Gn.my d j))) (hR:Arr wr B 70 3 (fun _=>.slice none 0 0)) (hg:w.grownBy wr none) (o0:w.heap.size≤B) (o1:B<G) {t2 t3 t8 t9 Aa Ab Ac Ad Ae Af Ag Ah Ai Aj Ak Al Am Ao Ap Aq Ar As Au Av Aw Ax Ay Az AA AB AC AD AE AF AG AH AI AJ AK AL AM AN AO AP AQ AR AS AT AU AV AW AX AY AZ A0 A1 A2 A3 A4 A5 A6 A7 A8 A9 Ba Bb Bc Bd Be Bf Bg Bh Bi Bj Bk Bl Bm Bn Bo Bp Bq Br Bs Bt Bu Bv Bw Bx Bz BA BB BC BD BE BF BG BH BI BJ BK BL BM BN BO BP BQ BR BS BT BU BV BW BX BY BZ B0 B1 B2 B3 B4 B5 B6 B7 B8 B9 Ca Cb Cc Cd Ce Cf Cg Ch Ci Cj Ck Cl Cm Cn Co Cp Cq Cs Ct Cu Cv Cw Cx Cy Cz CA CB CC CD CE CF CG CH CI CJ CK CL CM CN CO CP CQ CR CS CT CU CV CW CX CY CZ C0 C1 C2 C3 C4 C5 C6 C7 C8 C9 Da Db Dc Dd De Df Dg Dh Di Dj Dk Dl Dm Dn Dp Dq Dr Ds Dt Du Dv Dw Dx Dy Dz DA DB DC DD DE DF DG DH DI DJ DK DL DM DN DO DP DQ DR DS DT DU DV DW DX DY DZ D1 D2 D3 D4 D5 D6 D7 D8 D9 Ea Eb Ec Ed Ee Ef Eg Eh Ei Ej Ek El Em Eo Ep Er Es Et Eu Ev Ew Ex Ey Ez EA EB EC ED EE EF EG EH EI EJ EK EL EM EN EO EP EQ ER ES ET EU EV EW EX EY EZ E0 E1 E2 E3 E4 E5 E6 E7 E8 E9 Fa Fb Fc Fd Fe Ff Fg Fh Fi Fj Fk Fm Fn Fo:Value} :
  Code.wp Try.prog ((Try.f35.body.map (cdrop 5)).getD .skip) (bodyPost Try.prog Try.f35 (RefDone w d f)) ⟨#[.int .i64 s,.int .i64 f,t2,t3,.pointer (some ⟨B,0,none⟩),.slice (some ⟨G,0,none⟩) 384 384,.pointer (some ⟨X,0,none⟩),.pointer (some ⟨Y,0,none⟩),t8,t9,Aa,Ab,Ac,Ad,Ae,Af,Ag,Ah,Ai,Aj,Ak,Al,Am,Ao,Ap,Aq,Ar,As,Au,Av,Aw,Ax,Ay,Az,AA,AB,AC,AD,AE,AF,AG,AH,AI,AJ,AK,AL,AM,AN,AO,AP,AQ,AR,AS,AT,AU,AV,AW,AX,AY,AZ,A0,A1,A2,A3,A4,A5,A6,A7,A8,A9,Ba,Bb,Bc,Bd,Be,Bf,Bg,Bh,Bi,Bj,Bk,Bl,Bm,Bn,Bo,Bp,Bq,Br,Bs,Bt,Bu,Bv,Bw,Bx,Bz,BA,BB,BC,BD,BE,BF,BG,BH,BI,BJ,BK,BL,BM,BN,BO,BP,BQ,BR,BS,BT,BU,BV,BW,BX,BY,BZ,B0,B1,B2,B3,B4,B5,B6,B7,B8,B9,Ca,Cb,Cc,Cd,Ce,Cf,Cg,Ch,Ci,Cj,Ck,Cl,Cm,Cn,Co,Cp,Cq,Cs,Ct,Cu,Cv,Cw,Cx,Cy,Cz,CA,CB,CC,CD,CE,CF,CG,CH,CI,CJ,CK,CL,CM,CN,CO,CP,CQ,CR,CS,CT,CU,CV,CW,CX,CY,CZ,C0,C1,C2,C3,C4,C5,C6,C7,C8,C9,Da,Db,Dc,Dd,De,Df,Dg,Dh,Di,Dj,Dk,Dl,Dm,Dn,Dp,Dq,Dr,Ds,Dt,Du,Dv,Dw,Dx,Dy,Dz,DA,DB,DC,DD,DE,DF,DG,DH,DI,DJ,DK,DL,DM,DN,DO,DP,DQ,DR,DS,DT,DU,DV,DW,DX,DY,DZ,D1,D2,D3,D4,D5,D6,D7,D8,D9,Ea,Eb,Ec,Ed,Ee,Ef,Eg,Eh,Ei,Ej,Ek,El,Em,Eo,Ep,Er,Es,Et,Eu,Ev,Ew,Ex,Ey,Ez,EA,EB,EC,ED,EE,EF,EG,EH,EI,EJ,EK,EL,EM,EN,EO,EP,EQ,ER,ES,ET,EU,EV,EW,EX,EY,EZ,E0,E1,E2,E3,E4,E5,E6,E7,E8,E9,Fa,Fb,Fc,Fd,Fe,Ff,Fg,Fh,Fi,Fj,Fk,Fm,Fn,Fo],[]⟩ wr:=by
 conv=>arg 2;whnf
 have hd':=hide hd
 have hFr':=hide hFr
 have hA':=hide hA
 have hR':=hide hR
 have hg':=hide hg
 have q1:=hX.cell (i:=0) (by omega)
 have q2:=hY.cell (i:=0) (by omega)
 have hue:=Gn.up_eq hFr
 have hul:=Gn.up_lt hFr
 have hbd:=Gn.mid_bd hFr 0
 have q3:=hA.cell hul
 have q4:=hA.free (Gn.up d)
 have hc5:=hide (Gn.base_5 d)
 have hbu:=hide (Gn.base_up d)
 have hAb:Hid (Arr (wr.setCell ⟨G,Gn.up d,none⟩ (.int .u8 3)) G 5 384 (Byts (Gn.base d))):=hA.byte (Gn.up d) 3
 obtain ⟨cb,hcb⟩:∃cb,cb=Gn.base d:=⟨_,rfl⟩
 rw [←hcb] at hAb hc5 hbu
 have hcb':=hide hcb
 obtain ⟨up,hup⟩:∃up,up=Gn.up d:=⟨_,rfl⟩
 have hup':=hide hup
 rw [←hup] at hue hul q3 q4 hAb hbu
 obtain ⟨ux,hux⟩:∃ux,ux=Gn.mx d 0:=⟨_,rfl⟩
 obtain ⟨uy,huy⟩:∃uy,uy=Gn.my d 0:=⟨_,rfl⟩
 rw [←hux,←huy] at hue hbd
 rw [←hux] at q1
 rw [←huy] at q2
 obtain ⟨b1,b2,b3,b4⟩:=hbd
 have hul':(up:Int)<384:=by omega
 have hG:G<wr.heap.size:=hA.lt
 clear hd hFr hA hX hY hR hg hcb hup hux huy
 go_upto_region 29 with fail
 have hg1:=gpt wr G up (.int .u8 3)
 have hR1:Hid (Arr (wr.setCell ⟨G,up,none⟩ (.int .u8 3)) B 70 3 (fun _=>.slice none 0 0)):=(uh hR').grown hg1 (by simp;omega)
 have hgw:Hid (w.grownBy (wr.setCell ⟨G,up,none⟩ (.int .u8 3)) none):=gow (uh hg') hg1 (fun n e=>by cases e;omega)
 have hG1:G<(wr.setCell ⟨G,up,none⟩ (.int .u8 3)).heap.size:=Nat.lt_of_lt_of_le hG hg1.size
 obtain ⟨w1,hw1⟩:∃w1,w1=wr.setCell ⟨G,up,none⟩ (.int .u8 3):=⟨_,rfl⟩
 rw [←hw1] at hAb hR1 hgw hG1 ⊢
 clear hg1 hw1 q1 q2 q3 q4 hA' hR' hg' hG
 clear wr
 go_wp2_with fail
 have hA4:=(uh hAb).alloc (.cells #[.int .i64 (up:Int)] 3)
 have hV:=Vec.one w1 w1.heap.size rfl (.int .i64 (up:Int)) 3 (Ints fun _=>(up:Int)) rfl
 refine (refField_any _ _ _ 0 1 _ _ _ cb (fun _=>(up:Int)) (fun _=>false) _ (hA4.vec _ hA4.lt (by decide)) (fun i=>by have:=uh hc5 i;omega) (Vec.none0 _ _ _ _) hV (fun _=>by constructor <;> omega)).mono ?_
 rintro e w5 ⟨F0,⟨g,rfl,hgs,hAF,hbel⟩,hfld⟩
 have hF:Gn.Fld cb up (fun i=>if i<384 then F0 i else 0):=Gn.Fld.make hfld
  (fun i hi=>by simp [Gr.openB])
  (fun i hi=>by
   constructor
   ·rintro ⟨_,j,_,he⟩
    have he':(up:Int)=(i:Int):=he
    omega
   ·rintro rfl
    exact ⟨by rw [uh hbu];rfl,0,by omega,rfl⟩)
 have hAF2:Arr w5 g 3 384 (Ints fun i=>if i<384 then F0 i else 0):=hAF.congr fun j hj=>by
  show Value.int .i64 (F0 j)=.int .i64 (if j<384 then F0 j else 0)
  rw [if_pos hj]
 obtain ⟨F,hFF⟩:∃F:Nat→Int,F=fun i=>if i<384 then F0 i else 0:=⟨_,rfl⟩
 rw [←hFF] at hF hAF2
 have hgr:=below_grown hbel
 have hgg:=grown_none (World.grownBy_alloc w1 (.cells #[.int .i64 (up:Int)] 3) none) hgr
 have hS5:Hid (RefStr w B G g cb F w5):=⟨(uh hAb).grown hgg (by simp),hAF2,(uh hR1).grown hgg (by simp),grown_none (uh hgw) hgg,o0,o1,by simp at hgs;omega⟩
 have hF':=hide hF
 have hsc:=hide (Gn.scan_far hul hF)
 have hnn:Hid (∀i,i<384→-1≤F i∧F i≤400):=fun i hi=>by
  have h1:=hF.is.lo i hi
  refine ⟨h1,?_⟩
  by_cases h0:0≤F i
  ·have:=fieldHigh hF.is (F i).toNat i hi (by omega);omega
  ·omega
 have hlt0:=hide (fun n hn=>Gn.scan_is F up hul n hn)
 clear hfld hAF hbel hgr hgg hV hFF hF hAF2 hAb hR1 hgw hgs hA4 hG1
 clear F0
 go_wp2_with fail
 go_loopw [22,23] (fun vf vi wr=>∃k:Nat,k≤384∧vi=.int .i64 (k:Int)∧vf=.int .i64 ((Gn.scan F up k:Nat):Int)∧RefStr w B G g cb F wr) (fun _ vi _=>400 - (intOf vi).toNat)
 case atStart=>exact ⟨0,by omega,rfl,rfl,uh hS5⟩
 case round =>
  clear hS5
  clear w5
  obtain ⟨k,hk,rfl,rfl,hS⟩:=hrel
  have hS1:=hide hS
  clear hS
  obtain ⟨m,hm⟩:∃m,m=Gn.scan F up k:=⟨_,rfl⟩
  have hm3:m<384:=by rw [hm];exact (uh hlt0 k hk).1
  have hm3':(m:Int)<384:=by omega
  rw [←hm]
  by_cases hlt:k<384
  ·have hlt':(k:Int)<384:=by omega
   have q1:wr.cell? ⟨g,k,none⟩=some (.int .i64 (F k)):=(uh hS1).fld.cell hlt
   have q2:wr.cell? ⟨g,m,none⟩=some (.int .i64 (F m)):=(uh hS1).fld.cell hm3
   have hstep:Hid (Gn.scan F up (k+1)=if F k > F m then k else m):=by
    show Gn.scan F up (k+1)=_
    rw [Gn.scan,←hm]
   have hdr:Hid (∀n,RefStr w B G g cb F (wr.drewN n)):=fun n=>(uh hS1).on (gdw (World.grownBy.refl _ none) n)
   have hm':=hide hm
   have HL:=hide hlt
   clear hm hlt hk hm3
   by_cases hgt:F m<F k
   ·have hst2:Hid (Gn.scan F up (k+1)=k):=by show _=_;rw [uh hstep,if_pos hgt]
    clear hstep
    go_wp2_with fail
    go_quiet (fail)
    go_wp2
    go_roundw
    case rel=>exact ⟨k+1,by have:=uh HL;omega,by go_num,by rw [uh hst2],uh hdr _⟩
    case measure=>simp [intOf];omega
   ·have hst2:Hid (Gn.scan F up (k+1)=m):=by show _=_;rw [uh hstep,if_neg (by omega)]
    clear hstep
    go_wp2_with fail
    go_quiet (fail)
    go_wp2
    go_roundw
    case rel=>exact ⟨k+1,by have:=uh HL;omega,by go_num,by rw [uh hst2],uh hdr _⟩
    case measure=>simp [intOf];omega
  ·have hge:¬(k:Int)<384:=by omega
   obtain rfl:k=384:=by omega
   have hfar:Gn.IsFar F m:=by rw [hm];exact uh hsc
   have hlev:Hid (Gn.IsLevel d (Gn.stocked d cb F m) F):=by
    have h1:=uh hF'
    rw [uh hup'] at h1
    rw [uh hcb'] at h1 ⊢
    exact ⟨m,h1,hfar,rfl⟩
   have hno5:Hid (∀i,cb i≠5):=by rw [uh hcb'];exact Gn.base_no5 d
   have hnm:0≤F m:=by
    have h0:=((uh hF').is.zero up hul).2 rfl
    have:=hfar.top up hul
    omega
   have hnx:F m≤400:=(uh hnn m hm3).2
   have hwm:IntKind.i64.wrap (F m / 2)=F m / 2:=by rw [IntKind.wrap_i64];omega
   have q1:=(uh hS1).cells.cell hm3
   have q2:=(uh hS1).cells.free m
   have hS4:=hide ((uh hS1).put m 4)
   obtain ⟨c2,hc2⟩:∃c2,c2=Gr.upd cb m 4:=⟨_,rfl⟩
   rw [←hc2] at hS4
   have hc2':=hide hc2
   have HM:=hide hm3
   have h25:Hid (∀i,0≤c2 i∧c2 i≤5):=by rw [hc2];exact Gn.upd_5 (uh hc5) (by omega)
   clear hlt hk hm hfar hm3 hc2 hlt0 hsc
   go_upto_region 38 with fail
   rename_i K1 h1 K2 h2
   have hK0:=hide h1
   clear h1
   obtain ⟨w4,hw4⟩:∃w4,w4=wr.setCell ⟨G,m,none⟩ (.int .u8 4):=⟨_,rfl⟩
   rw [←hw4] at hS4 ⊢
   clear hw4 q1 q2 hS1 hge
   have hdie:=refD_any s f 6 0 2 w4 (by omega)
   rw [uh hd'] at hdie
   obtain ⟨D0,hD0⟩:∃x,x=d 6 0 2:=⟨_,rfl⟩
   rw [←hD0] at hdie
   have hD0':=hide hD0
   clear hD0
   go_wp2_with fail
   refine hdie.mono ?_
   rintro e w7 ⟨rfl,hg7⟩
   have hS7:=hide ((uh hS4).on hg7)
   clear hdie hg7 hS4
   by_cases hz:D0=0
   ·have hz':(D0 == 0)=true:=by simpa using hz
    have hzz:=hide (show d 6 0 2=0 by rw [←uh hD0'];exact hz)
    clear hz
    go_wp2_with fail
    go_loopw [24,25] (fun vs vi wr=>∃k:Nat,k≤384∧vi=.int .i64 (k:Int)∧((vs=.bool false∧RefStr w B G g c2 F wr∧∀j,j<k→(F j == F m / 2 && c2 j == 1)=false)∨(vs=.bool true∧∃q,q<384∧Gn.shop c2 F (F m / 2)=some q∧RefStr w B G g (Gr.upd c2 q 5) F wr))) (fun _ vi _=>400 - (intOf vi).toNat)
    case atStart=>exact ⟨0,by omega,rfl,.inl ⟨rfl,uh hS7,fun j hj=>by omega⟩⟩
    case round =>
     clear hS7
     clear w7
     obtain ⟨k,hk,rfl,hcase⟩:=hrel
     rcases hcase with ⟨rfl,hS,hno⟩ | ⟨rfl,q,hq,hsh,hS⟩
     ·have hS1:=hide hS
      have hno':=hide hno
      clear hS hno
      by_cases hlt:k<384
      ·have hlt':(k:Int)<384:=by omega
       have q1:wr.cell? ⟨g,k,none⟩=some (.int .i64 (F k)):=(uh hS1).fld.cell hlt
       have q2:wr.cell? ⟨g,m,none⟩=some (.int .i64 (F m)):=(uh hS1).fld.cell (uh HM)
       have q3:wr.cell? ⟨G,k,none⟩=some (.int .u8 (c2 k)):=(uh hS1).cells.cell hlt
       have hdr:Hid (∀n,RefStr w B G g c2 F (wr.drewN n)):=fun n=>(uh hS1).on (gdw (World.grownBy.refl _ none) n)
       have HL:=hide hlt
       clear hlt hk
       by_cases e2:(c2 k == 1)=true
       ·by_cases e1:(F k == F m / 2)=true
        ·have hsh:=hide (Gn.shop_some (c:=c2) (F:=F) (v:=F m / 2) (uh HL) (by rw [e1,e2];rfl) (uh hno'))
         have hq4:∀n,(wr.drewN n).cell? ⟨G,k,none⟩=some (.int .u8 (c2 k)):=fun n=>(uh hdr n).cells.cell (uh HL)
         have hq5:∀n,(wr.drewN n).frozen? ⟨G,k,none⟩=false:=fun n=>(uh hdr n).cells.free k
         have hput:Hid (∀n,RefStr w B G g (Gr.upd c2 k 5) F ((wr.drewN n).setCell ⟨G,k,none⟩ (.int .u8 5))):=fun n=>(uh hdr n).put k 5
         go_wp2_with fail
         go_quiet (fail)
         go_wp2
         go_roundw
         case rel=>exact ⟨k+1,by have:=uh HL;omega,by go_num,.inr ⟨rfl,k,uh HL,uh hsh,uh hput _⟩⟩
         case measure=>simp [intOf];omega
        ·have e1':(F k == F m / 2)=false:=by simpa using e1
         clear e1
         go_wp2_with fail
         go_quiet (fail)
         go_wp2
         go_roundw
         case rel =>
          refine ⟨k+1,by have:=uh HL;omega,by go_num,.inl ⟨rfl,uh hdr _,fun j hj=>?_⟩⟩
          by_cases hjk:j=k
          ·subst hjk;rw [e1'];rfl
          ·exact uh hno' j (by omega)
         case measure=>simp [intOf];omega
       ·have e2':(c2 k == 1)=false:=by simpa using e2
        clear e2
        go_wp2_with fail
        go_quiet (fail)
        go_wp2
        go_roundw
        case rel =>
         refine ⟨k+1,by have:=uh HL;omega,by go_num,.inl ⟨rfl,uh hdr _,fun j hj=>?_⟩⟩
         by_cases hjk:j=k
         ·subst hjk;rw [e2',Bool.and_false]
         ·exact uh hno' j (by omega)
        case measure=>simp [intOf];omega
      ·have hge:¬(k:Int)<384:=by omega
       obtain rfl:k=384:=by omega
       have hsh:=Gn.shop_none (c:=c2) (F:=F) (v:=F m / 2) (uh hno')
       have hst:Hid (Gn.stocked d cb F m=c2):=by
        show Gn.stocked d cb F m=c2
        unfold Gn.stocked
        rw [if_pos (uh hzz),←uh hc2',hsh]
        rfl
       have hfl:Hid (false=decide (0≤Gr.find 384 (Gn.stocked d cb F m) 5)):=by
        have h:=(Gn.shop_flag (uh hno5) (F:=F) (far:=m) (uh hzz)).1 (by rw [←uh hc2'];exact hsh)
        show false=_
        rw [h]
        rfl
       clear hsh hk hlt
       go_wp2_with fail
       exact uh hK0 _ _ (ref_mons s f d (uh hd') (uh hFr') h1f h3f w B G g (Gn.stocked d cb F m) F false (uh hlev) (uh hfl) wr (by rw [uh hst];exact (uh hS1).cells) (uh hS1).fld (uh hS1).res (uh hS1).grown (uh hS1).o0 (uh hS1).o1 (uh hS1).o2)
     ·have hS1:=hide hS
      have hst:Hid (Gn.stocked d cb F m=Gr.upd c2 q 5):=by
       show Gn.stocked d cb F m=Gr.upd c2 q 5
       unfold Gn.stocked
       rw [if_pos (uh hzz),←uh hc2',hsh]
       rfl
      have hfl:Hid (true=decide (0≤Gr.find 384 (Gn.stocked d cb F m) 5)):=by
       have h:=(Gn.shop_flag (uh hno5) (F:=F) (far:=m) (uh hzz)).2 q hq (by rw [←uh hc2'];exact hsh)
       show true=_
       rw [h]
       exact (decide_eq_true (by omega)).symm
      clear hS hsh
      by_cases hlt:(k:Int)<384
      all_goals
       go_wp2_with fail
       exact uh hK0 _ _ (ref_mons s f d (uh hd') (uh hFr') h1f h3f w B G g (Gn.stocked d cb F m) F true (uh hlev) (uh hfl) wr (by rw [uh hst];exact (uh hS1).cells) (uh hS1).fld (uh hS1).res (uh hS1).grown (uh hS1).o0 (uh hS1).o1 (uh hS1).o2)
   ·have hz':(D0 == 0)=false:=by simpa using hz
    have hst:Hid (Gn.stocked d cb F m=c2):=by
     show Gn.stocked d cb F m=c2
     unfold Gn.stocked
     rw [if_neg (by rw [←uh hD0'];exact hz)]
     exact (uh hc2').symm
    have hfl:Hid (false=decide (0≤Gr.find 384 (Gn.stocked d cb F m) 5)):=by
     have h:=Gn.no_shop (uh hno5) (F:=F) (far:=m) (d:=d) (by rw [←uh hD0'];exact hz)
     show false=_
     rw [h]
     rfl
    clear hz
    go_wp2_with fail
    exact uh hK0 _ _ (ref_mons s f d (uh hd') (uh hFr') h1f h3f w B G g (Gn.stocked d cb F m) F false (uh hlev) (uh hfl) w7 (by rw [uh hst];exact (uh hS7).cells) (uh hS7).fld (uh hS7).res (uh hS7).grown (uh hS7).o0 (uh hS7).o1 (uh hS7).o2)

end Go.Proofs.Ytapgkgbpekkdjaa
