import Derived.Test.YtapgkgbpekkdjaaPart27
import Derived.Deep.RegionWith
import Derived.Deep.Cut
namespace Go.Proofs.Ytapgkgbpekkdjaa
open Go.RowKit

set_option maxRecDepth 100000 in
set_option maxHeartbeats 8000000 in
theorem ref_items (s f:Int) (d:Gn.Dice) (hd:∀a b n,Gn.D s f a b n=d a b n) (hFr:Gn.Fair d) (w:World) (B G gF L:Nat) (c F:Nat→Int) (vE:Value) (sh:Bool) (hlev:Gn.IsLevel d c F) (hsh:sh=decide (¬Gr.find 384 c 5<0)) (wr:World)
  (hB:RefBase w B G gF L c F vE (Gn.ents d f c F).length (Gn.flat (Gn.ents d f c F)) (.slice none 0 0) wr) {t2 t3 t6 t7 t8 t9 Aa Ab Ac Ad Ae Af Ag Ah Ai Aj Ak Al Am Ao Ap Aq Ar As Au Av Aw Ax Ay Az AA AB AC AD AE AF AG AH AI AJ AK AL AM AN AO AP AQ AR AS AT AU AV AW AX AY AZ A0 A1 A2 A3 A4 A5 A6 A7 A8 A9 Ba Bb Bc Bd Be Bf Bg Bh Bi Bj Bk Bl Bm Bn Bo Bp Bq Br Bs Bt Bu Bv Bw Bx Bz BA BB BC BD BE BF BG BH BI BJ BK BL BM BN BO BP BQ BR BS BT BU BV BW BX BY BZ B0 B1 B2 B3 B4 B5 B6 B7 B8 B9 Ca Cb Cc Cd Ce Cf Cg Ch Ci Cj Ck Cl Cm Cn Co Cp Cq Cs Ct Cu Cv Cw Cx Cy Cz CA CB CC CD CE CF CG CH CI CJ CK CL CM CN CO CP CQ CR CS CT CU CV CW CX CY CZ C0 C1 C2 C3 C4 C5 C6 C7 C8 C9 Da Db Dc Dd De Df Dg Dh Di Dj Dk Dl Dm Dn Dp Dq Dr Ds Dt Du Dv Dw Dx Dy Dz DA DB DC DD DE DF DG DH DI DJ DK DL DM DN DO DP DQ DR DS DT DU DV DW DX DY DZ D0 D1 D2 D3 D4 D5 D6 D7 D8 D9 Ea Eb Ec Ed Ee Ef Eg Eh Ei Ej Ek El Em Eo Ep Er Es Et Eu Ev Ew Ex Ey Ez EA EB EC ED EE EF EG EH EI EJ EK EL EM EN EO EP EQ ER ES ET EU EV EW EX EY EZ E0 E1 E2 E3 E4 E5 E6 E7 E8 E9 Fa Fb Fc Fd Fe Ff Fg Fh Fi Fj:Value} :
  Code.wp Try.prog ((Try.f35.body.map (cdrop 16)).getD .skip) (bodyPost Try.prog Try.f35 (RefDone w d f)) ⟨#[.int .i64 s,.int .i64 f,t2,t3,.pointer (some ⟨B,0,none⟩),.slice (some ⟨G,0,none⟩) 384 384,t6,t7,t8,t9,Aa,Ab,Ac,Ad,Ae,Af,Ag,Ah,Ai,Aj,Ak,.slice (some ⟨gF,0,none⟩) 384 384,Al,Am,.bool sh,Ao,.pointer (some ⟨L,0,none⟩),Ap,Aq,Ar,As,Au,Av,Aw,Ax,Ay,Az,AA,AB,AC,AD,AE,AF,AG,AH,AI,AJ,AK,AL,AM,AN,AO,AP,AQ,AR,AS,AT,AU,AV,AW,AX,AY,AZ,A0,A1,A2,A3,A4,A5,A6,A7,A8,A9,Ba,Bb,Bc,Bd,Be,Bf,Bg,Bh,Bi,Bj,Bk,Bl,Bm,Bn,Bo,Bp,Bq,Br,Bs,Bt,Bu,Bv,Bw,Bx,Bz,BA,BB,BC,BD,BE,BF,BG,BH,BI,BJ,BK,BL,BM,BN,BO,BP,BQ,BR,BS,BT,BU,BV,BW,BX,BY,BZ,B0,B1,B2,B3,B4,B5,B6,B7,B8,B9,Ca,Cb,Cc,Cd,Ce,Cf,Cg,Ch,Ci,Cj,Ck,Cl,Cm,Cn,Co,Cp,Cq,Cs,Ct,Cu,Cv,Cw,Cx,Cy,Cz,CA,CB,CC,CD,CE,CF,CG,CH,CI,CJ,CK,CL,CM,CN,CO,CP,CQ,CR,CS,CT,CU,CV,CW,CX,CY,CZ,C0,C1,C2,C3,C4,C5,C6,C7,C8,C9,Da,Db,Dc,Dd,De,Df,Dg,Dh,Di,Dj,Dk,Dl,Dm,Dn,Dp,Dq,Dr,Ds,Dt,Du,Dv,Dw,Dx,Dy,Dz,DA,DB,DC,DD,DE,DF,DG,DH,DI,DJ,DK,DL,DM,DN,DO,DP,DQ,DR,DS,DT,DU,DV,DW,DX,DY,DZ,D0,D1,D2,D3,D4,D5,D6,D7,D8,D9,Ea,Eb,Ec,Ed,Ee,Ef,Eg,Eh,Ei,Ej,Ek,El,Em,Eo,Ep,Er,Es,Et,Eu,Ev,Ew,Ex,Ey,Ez,EA,EB,EC,ED,EE,EF,EG,EH,EI,EJ,EK,EL,EM,EN,EO,EP,EQ,ER,ES,ET,EU,EV,EW,EX,EY,EZ,E0,E1,E2,E3,E4,E5,E6,E7,E8,E9,Fa,Fb,Fc,Fd,Fe,Ff,Fg,Fh,Fi,Fj],[]⟩ wr:=by
 conv=>arg 2;whnf
 obtain ⟨i0,hi,hz0,hz1,hz2⟩:=info_parts info_bool
 obtain ⟨i1,hi1,hy0,hy1,hy2⟩:=info_parts info_item
 obtain ⟨nE,hnE⟩:∃n,n=(Gn.ents d f c F).length:=⟨_,rfl⟩
 obtain ⟨xs,hxs⟩:∃n,n=Gn.flat (Gn.ents d f c F):=⟨_,rfl⟩
 rw [←hnE,←hxs] at hB
 have hnE':=hide hnE
 have hxs':=hide hxs
 have hd':=hide hd
 have hFr':=hide hFr
 have hlev':=hide hlev
 have hsh':=hide hsh
 have hB':=hide hB
 have hst0:Hid (Gn.those (Gn.free c F 0 (fun _=>false)) 384=Gn.those (fun i=>c i == 1) 384):=by
  obtain ⟨far,hfc⟩:=hlev.facts hFr
  exact Gn.free_start0 fun i hi h1=>(hfc.reach hFr i hi).2 (by omega)
 obtain ⟨fin,hfin⟩:∃fin,fin=Gn.lie d 4 0 (Gn.those (fun i=>c i == 1) 384):=⟨_,rfl⟩
 have hfin':=hide hfin
 have hfl:fin.length≤4:=by rw [hfin];exact Gn.lie_len d 4 0 _
 clear hnE hxs hd hFr hlev hsh hB hfin
 go_wp2_with (at_make;refine wpList_make_full _ rfl _ _ 103 rfl wr.heap.size 4 i0 (.bool false) 1 Try.underlying103 hi hz0 hz1 .i64 .i64 _ _ 384 rfl rfl rfl rfl ?q3 ?q4 ?q5 ?_)
 case q4=>decide
 intro w2 hown hgrow
 have hU:Arr w2 wr.heap.size 4 384 (Bols fun _=>false):=Arr.zero hown
 have hI0:Hid (RefItm w B G gF L wr.heap.size (wr.heap.size+1) c F vE nE xs (.slice none 0 0) (fun _=>false) [] w2) :=
  ⟨(uh hB').on hgrow,hU,World.ownsRow_nil _ _ _ _,fun n hn=>((uh hB').ents.lt n hn).2,(uh hB').box.lt,Nat.lt_succ_self _,hU.lt⟩
 obtain ⟨U,hUe⟩:∃U,U=wr.heap.size:=⟨_,rfl⟩
 rw [←hUe] at hI0 ⊢
 clear hown hgrow hU hUe hi hz0 hz1 hz2 hB'
 clear i0
 clear wr
 go_wp2_with fail
 go_loopw [31] (fun vk wr=>∃(k:Nat) (M:Nat→Bool) (vI:Value) (acc:List Gn.Itm),k≤4∧vk=.int .i64 (k:Int)∧acc ++ Gn.lie d (4 - k) k (Gn.those (Gn.free c F 0 M) 384)=fin∧RefItm w B G gF L U (U+1) c F vE nE xs vI M acc wr) (fun vk _=>10 - (intOf vk).toNat)
 case atStart=>exact ⟨0,_,_,[],by omega,rfl,by rw [uh hst0];exact (uh hfin').symm,uh hI0⟩
 case round =>
  clear hI0
  clear w2
  obtain ⟨k,M,vI,acc,hk,rfl,hacc,hH⟩:=hrel
  have hH1:=hide hH
  have hacc':=hide hacc
  clear hH hacc
  by_cases hlt:k<4
  ·have hlt':(k:Int)<4:=by omega
   have hpick:=hide (pick_any s f d (uh hd') (uh hFr') G gF U c F 0 (40+(k:Int)) M wr (uh hH1).base.cells (uh hH1).base.fld (uh hH1).used)
   obtain ⟨l,hl⟩:∃l,l=Gn.those (Gn.free c F 0 M) 384:=⟨_,rfl⟩
   rw [←hl] at hpick hacc'
   have hl':=hide hl
   clear hl
   go_wp2_with fail
   refine (uh hpick).mono ?_
   rintro e w3 ⟨rfl,hg3⟩
   have hH3:=hide ((uh hH1).on hg3)
   clear hg3 hpick hH1
   by_cases h0:l.length=0
   ·rw [Gn.picked_none h0]
    have hst:Hid (acc ++ Gn.lie d (4 - (k+1)) (k+1) l=fin):=by
     have h:=uh hacc'
     rw [Gn.lie_nil h0] at h
     show acc ++ Gn.lie d (4 - (k+1)) (k+1) l=fin
     rw [Gn.lie_nil h0]
     exact h
    clear h0
    go_wp2
    go_roundw
    case rel=>exact ⟨k+1,M,vI,acc,by omega,by go_num,by rw [←uh hl'];exact uh hst,uh hH3⟩
    case measure=>simp [intOf];omega
   ·obtain ⟨N,hN⟩:∃x,x=d (40+(k:Int)) 0 (l.length:Int):=⟨_,rfl⟩
    obtain ⟨n1,n2⟩:0≤N∧N<(l.length:Int):=by rw [hN];exact uh hFr' _ _ _ (by omega)
    obtain ⟨n,hn⟩:∃n:Nat,N=(n:Int):=⟨N.toNat,by omega⟩
    have hnl:n<l.length:=by omega
    rw [Gn.picked_some (n:=n) h0 (by rw [←hN,hn])]
    obtain ⟨K,hK⟩:∃K,K=d (40+(k:Int)) 1 4:=⟨_,rfl⟩
    obtain ⟨k1,k2⟩:0≤K∧K<4:=by rw [hK];exact uh hFr' _ _ _ (by omega)
    have hdK:Hid (∀w',Calls Try.prog 58 #[.int .i64 s,.int .i64 f,.int .i64 (40+(k:Int)),.int .i64 1,.int .i64 4] w' (Says w' (.int .i64 K))):=fun w'=>by
     have h:=refD_any s f (40+(k:Int)) 1 4 w' (by omega)
     rw [uh hd',←hK] at h
     exact h
    obtain ⟨cl,hcl⟩:∃cl,cl=l[n]?.getD 0:=⟨_,rfl⟩
    have hcl3:cl<384:=by rw [hcl,uh hl'];rw [uh hl'] at hnl;exact Gn.those_lt hnl
    have hers:Hid (Gn.those (Gn.free c F 0 (Gn.mark M cl)) 384=l.eraseIdx n):=by
     show Gn.those (Gn.free c F 0 (Gn.mark M cl)) 384=l.eraseIdx n
     rw [hcl,uh hl']
     rw [uh hl'] at hnl
     exact Gn.free_mark c F 0 M n hnl
    have hstep:Hid ((acc ++ [(1+K,1,(cl:Int) % 24,(cl:Int) / 24)]) ++ Gn.lie d (4 - (k+1)) (k+1) (l.eraseIdx n)=fin):=by
     have h:=uh hacc'
     obtain ⟨m,hm⟩:∃m,4 - k=m+1:=⟨4 - k - 1,by omega⟩
     rw [hm,Gn.lie,if_neg h0,←hN,hn,Int.toNat_natCast,←hK,←hcl] at h
     show (acc ++ [(1+K,1,(cl:Int) % 24,(cl:Int) / 24)]) ++ Gn.lie d (4 - (k+1)) (k+1) (l.eraseIdx n)=fin
     rw [show 4 - (k+1)=m by omega,List.append_assoc]
     exact h
    have hal:acc.length≤4:=by
     have h:=congrArg List.length (uh hacc')
     rw [List.length_append] at h
     omega
    rw [←hcl]
    have hclp:¬(cl:Int)<0:=by omega
    have hcl4:(cl:Int)<384:=by omega
    have u1:=(uh hH3).used.cell hcl3
    have u2:=(uh hH3).used.free cl
    clear hN hn hK hcl h0 n1 n2 hlt hnl hcl3
    go_upto_region 63 with fail
    clear u1 u2
    have hH4:=hide ((uh hH3).mark cl)
    obtain ⟨w4,hw4⟩:∃w4,w4=w3.setCell ⟨U,cl,none⟩ (.bool true):=⟨_,rfl⟩
    rw [←hw4] at hH4 ⊢
    clear hw4 hH3
    clear w3
    have keep:Hid (∀x,RefItm w B G gF L U (U+1) c F vE nE xs vI (Gn.mark M cl) acc x→(x.cell? ⟨L,2,none⟩=some vI∧L<x.heap.size)) :=
     fun x h=>⟨h.base.box.cell (by omega),h.base.box.lt⟩
    obtain ⟨p1,p2⟩:=uh keep _ (uh hH4)
    have cdie:Hid (∀x,Hid (RefItm w B G gF L U (U+1) c F vE nE xs vI (Gn.mark M cl) acc x)→Calls Try.prog 58 #[.int .i64 s,.int .i64 f,.int .i64 (40+(k:Int)),.int .i64 1,.int .i64 4] x (fun e w'=>e=.returned (.int .i64 K)∧Hid (RefItm w B G gF L U (U+1) c F vE nE xs vI (Gn.mark M cl) acc w')∧U+1≤w'.heap.size)) :=
     fun x hx=>(uh hdK x).mono fun e w' ⟨he,hg⟩=>⟨he,(uh hx).on hg,((uh hx).on hg).o6⟩
    have hH4d:Hid (RefItm w B G gF L U (U+1) c F vE nE xs vI (Gn.mark M cl) acc w4.drew):=(uh hH4).on (gd1 (World.grownBy.refl _ none))
    have hwr:IntKind.i64.wrap (40+(k:Int))=40+(k:Int):=by rw [IntKind.wrap_i64];omega
    have hwr2:IntKind.i64.wrap (1+K)=1+K:=by rw [IntKind.wrap_i64];omega
    have e1:(cl:Int).tmod 24=(cl:Int) % 24:=Int.tmod_eq_emod_of_nonneg (by omega)
    have e2:IntKind.i64.wrap ((cl:Int) / 24)=(cl:Int) / 24:=by rw [IntKind.wrap_i64];omega
    have keep2:Hid (∀x y,Hid (RefItm w B G gF L U (U+1) c F vE nE xs vI (Gn.mark M cl) acc x)→(x.alloc (.cells #[.int .i64 (1+K),.int .i64 1,.int .i64 ((cl:Int) % 24),.int .i64 ((cl:Int) / 24)] 47)).grownBy y vI.ownBlock→(y.cell? ⟨L,2,none⟩=some vI∧y.frozen? ⟨L,2,none⟩=false)):=by
     intro x y h1 hg
     have hp:=((uh h1).base.box.alloc (.cells #[.int .i64 (1+K),.int .i64 1,.int .i64 ((cl:Int) % 24),.int .i64 ((cl:Int) / 24)] 47)).grown hg (fun e=>by have:=((uh h1).items.lt _ e).1;have:=(uh h1).o4;omega)
     exact ⟨hp.cell (by omega),hp.free 2⟩
    go_region_law (first | (go_simp;go_at_call 58;refine (uh cdie _ hH4d).mono ?_;rintro e we ⟨rfl,hHe,hte⟩;obtain ⟨z1,z2⟩:=uh keep we (uh hHe)) | (refine step_append_lies _ (by rfl) _ _ _ (by rfl) (U+1) 47 i1 _ 4 32 Try.underlying23 hi1 hy0 hy1 hy2 rfl (by omega) vI acc.length (Gn.flatI acc) (by rfl) ((uh hHe).items.alloc _) ⟨we.heap.size,0,none⟩ 1 1 [.int .i64 (1+K),.int .i64 1,.int .i64 ((cl:Int) % 24),.int .i64 ((cl:Int) / 24)] (by rfl) (by rfl) (item_news we _ rfl _ _ _ _ _) (by simp [Value.oneCell']) (by omega) (by unfold maxLen;omega) (by omega) (by simp;omega) (we.heap.size+1) (by simp) ?_;intro gg cap5 w5 hown5 hgrow5 hat5 hlt5;obtain ⟨y1,y2⟩:=uh keep2 _ _ hHe hgrow5))
    all_goals
     have hH5:=hide (((uh hHe).on (World.grownBy_alloc _ _ _)).add (p:=(1+K,1,(cl:Int) % 24,(cl:Int) / 24)) hown5 hgrow5)
     clear hown5 hgrow5 hat5 hlt5 y1 y2 z1 z2 p1 p2 keep keep2 cdie hH4d hHe hwr hwr2 e1 e2
     go_wp2
     go_roundw
     case rel=>exact ⟨k+1,Gn.mark M cl,_,acc ++ [(1+K,1,(cl:Int) % 24,(cl:Int) / 24)],by omega,by go_num,by rw [uh hers];exact uh hstep,uh hH5⟩
     case measure=>simp [intOf];omega
  ·have hge:¬(k:Int)<4:=by omega
   have hend:acc=fin:=by
    have h:=uh hacc'
    rw [show 4 - k=0 by omega,Gn.lie,List.append_nil] at h
    exact h
   subst hend
   have hfinA:Hid (acc=Gn.lie d 4 0 (Gn.those (fun i=>c i == 1) 384)):=hfin'
   clear hlt hacc' hfin' hst0 hk
   go_wp2_with fail
   go_loopw [33] (fun vk wr=>∃(q:Nat) (vI:Value),q≤3∧(q=0∨sh=true)∧vk=.int .i64 (q:Int)∧RefItm w B G gF L U (U+1) c F vE nE xs vI M (acc ++ Gn.wares d q) wr) (fun vk _=>10 - (intOf vk).toNat)
   case atStart=>exact ⟨0,_,by omega,.inl rfl,rfl,by rw [show Gn.wares d 0=[] from rfl,List.append_nil];exact uh hH1⟩
   case round =>
    clear hH1 hge
    obtain ⟨q,vI,hq,hor,rfl,hH⟩:=hrel
    have hH1:=hide hH
    clear hH
    by_cases hgo:sh=true∧q<3
    ·obtain ⟨rfl,hq3⟩:=hgo
     have hq3':(q:Int)<3:=by omega
     obtain ⟨K,hK⟩:∃K,K=d (50+(q:Int)) 1 3:=⟨_,rfl⟩
     obtain ⟨k1,k2⟩:0≤K∧K<3:=by rw [hK];exact uh hFr' _ _ _ (by omega)
     have hdK:Hid (∀w',Calls Try.prog 58 #[.int .i64 s,.int .i64 f,.int .i64 (50+(q:Int)),.int .i64 1,.int .i64 3] w' (Says w' (.int .i64 K))):=fun w'=>by
      have h:=refD_any s f (50+(q:Int)) 1 3 w' (by omega)
      rw [uh hd',←hK] at h
      exact h
     have hmore:Hid (acc ++ Gn.wares d (q+1)=(acc ++ Gn.wares d q) ++ [(1+K,4,(q:Int),0)]):=by
      show acc ++ Gn.wares d (q+1)=_
      rw [Gn.wares_more,←hK,List.append_assoc]
     have hwl:(acc ++ Gn.wares d q).length≤8:=by
      rw [List.length_append]
      unfold Gn.wares
      rw [List.length_map,List.length_range]
      omega
     obtain ⟨ac2,hac2⟩:∃ac2,ac2=acc ++ Gn.wares d q:=⟨_,rfl⟩
     rw [←hac2] at hH1 hmore hwl
     clear hK hac2 hor
     go_upto_region 67 with fail
     have keep:Hid (∀x,RefItm w B G gF L U (U+1) c F vE nE xs vI M ac2 x→(x.cell? ⟨L,2,none⟩=some vI∧L<x.heap.size)) :=
      fun x h=>⟨h.base.box.cell (by omega),h.base.box.lt⟩
     obtain ⟨p1,p2⟩:=uh keep _ (uh hH1)
     have cdie:Hid (∀x,Hid (RefItm w B G gF L U (U+1) c F vE nE xs vI M ac2 x)→Calls Try.prog 58 #[.int .i64 s,.int .i64 f,.int .i64 (50+(q:Int)),.int .i64 1,.int .i64 3] x (fun e w'=>e=.returned (.int .i64 K)∧Hid (RefItm w B G gF L U (U+1) c F vE nE xs vI M ac2 w')∧U+1≤w'.heap.size)) :=
      fun x hx=>(uh hdK x).mono fun e w' ⟨he,hg⟩=>⟨he,(uh hx).on hg,((uh hx).on hg).o6⟩
     have hH4d:Hid (RefItm w B G gF L U (U+1) c F vE nE xs vI M ac2 wr.drew):=(uh hH1).on (gd1 (World.grownBy.refl _ none))
     have hwr:IntKind.i64.wrap (50+(q:Int))=50+(q:Int):=by rw [IntKind.wrap_i64];omega
     have hwr2:IntKind.i64.wrap (1+K)=1+K:=by rw [IntKind.wrap_i64];omega
     have keep2:Hid (∀x y,Hid (RefItm w B G gF L U (U+1) c F vE nE xs vI M ac2 x)→(x.alloc (.cells #[.int .i64 (1+K),.int .i64 4,.int .i64 (q:Int),.int .i64 0] 47)).grownBy y vI.ownBlock→(y.cell? ⟨L,2,none⟩=some vI∧y.frozen? ⟨L,2,none⟩=false)):=by
      intro x y h1 hg
      have hp:=((uh h1).base.box.alloc (.cells #[.int .i64 (1+K),.int .i64 4,.int .i64 (q:Int),.int .i64 0] 47)).grown hg (fun e=>by have:=((uh h1).items.lt _ e).1;have:=(uh h1).o4;omega)
      exact ⟨hp.cell (by omega),hp.free 2⟩
     go_region_law (first | (go_simp;go_at_call 58;refine (uh cdie _ hH4d).mono ?_;rintro e we ⟨rfl,hHe,hte⟩;obtain ⟨z1,z2⟩:=uh keep we (uh hHe)) | (refine step_append_lies _ (by rfl) _ _ _ (by rfl) (U+1) 47 i1 _ 4 32 Try.underlying23 hi1 hy0 hy1 hy2 rfl (by omega) vI ac2.length (Gn.flatI ac2) (by rfl) ((uh hHe).items.alloc _) ⟨we.heap.size,0,none⟩ 1 1 [.int .i64 (1+K),.int .i64 4,.int .i64 (q:Int),.int .i64 0] (by rfl) (by rfl) (item_news we _ rfl _ _ _ _ _) (by simp [Value.oneCell']) (by omega) (by unfold maxLen;omega) (by omega) (by simp;omega) (we.heap.size+1) (by simp) ?_;intro gg cap5 w5 hown5 hgrow5 hat5 hlt5;obtain ⟨y1,y2⟩:=uh keep2 _ _ hHe hgrow5))
     all_goals
      have hH5:=hide (((uh hHe).on (World.grownBy_alloc _ _ _)).add (p:=(1+K,4,(q:Int),0)) hown5 hgrow5)
      rw [←uh hmore] at hH5
      clear hown5 hgrow5 hat5 hlt5 y1 y2 z1 z2 p1 p2 keep keep2 cdie hH4d hHe hwr hwr2
      go_wp2
      go_roundw
      case rel=>exact ⟨q+1,_,by omega,.inr (by trivial),by go_num,uh hH5⟩
      case measure=>simp [intOf];omega
    ·have hit:Hid (Gn.items d c=acc ++ Gn.wares d q):=by
      show Gn.items d c=acc ++ Gn.wares d q
      unfold Gn.items
      rw [←uh hfinA]
      have hs:=uh hsh'
      by_cases hneg:Gr.find 384 c 5<0
      ·rw [if_pos hneg]
       have hf0:sh=false:=by rw [hs];exact decide_eq_false (by omega)
       have hq0:q=0:=by
        rcases hor with h | h
        ·exact h
        ·rw [hf0] at h;cases h
       rw [hq0]
       rfl
      ·rw [if_neg hneg]
       have hf0:sh=true:=by rw [hs];exact decide_eq_true (by omega)
       have hq0:q=3:=by
        by_cases h3:q<3
        ·exact absurd ⟨hf0,h3⟩ hgo
        ·omega
       rw [hq0]
     have hcs:((q:Int)<3∧sh=false)∨¬(q:Int)<3:=by
      by_cases h3:q<3
      ·left
       refine ⟨by omega,?_⟩
       cases hs:sh with
       | false=>rfl
       | true=>exact absurd ⟨hs,h3⟩ hgo
      ·right;omega
     obtain ⟨ac2,hac2⟩:∃ac2,ac2=acc ++ Gn.wares d q:=⟨_,rfl⟩
     rw [←hac2] at hH1 hit
     obtain ⟨nI,hnI⟩:∃n,n=ac2.length:=⟨_,rfl⟩
     have hI1:=(uh hH1).items
     rw [←hnI] at hI1
     obtain ⟨aI,cI,rfl⟩:=owns_form hI1
     obtain ⟨aE,cE,rfl⟩:=owns_form (uh hH1).base.ents
     have b0:wr.cell? ⟨L,0,none⟩=some (.slice (some ⟨G,0,none⟩) 384 384):=(uh hH1).base.box.cell (by omega)
     have b1:wr.cell? ⟨L,1,none⟩=some (.slice aE nE cE):=(uh hH1).base.box.cell (by omega)
     have b2:wr.cell? ⟨L,2,none⟩=some (.slice aI nI cI):=(uh hH1).base.box.cell (by omega)
     have r0:wr.cell? ⟨B,0,none⟩=some (.slice none 0 0):=(uh hH1).base.res.cell (by omega)
     have r1:wr.cell? ⟨B,1,none⟩=some (.slice none 0 0):=(uh hH1).base.res.cell (by omega)
     have r2:wr.cell? ⟨B,2,none⟩=some (.slice none 0 0):=(uh hH1).base.res.cell (by omega)
     have f0:=(uh hH1).base.res.free 0
     have f1:=(uh hH1).base.res.free 1
     have f2:=(uh hH1).base.res.free 2
     have hg9:=gst (gst (gst (World.grownBy.refl wr (some B)) 0 (.slice (some ⟨G,0,none⟩) 384 384)) 1 (.slice aE nE cE)) 2 (.slice aI nI cI)
     have hoB:=(uh hH1).base.o0
     have hoG:=(uh hH1).base.o1
     have hoF:=(uh hH1).base.o2
     have hoL:=(uh hH1).base.o3
     have hoU:=(uh hH1).o4
     have hE9:=hide ((uh hH1).base.ents.kept hg9 (by cases aE with | none=>exact .inl rfl | some x=>exact .inr (fun e=>by have:=((uh hH1).base.ents.lt x.block rfl).1;simp [Value.ownBlock] at e;omega)))
     have hI9:=hide (hI1.kept hg9 (by cases aI with | none=>exact .inl rfl | some x=>exact .inr (fun e=>by have:=(hI1.lt x.block rfl).1;simp [Value.ownBlock] at e;omega)))
     have hA9:=hide ((uh hH1).base.cells.grown hg9 (by simp;omega))
     have hw9:=hide (gow (uh hH1).base.grown hg9 (fun n e=>by cases e;exact hoB))
     have hnI':=hide hnI
     have hac':=hide hac2
     clear hg9 hI1 hgo hor hac2 hnI
     rcases hcs with ⟨hq3,rfl⟩ | hq3
     all_goals
      go_wp2
      refine bodyPost_ret (v:=.agg #[.slice (some ⟨G,0,none⟩) 384 384,.slice aE nE cE,.slice aI nI cI]) (by simp [results,Try.results35,go_sem,r0,r1,r2]) rfl ?_
      refine ⟨c,F,G,nE,nI,cE,cI,aE,aI,uh hlev',rfl,by omega,uh hA9,uh hnE',by rw [uh hit];exact uh hnI',?_,?_,uh hw9⟩
      ·have h:=uh hE9
       rw [uh hxs'] at h
       exact owns_mono h (by omega)
      ·have h:=uh hI9
       rw [uh hit]
       exact owns_mono h (by omega)

end Go.Proofs.Ytapgkgbpekkdjaa
