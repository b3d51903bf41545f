import Derived.Test.YtapgkgbpekkdjaaPart33
namespace Go.Proofs.Ytapgkgbpekkdjaa
open Go.RowKit

set_option maxRecDepth 100000 in
set_option maxHeartbeats 8000000 in
theorem ref_mons (s f:Int) (d:Gn.Dice) (hd:∀a b n,Gn.D s f a b n=d a b n) (hFr:Gn.Fair d) (h1f:1≤f) (h3f:f≤3) (w:World) (B G gF:Nat) (c F:Nat→Int) (sh:Bool) (hlev:Gn.IsLevel d c F) (hsh:sh=decide (0≤Gr.find 384 c 5)) (wr:World)
  (hA:Arr wr G 5 384 (Byts c)) (hF:Arr wr gF 3 384 (Ints F)) (hR:Arr wr B 70 3 (fun _=>.slice none 0 0)) (hg:w.grownBy wr none) (o0:w.heap.size≤B) (o1:B<G) (o2:G<gF) {t2 t3 t6 t7 t8 t9 Aa Ab Ac Ad Ae Af Ag Ah Ai Aj Ak Al Am Ao Ap Aq Ar As Au Av Aw Ax Ay Az AA AB AC AD AE AF AG AH AI AJ AK AL AM AN AO AP AQ AR AS AT AU AV AW AX AY AZ A0 A1 A2 A3 A4 A5 A6 A7 A8 A9 Ba Bb Bc Bd Be Bf Bg Bh Bi Bj Bk Bl Bm Bn Bo Bp Bq Br Bs Bt Bu Bv Bw Bx Bz BA BB BC BD BE BF BG BH BI BJ BK BL BM BN BO BP BQ BR BS BT BU BV BW BX BY BZ B0 B1 B2 B3 B4 B5 B6 B7 B8 B9 Ca Cb Cc Cd Ce Cf Cg Ch Ci Cj Ck Cl Cm Cn Co Cp Cq Cs Ct Cu Cv Cw Cx Cy Cz CA CB CC CD CE CF CG CH CI CJ CK CL CM CN CO CP CQ CR CS CT CU CV CW CX CY CZ C0 C1 C2 C3 C4 C5 C6 C7 C8 C9 Da Db Dc Dd De Df Dg Dh Di Dj Dk Dl Dm Dn Dp Dq Dr Ds Dt Du Dv Dw Dx Dy Dz DA DB DC DD DE DF DG DH DI DJ DK DL DM DN DO DP DQ DR DS DT DU DV DW DX DY DZ D0 D1 D2 D3 D4 D5 D6 D7 D8 D9 Ea Eb Ec Ed Ee Ef Eg Eh Ei Ej Ek El Em Eo Ep Er Es Et Eu Ev Ew Ex Ey Ez EA EB EC ED EE EF EG EH EI EJ EK EL EM EN EO EP EQ ER ES ET EU EV EW EX EY EZ E0 E1 E2 E3 E4 E5 E6 E7 E8 E9 Fa Fb Fc Fd Fe Ff Fg Fh Fi Fj Fk:Value} :
  Code.wp Try.prog ((Try.f35.body.map (cdrop 13)).getD .skip) (bodyPost Try.prog Try.f35 (RefDone w d f)) ⟨#[.int .i64 s,.int .i64 f,t2,t3,.pointer (some ⟨B,0,none⟩),.slice (some ⟨G,0,none⟩) 384 384,t6,t7,t8,t9,Aa,Ab,Ac,Ad,Ae,Af,Ag,Ah,Ai,Aj,Ak,.slice (some ⟨gF,0,none⟩) 384 384,Al,Am,.bool sh,Ao,Ap,Aq,Ar,As,Au,Av,Aw,Ax,Ay,Az,AA,AB,AC,AD,AE,AF,AG,AH,AI,AJ,AK,AL,AM,AN,AO,AP,AQ,AR,AS,AT,AU,AV,AW,AX,AY,AZ,A0,A1,A2,A3,A4,A5,A6,A7,A8,A9,Ba,Bb,Bc,Bd,Be,Bf,Bg,Bh,Bi,Bj,Bk,Bl,Bm,Bn,Bo,Bp,Bq,Br,Bs,Bt,Bu,Bv,Bw,Bx,Bz,BA,BB,BC,BD,BE,BF,BG,BH,BI,BJ,BK,BL,BM,BN,BO,BP,BQ,BR,BS,BT,BU,BV,BW,BX,BY,BZ,B0,B1,B2,B3,B4,B5,B6,B7,B8,B9,Ca,Cb,Cc,Cd,Ce,Cf,Cg,Ch,Ci,Cj,Ck,Cl,Cm,Cn,Co,Cp,Cq,Cs,Ct,Cu,Cv,Cw,Cx,Cy,Cz,CA,CB,CC,CD,CE,CF,CG,CH,CI,CJ,CK,CL,CM,CN,CO,CP,CQ,CR,CS,CT,CU,CV,CW,CX,CY,CZ,C0,C1,C2,C3,C4,C5,C6,C7,C8,C9,Da,Db,Dc,Dd,De,Df,Dg,Dh,Di,Dj,Dk,Dl,Dm,Dn,Dp,Dq,Dr,Ds,Dt,Du,Dv,Dw,Dx,Dy,Dz,DA,DB,DC,DD,DE,DF,DG,DH,DI,DJ,DK,DL,DM,DN,DO,DP,DQ,DR,DS,DT,DU,DV,DW,DX,DY,DZ,D0,D1,D2,D3,D4,D5,D6,D7,D8,D9,Ea,Eb,Ec,Ed,Ee,Ef,Eg,Eh,Ei,Ej,Ek,El,Em,Eo,Ep,Er,Es,Et,Eu,Ev,Ew,Ex,Ey,Ez,EA,EB,EC,ED,EE,EF,EG,EH,EI,EJ,EK,EL,EM,EN,EO,EP,EQ,ER,ES,ET,EU,EV,EW,EX,EY,EZ,E0,E1,E2,E3,E4,E5,E6,E7,E8,E9,Fa,Fb,Fc,Fd,Fe,Ff,Fg,Fh,Fi,Fj,Fk],[]⟩ wr:=by
 conv=>arg 2;whnf
 obtain ⟨i0,hi,hz0,hz1,hz2⟩:=info_parts info_bool
 obtain ⟨i1,hi1,hy0,hy1,hy2⟩:=info_parts info_ent
 have hd':=hide hd
 have hFr':=hide hFr
 have hlev':=hide hlev
 have hsh':=hide hsh
 have hst0:=hide (Gn.free_start4 c F)
 obtain ⟨fin,hfin⟩:∃fin,fin=Gn.ents d f c F:=⟨_,rfl⟩
 have hfin':=hide hfin
 have hfl:fin.length≤5:=by
  rw [hfin]
  have:=Gn.mons_len d f (f+2).toNat 0 ((Gn.those (fun i=>c i == 1) 384).filter (Gn.afar F))
  unfold Gn.ents
  omega
 have hB0:Hid (RefBase w B G gF wr.heap.size c F (.slice none 0 0) 0 [] (.slice none 0 0) (wr.alloc (.cells #[.slice (some ⟨G,0,none⟩) 384 384,.slice none 0 0,.slice none 0 0] 70))):=by
  refine ⟨hA.alloc _,hF.alloc _,hR.alloc _,⟨_,heap_alloc_new _ _,rfl,fun j hj=>?_⟩,World.ownsRow_nil _ _ _ _,gal hg _,o0,o1,o2,hF.lt⟩
  rcases (show j=0∨j=1∨j=2 by omega) with rfl | rfl | rfl <;> rfl
 clear hd hFr hlev hsh hfin hA hF hR hg
 go_upto_region 46 with fail
 obtain ⟨L,hL⟩:∃L,L=wr.heap.size:=⟨_,rfl⟩
 obtain ⟨w1,hw1⟩:∃w1,w1=wr.alloc (.cells #[.slice (some ⟨G,0,none⟩) 384 384,.slice none 0 0,.slice none 0 0] 70):=⟨_,rfl⟩
 rw [←hL,←hw1] at hB0
 rw [←hL,←hw1]
 clear hL hw1
 clear wr
 go_wp2_with (at_make;refine wpList_make_full _ rfl _ _ 103 rfl w1.heap.size 4 i0 (.bool false) 1 Try.underlying103 hi hz0 hz1 .i64 .i64 _ _ 384 rfl rfl rfl rfl ?q3 ?q4 ?q5 ?_)
 any_goals (first | (rw [hz2];decide) | decide | exact Nat.le_refl _)
 intro w2 hown hgrow
 have hU:Arr w2 w1.heap.size 4 384 (Bols fun _=>false):=Arr.zero hown
 have hI0:Hid (RefMon w B G gF L w1.heap.size (w1.heap.size+1) c F (.slice none 0 0) (fun _=>false) [] w2) :=
  ⟨(uh hB0).on hgrow,hU,World.ownsRow_nil _ _ _ _,(uh hB0).box.lt,Nat.lt_succ_self _,hU.lt⟩
 obtain ⟨U,hUe⟩:∃U,U=w1.heap.size:=⟨_,rfl⟩
 rw [←hUe] at hI0 ⊢
 clear hown hgrow hU hUe hi hz0 hz1 hz2 hB0
 clear i0
 clear w1
 go_wp2_with fail
 go_loopw [28] (fun vk wr=>∃(k:Nat) (M:Nat→Bool) (vE:Value) (acc:List (Int × Nat)),(k:Int)≤f+2∧vk=.int .i64 (k:Int)∧acc ++ Gn.mons d f ((f+2).toNat - k) k (Gn.those (Gn.free c F 4 M) 384)=fin∧RefMon w B G gF L U (U+1) c F vE M acc wr) (fun vk _=>10 - (intOf vk).toNat)
 case atStart=>exact ⟨0,_,_,[],by omega,rfl,by rw [uh hst0];exact (uh hfin').symm,uh hI0⟩
 case round =>
  clear hI0
  clear w2
  rename_i hKK
  have hK0:=hide hKK
  clear hKK
  obtain ⟨k,M,vE,acc,hk,rfl,hacc,hH⟩:=hrel
  have hH1:=hide hH
  have hacc':=hide hacc
  clear hH hacc
  have hdone:Hid (∀x,acc=fin→RefMon w B G gF L U (U+1) c F vE M acc x→RefBase w B G gF L c F vE (Gn.ents d f c F).length (Gn.flat (Gn.ents d f c F)) (.slice none 0 0) x):=fun x he hx=>by
   have h:=hx.base
   rw [he,uh hfin'] at h
   exact h
  by_cases hlt:(k:Int)<f+2
  ·have hlt':(k:Int)≤f+1:=by omega
   have hpick:=hide (pick_any s f d (uh hd') (uh hFr') G gF U c F 4 (7+(k:Int)) M wr (uh hH1).base.cells (uh hH1).base.fld (uh hH1).used)
   obtain ⟨l,hl⟩:∃l,l=Gn.those (Gn.free c F 4 M) 384:=⟨_,rfl⟩
   rw [←hl] at hpick hacc'
   have hl':=hide hl
   clear hl
   go_wp2_with fail
   refine (uh hpick).mono ?_
   rintro e w3 ⟨rfl,hg3⟩
   have hH3:=hide ((uh hH1).on hg3)
   clear hg3 hpick hH1
   by_cases h0:l.length=0
   ·rw [Gn.picked_none h0]
    have hst:acc=fin:=by
     have h:=uh hacc'
     rw [Gn.mons_nil h0,List.append_nil] at h
     exact h
    clear h0
    go_wp2_with fail
    exact uh hK0 _ _ (ref_items s f d (uh hd') (uh hFr') w B G gF L c F vE sh (uh hlev') (by rw [uh hsh'];exact decide_eq_decide.2 (by omega)) w3 (uh hdone w3 hst (uh hH3)))
   ·obtain ⟨N,hN⟩:∃x,x=d (7+(k:Int)) 0 (l.length:Int):=⟨_,rfl⟩
    obtain ⟨n1,n2⟩:0≤N∧N<(l.length:Int):=by rw [hN];exact uh hFr' _ _ _ (by omega)
    obtain ⟨n,hn⟩:∃n:Nat,N=(n:Int):=⟨N.toNat,by omega⟩
    have hnl:n<l.length:=by omega
    rw [Gn.picked_some (n:=n) h0 (by rw [←hN,hn])]
    obtain ⟨Mx,hM⟩:∃Mx:Int,Mx=if 3<f+1 then 3 else f+1:=⟨_,rfl⟩
    have hMb:1≤Mx∧Mx≤3:=by rw [hM];split <;> omega
    obtain ⟨K,hK⟩:∃K,K=d (16+(k:Int)) 1 Mx:=⟨_,rfl⟩
    obtain ⟨k1,k2⟩:0≤K∧K<Mx:=by rw [hK];exact uh hFr' _ _ _ (by omega)
    have hdK:Hid (∀w',Calls Try.prog 58 #[.int .i64 s,.int .i64 f,.int .i64 (16+(k:Int)),.int .i64 1,.int .i64 Mx] w' (Says w' (.int .i64 K))):=fun w'=>by
     have h:=refD_any s f (16+(k:Int)) 1 Mx w' (by omega)
     rw [uh hd',←hK] at h
     exact h
    have hkind:Gn.kind d f k=2+K:=by unfold Gn.kind;rw [←hM,←hK]
    obtain ⟨cl,hcl⟩:∃cl,cl=l[n]?.getD 0:=⟨_,rfl⟩
    have hcl3:cl<384:=by rw [hcl,uh hl'];rw [uh hl'] at hnl;exact Gn.those_lt hnl
    have hers:Hid (Gn.those (Gn.free c F 4 (Gn.mark M cl)) 384=l.eraseIdx n):=by
     show Gn.those (Gn.free c F 4 (Gn.mark M cl)) 384=l.eraseIdx n
     rw [hcl,uh hl']
     rw [uh hl'] at hnl
     exact Gn.free_mark c F 4 M n hnl
    have hstep:Hid ((acc ++ [(2+K,cl)]) ++ Gn.mons d f ((f+2).toNat - (k+1)) (k+1) (l.eraseIdx n)=fin):=by
     have h:=uh hacc'
     obtain ⟨m,hm⟩:∃m,(f+2).toNat - k=m+1:=⟨(f+2).toNat - k - 1,by omega⟩
     rw [hm,Gn.mons,if_neg h0,←hN,hn,Int.toNat_natCast,hkind,←hcl] at h
     show (acc ++ [(2+K,cl)]) ++ Gn.mons d f ((f+2).toNat - (k+1)) (k+1) (l.eraseIdx n)=fin
     rw [show (f+2).toNat - (k+1)=m by omega,List.append_assoc]
     exact h
    have hal:acc.length≤5:=by
     have h:=congrArg List.length (uh hacc')
     rw [List.length_append] at h
     omega
    obtain ⟨hp,hhp⟩:∃x,x=Gn.hp (2+K):=⟨_,rfl⟩
    obtain ⟨at_,hat⟩:∃x,x=Gn.atk (2+K):=⟨_,rfl⟩
    obtain ⟨df,hdf⟩:∃x,x=Gn.df (2+K):=⟨_,rfl⟩
    have hstats:Hid (∀w',Calls Try.prog 22 #[.int .i64 (2+K)] w' (Says w' (.agg #[.int .i64 (2+K),.int .i64 0,.int .i64 0,.int .i64 0,.int .i64 0,.int .i64 hp,.int .i64 hp,.int .i64 at_,.int .i64 df,.int .i64 0,.int .i64 0]))):=fun w'=>by
     have h:=refStats_any (2+K) w' (by omega) (by omega)
     unfold Gn.ent at h
     rw [←hhp,←hat,←hdf] at h
     exact h
    have hentc:Hid (Gn.entCells (2+K,cl)=[.int .i64 (2+K),.int .i64 0,.int .i64 0,.int .i64 ((cl:Int) % 24),.int .i64 ((cl:Int) / 24),.int .i64 hp,.int .i64 hp,.int .i64 at_,.int .i64 df,.int .i64 0,.int .i64 0]):=by
     show Gn.entCells (2+K,cl)=_
     unfold Gn.entCells Gn.ent
     rw [←hhp,←hat,←hdf]
    rw [←hcl]
    have hclp:¬(cl:Int)<0:=by omega
    have hcl4:(cl:Int)<384:=by omega
    have u1:=(uh hH3).used.cell hcl3
    have u2:=(uh hH3).used.free cl
    have hM':=hide hM
    clear hN hn hK hkind hcl hhp hat hdf h0 hM n1 n2 hnl hcl3
    go_upto_region 53 with fail
    clear u1 u2
    have hHa:=hide ((uh hH3).mark cl)
    obtain ⟨wa,hwa⟩:∃wa,wa=w3.setCell ⟨U,cl,none⟩ (.bool true):=⟨_,rfl⟩
    rw [←hwa] at hHa ⊢
    clear hwa hH3
    clear w3
    by_cases h3:3<f+1
    ·have hMe:Mx=3:=by rw [uh hM',if_pos h3]
     subst hMe
     go_wp2_with fail
     refine (uh hdK _).mono ?_
     rintro e wb ⟨rfl,hgb⟩
     have hHb:=hide ((uh hHa).on hgb)
     clear hgb hHa
     go_wp2_with fail
     refine (uh hstats _).mono ?_
     rintro e wc ⟨rfl,hgc2⟩
     have hHc:=hide ((uh hHb).on hgc2)
     clear hgc2 hHb
     have hce:=(uh hHc).base.box.cell (i:=1) (by omega)
     have hcl2:=(uh hHc).base.box.lt
     simp only [Nat.one_ne_zero,ite_false,ite_true] at hce
     have hH4:Hid (RefMon w B G gF L U (U+1) c F vE (Gn.mark M cl) acc (wc.alloc (.cells #[.int .i64 (2+K),.int .i64 0,.int .i64 0,.int .i64 ((cl:Int) % 24),.int .i64 ((cl:Int) / 24),.int .i64 hp,.int .i64 hp,.int .i64 at_,.int .i64 df,.int .i64 0,.int .i64 0] 45))):=(uh hHc).on (World.grownBy_alloc _ _ _)
     have ht4:=(uh hHc).o6
     have keep2:Hid (∀y,((wc.alloc (.cells #[.int .i64 (2+K),.int .i64 0,.int .i64 0,.int .i64 ((cl:Int) % 24),.int .i64 ((cl:Int) / 24),.int .i64 hp,.int .i64 hp,.int .i64 at_,.int .i64 df,.int .i64 0,.int .i64 0] 45)).alloc (.cells #[.int .i64 (2+K),.int .i64 0,.int .i64 0,.int .i64 ((cl:Int) % 24),.int .i64 ((cl:Int) / 24),.int .i64 hp,.int .i64 hp,.int .i64 at_,.int .i64 df,.int .i64 0,.int .i64 0] 45)).grownBy y vE.ownBlock→(y.cell? ⟨L,1,none⟩=some vE∧y.frozen? ⟨L,1,none⟩=false)):=by
      intro y hg
      have hp:=((uh hH4).base.box.alloc (.cells #[.int .i64 (2+K),.int .i64 0,.int .i64 0,.int .i64 ((cl:Int) % 24),.int .i64 ((cl:Int) / 24),.int .i64 hp,.int .i64 hp,.int .i64 at_,.int .i64 df,.int .i64 0,.int .i64 0] 45)).grown hg (fun e=>by have:=((uh hH4).base.ents.lt _ e).1;omega)
      exact ⟨hp.cell (by omega),hp.free 1⟩
     go_wp2_with (at_builtin;refine wpList_append_own _ rfl _ _ 26 rfl (U+1) 45 i1 (.agg #[.int .i64 0,.int .i64 0,.int .i64 0,.int .i64 0,.int .i64 0,.int .i64 0,.int .i64 0,.int .i64 0,.int .i64 0,.int .i64 0,.int .i64 0]) 11 88 Try.underlying26 hi1 hy0 hy1 hy2 rfl (by decide) _ _ _ rfl ((uh hH4).ents.alloc _) ⟨wc.heap.size+1,0,none⟩ 1 1 [.int .i64 (2+K),.int .i64 0,.int .i64 0,.int .i64 ((cl:Int) % 24),.int .i64 ((cl:Int) / 24),.int .i64 hp,.int .i64 hp,.int .i64 at_,.int .i64 df,.int .i64 0,.int .i64 0] rfl rfl ?_ ?_ ?_ ?_ ?_ ?_)
     ·exact ent_news _ _ (by simp) _ _ _ _ _ _ _ _ _ _ _ _
     ·intro u hu
      simp only [List.mem_cons,List.not_mem_nil,or_false] at hu
      rcases hu with rfl | rfl | rfl | rfl | rfl | rfl | rfl | rfl | rfl | rfl | rfl <;> rfl
     ·unfold maxLen;omega
     ·omega
     ·simp;omega
     intro v5 w5 hown5 hgrow5 _
     obtain ⟨y1,y2⟩:=uh keep2 _ hgrow5
     obtain ⟨a5,c5,rfl⟩:=owns_form hown5
     rw [←uh hentc] at hown5
     have hH5:=hide (((uh hH4).on (World.grownBy_alloc _ _ _)).add hown5 hgrow5)
     clear hown5 hgrow5 hH4 hHc keep2 hce hcl2
     go_wp2
     go_roundw
     case rel=>exact ⟨k+1,Gn.mark M cl,_,acc ++ [(2+K,cl)],by omega,by go_num,by rw [uh hers];exact uh hstep,uh hH5⟩
     case measure=>simp [intOf];omega
    ·have hMe:f+1=Mx:=by rw [uh hM',if_neg h3]
     go_wp2_with fail
     refine (uh hdK _).mono ?_
     rintro e wb ⟨rfl,hgb⟩
     have hHb:=hide ((uh hHa).on hgb)
     clear hgb hHa
     go_wp2_with fail
     refine (uh hstats _).mono ?_
     rintro e wc ⟨rfl,hgc2⟩
     have hHc:=hide ((uh hHb).on hgc2)
     clear hgc2 hHb
     have hce:=(uh hHc).base.box.cell (i:=1) (by omega)
     have hcl2:=(uh hHc).base.box.lt
     simp only [Nat.one_ne_zero,ite_false,ite_true] at hce
     have hH4:Hid (RefMon w B G gF L U (U+1) c F vE (Gn.mark M cl) acc (wc.alloc (.cells #[.int .i64 (2+K),.int .i64 0,.int .i64 0,.int .i64 ((cl:Int) % 24),.int .i64 ((cl:Int) / 24),.int .i64 hp,.int .i64 hp,.int .i64 at_,.int .i64 df,.int .i64 0,.int .i64 0] 45))):=(uh hHc).on (World.grownBy_alloc _ _ _)
     have ht4:=(uh hHc).o6
     have keep2:Hid (∀y,((wc.alloc (.cells #[.int .i64 (2+K),.int .i64 0,.int .i64 0,.int .i64 ((cl:Int) % 24),.int .i64 ((cl:Int) / 24),.int .i64 hp,.int .i64 hp,.int .i64 at_,.int .i64 df,.int .i64 0,.int .i64 0] 45)).alloc (.cells #[.int .i64 (2+K),.int .i64 0,.int .i64 0,.int .i64 ((cl:Int) % 24),.int .i64 ((cl:Int) / 24),.int .i64 hp,.int .i64 hp,.int .i64 at_,.int .i64 df,.int .i64 0,.int .i64 0] 45)).grownBy y vE.ownBlock→(y.cell? ⟨L,1,none⟩=some vE∧y.frozen? ⟨L,1,none⟩=false)):=by
      intro y hg
      have hp:=((uh hH4).base.box.alloc (.cells #[.int .i64 (2+K),.int .i64 0,.int .i64 0,.int .i64 ((cl:Int) % 24),.int .i64 ((cl:Int) / 24),.int .i64 hp,.int .i64 hp,.int .i64 at_,.int .i64 df,.int .i64 0,.int .i64 0] 45)).grown hg (fun e=>by have:=((uh hH4).base.ents.lt _ e).1;omega)
      exact ⟨hp.cell (by omega),hp.free 1⟩
     go_wp2_with (at_builtin;refine wpList_append_own _ rfl _ _ 26 rfl (U+1) 45 i1 (.agg #[.int .i64 0,.int .i64 0,.int .i64 0,.int .i64 0,.int .i64 0,.int .i64 0,.int .i64 0,.int .i64 0,.int .i64 0,.int .i64 0,.int .i64 0]) 11 88 Try.underlying26 hi1 hy0 hy1 hy2 rfl (by decide) _ _ _ rfl ((uh hH4).ents.alloc _) ⟨wc.heap.size+1,0,none⟩ 1 1 [.int .i64 (2+K),.int .i64 0,.int .i64 0,.int .i64 ((cl:Int) % 24),.int .i64 ((cl:Int) / 24),.int .i64 hp,.int .i64 hp,.int .i64 at_,.int .i64 df,.int .i64 0,.int .i64 0] rfl rfl ?_ ?_ ?_ ?_ ?_ ?_)
     ·exact ent_news _ _ (by simp) _ _ _ _ _ _ _ _ _ _ _ _
     ·intro u hu
      simp only [List.mem_cons,List.not_mem_nil,or_false] at hu
      rcases hu with rfl | rfl | rfl | rfl | rfl | rfl | rfl | rfl | rfl | rfl | rfl <;> rfl
     ·unfold maxLen;omega
     ·omega
     ·simp;omega
     intro v5 w5 hown5 hgrow5 _
     obtain ⟨y1,y2⟩:=uh keep2 _ hgrow5
     obtain ⟨a5,c5,rfl⟩:=owns_form hown5
     rw [←uh hentc] at hown5
     have hH5:=hide (((uh hH4).on (World.grownBy_alloc _ _ _)).add hown5 hgrow5)
     clear hown5 hgrow5 hH4 hHc keep2 hce hcl2
     go_wp2
     go_roundw
     case rel=>exact ⟨k+1,Gn.mark M cl,_,acc ++ [(2+K,cl)],by omega,by go_num,by rw [uh hers];exact uh hstep,uh hH5⟩
     case measure=>simp [intOf];omega
  ·have hst:acc=fin:=by
    have h:=uh hacc'
    rw [show (f+2).toNat - k=0 by omega,Gn.mons,List.append_nil] at h
    exact h
   have hge:¬(k:Int)≤f+1:=by omega
   clear hlt
   go_wp2_with fail
   exact uh hK0 _ _ (ref_items s f d (uh hd') (uh hFr') w B G gF L c F vE sh (uh hlev') (by rw [uh hsh'];exact decide_eq_decide.2 (by omega)) wr (uh hdone wr hst (uh hH1)))

end Go.Proofs.Ytapgkgbpekkdjaa
