import Derived.Test.YtkcooekhigmioaaGreatPart14
namespace Go.Proofs.YtkcooekhigmioaaGreat
open Go.RowKit

set_option maxRecDepth 100000 in
set_option maxHeartbeats 8000000 in
theorem ref_mons (s f:Int) (d:Gn.Dice) (hd:∀a b n,Gn.D s f a b n=d a b n) (hFr:Gn.Fair d) (h1f:1≤f) (h3f:f≤3) (w:World) (B G gF:Nat) (c F:Nat→Int) (sh:Bool) (hlev:Gn.IsLevel d c F) (hsh:sh=decide (0≤Gr.find 384 c 5)) (wr:World)
  (hA:Arr wr G 5 384 (Byts c)) (hF:Arr wr gF 3 384 (Ints F)) (hR:Arr wr B 103 3 (fun _=>.slice none 0 0)) (hg:w.grownBy wr none) (o0:w.heap.size≤B) (o1:B<G) (o2:G<gF) {t2 t3 t6 t7 t8 t9 Aa Ab Ac Ad Ae Af Ag Ah Ai Aj Ak Al Am Ao Ap Aq Ar As Au Av Aw Ax Ay Az AA AB AC AD AE AF AG AH AI AJ AK AL AM AN AO AP AQ AR AS AT AU AV AW AX AY AZ A0 A1 A2 A3 A4 A5 A6 A7 A8 A9 Ba Bb Bc Bd Be Bf Bg Bh Bi Bj Bk Bl Bm Bn Bo Bp Bq Br Bs Bt Bu Bv Bw Bx Bz BA BB BC BD BE BF BG BH BI BJ BK BL BM BN BO BP BQ BR BS BT BU BV BW BX BY BZ B0 B1 B2 B3 B4 B5 B6 B7 B8 B9 Ca Cb Cc Cd Ce Cf Cg Ch Ci Cj Ck Cl Cm Cn Co Cp Cq Cs Ct Cu Cv Cw Cx Cy Cz CA CB CC CD CE CF CG CH CI CJ CK CL CM CN CO CP CQ CR CS CT CU CV CW CX CY CZ C0 C1 C2 C3 C4 C5 C6 C7 C8 C9 Da Db Dc Dd De Df Dg Dh Di Dj Dk Dl Dm Dn Dp Dq Dr Ds Dt Du Dv Dw Dx Dy Dz DA DB DC DD DE DF DG DH DI DJ DK DL DM DN DO DP DQ DR DS DT DU DV DW DX DY DZ D0 D1 D2 D3 D4 D5 D6 D7 D8 D9 Ea Eb Ec Ed Ee Ef Eg Eh Ei Ej Ek El Em Eo Ep Er Es Et Eu Ev Ew Ex Ey Ez EA EB EC ED EE EF EG EH EI EJ EK EL EM EN EO EP EQ ER ES ET EU EV EW EX EY EZ E0 E1 E2 E3 E4 E5 E6 E7 E8 E9 Fa Fb Fc Fd Fe Ff Fg Fh Fi Fj Fk:Value} :
  Code.wp Tryz.prog ((Tryz.f52.body.map (cdrop 13)).getD .skip) (bodyPost Tryz.prog Tryz.f52 (RefDone w d f)) ⟨#[.int .i64 s,.int .i64 f,t2,t3,.pointer (some ⟨B,0,none⟩),.slice (some ⟨G,0,none⟩) 384 384,t6,t7,t8,t9,Aa,Ab,Ac,Ad,Ae,Af,Ag,Ah,Ai,Aj,Ak,.slice (some ⟨gF,0,none⟩) 384 384,Al,Am,.bool sh,Ao,Ap,Aq,Ar,As,Au,Av,Aw,Ax,Ay,Az,AA,AB,AC,AD,AE,AF,AG,AH,AI,AJ,AK,AL,AM,AN,AO,AP,AQ,AR,AS,AT,AU,AV,AW,AX,AY,AZ,A0,A1,A2,A3,A4,A5,A6,A7,A8,A9,Ba,Bb,Bc,Bd,Be,Bf,Bg,Bh,Bi,Bj,Bk,Bl,Bm,Bn,Bo,Bp,Bq,Br,Bs,Bt,Bu,Bv,Bw,Bx,Bz,BA,BB,BC,BD,BE,BF,BG,BH,BI,BJ,BK,BL,BM,BN,BO,BP,BQ,BR,BS,BT,BU,BV,BW,BX,BY,BZ,B0,B1,B2,B3,B4,B5,B6,B7,B8,B9,Ca,Cb,Cc,Cd,Ce,Cf,Cg,Ch,Ci,Cj,Ck,Cl,Cm,Cn,Co,Cp,Cq,Cs,Ct,Cu,Cv,Cw,Cx,Cy,Cz,CA,CB,CC,CD,CE,CF,CG,CH,CI,CJ,CK,CL,CM,CN,CO,CP,CQ,CR,CS,CT,CU,CV,CW,CX,CY,CZ,C0,C1,C2,C3,C4,C5,C6,C7,C8,C9,Da,Db,Dc,Dd,De,Df,Dg,Dh,Di,Dj,Dk,Dl,Dm,Dn,Dp,Dq,Dr,Ds,Dt,Du,Dv,Dw,Dx,Dy,Dz,DA,DB,DC,DD,DE,DF,DG,DH,DI,DJ,DK,DL,DM,DN,DO,DP,DQ,DR,DS,DT,DU,DV,DW,DX,DY,DZ,D0,D1,D2,D3,D4,D5,D6,D7,D8,D9,Ea,Eb,Ec,Ed,Ee,Ef,Eg,Eh,Ei,Ej,Ek,El,Em,Eo,Ep,Er,Es,Et,Eu,Ev,Ew,Ex,Ey,Ez,EA,EB,EC,ED,EE,EF,EG,EH,EI,EJ,EK,EL,EM,EN,EO,EP,EQ,ER,ES,ET,EU,EV,EW,EX,EY,EZ,E0,E1,E2,E3,E4,E5,E6,E7,E8,E9,Fa,Fb,Fc,Fd,Fe,Ff,Fg,Fh,Fi,Fj,Fk],[]⟩ wr:=by
 conv=>arg 2;whnf
 obtain ⟨i0,hi,hz0,hz1,hz2⟩:=info_parts info_bool
 obtain ⟨i1,hi1,hy0,hy1,hy2⟩:=info_parts info_ent
 have hd':=hide hd
 have hFr':=hide hFr
 have hlev':=hide hlev
 have hsh':=hide hsh
 have hst0:=hide (Gn.free_start4 c F)
 obtain ⟨fin,hfin⟩:∃fin,fin=Gn.ents d f c F:=⟨_,rfl⟩
 have hfin':=hide hfin
 have hfl:fin.length≤5:=by
  rw [hfin]
  have:=Gn.mons_len d f (f+2).toNat 0 ((Gn.those (fun i=>c i == 1) 384).filter (Gn.afar F))
  unfold Gn.ents
  omega
 have hB0:Hid (RefBase w B G gF wr.heap.size c F (.slice none 0 0) 0 [] (.slice none 0 0) (wr.alloc (.cells #[.slice (some ⟨G,0,none⟩) 384 384,.slice none 0 0,.slice none 0 0] 103))):=by
  refine ⟨hA.alloc _,hF.alloc _,hR.alloc _,⟨_,heap_alloc_new _ _,rfl,fun j hj=>?_⟩,World.ownsRow_nil _ _ _ _,gal hg _,o0,o1,o2,hF.lt⟩
  rcases (show j=0∨j=1∨j=2 by omega) with rfl | rfl | rfl <;> rfl
 clear hd hFr hlev hsh hfin hA hF hR hg
 go_upto_region 46 with fail
 obtain ⟨L,hL⟩:∃L,L=wr.heap.size:=⟨_,rfl⟩
 obtain ⟨w1,hw1⟩:∃w1,w1=wr.alloc (.cells #[.slice (some ⟨G,0,none⟩) 384 384,.slice none 0 0,.slice none 0 0] 103):=⟨_,rfl⟩
 rw [←hL,←hw1] at hB0
 rw [←hL,←hw1]
 clear hL hw1
 clear wr
 go_wp2_with (at_make;refine wpList_make_full _ rfl _ _ 144 rfl w1.heap.size 4 i0 (.bool false) 1 Tryz.underlying144 hi hz0 hz1 .i64 .i64 _ _ 384 rfl rfl rfl rfl ?q3 ?q4 ?q5 ?_)
 any_goals (first | (rw [hz2];decide) | decide | exact Nat.le_refl _)
 intro w2 hown hgrow
 have hU:Arr w2 w1.heap.size 4 384 (Bols fun _=>false):=Arr.zero hown
 have hI0:Hid (RefMon w B G gF L w1.heap.size (w1.heap.size+1) c F (.slice none 0 0) (fun _=>false) [] w2) :=
  ⟨(uh hB0).on hgrow,hU,World.ownsRow_nil _ _ _ _,(uh hB0).box.lt,Nat.lt_succ_self _,hU.lt⟩
 obtain ⟨U,hUe⟩:∃U,U=w1.heap.size:=⟨_,rfl⟩
 rw [←hUe] at hI0 ⊢
 clear hown hgrow hU hUe hi hz0 hz1 hz2 hB0
 clear i0
 clear w1
 go_wp2_with fail
 go_loopw [28] (fun vk wr=>∃(k:Nat) (M:Nat→Bool) (vE:Value) (acc:List (Int × Nat)),(k:Int)≤f+2∧vk=.int .i64 (k:Int)∧acc ++ Gn.mons d f ((f+2).toNat - k) k (Gn.those (Gn.free c F 4 M) 384)=fin∧RefMon w B G gF L U (U+1) c F vE M acc wr) (fun vk _=>10 - (intOf vk).toNat)
 case atStart=>exact ⟨0,_,_,[],by omega,rfl,by rw [uh hst0];exact (uh hfin').symm,uh hI0⟩
 case round =>
  clear hI0
  clear w2
  rename_i hKK
  have hK0:=hide hKK
  clear hKK
  obtain ⟨k,M,vE,acc,hk,rfl,hacc,hH⟩:=hrel
  have hH1:=hide hH
  have hacc':=hide hacc
  clear hH hacc
  have hdone:Hid (∀x,acc=fin→RefMon w B G gF L U (U+1) c F vE M acc x→RefBase w B G gF L c F vE (Gn.ents d f c F).length (Gn.flat (Gn.ents d f c F)) (.slice none 0 0) x):=fun x he hx=>by
   have h:=hx.base
   rw [he,uh hfin'] at h
   exact h
  by_cases hlt:(k:Int)<f+2
  ·have hlt':(k:Int)≤f+1:=by omega
   have hpick:=hide (pick_any s f d (uh hd') (uh hFr') G gF U c F 4 (7+(k:Int)) M wr (uh hH1).base.cells (uh hH1).base.fld (uh hH1).used)
   obtain ⟨l,hl⟩:∃l,l=Gn.those (Gn.free c F 4 M) 384:=⟨_,rfl⟩
   rw [←hl] at hpick hacc'
   have hl':=hide hl
   clear hl
   go_wp2_with fail
   refine (uh hpick).mono ?_
   rintro e w3 ⟨rfl,hg3⟩
   have hH3:=hide ((uh hH1).on hg3)
   clear hg3 hpick hH1
   by_cases h0:l.length=0
   ·rw [Gn.picked_none h0]
    have hst:acc=fin:=by
     have h:=uh hacc'
     rw [Gn.mons_nil h0,List.append_nil] at h
     exact h
    clear h0
    go_wp2_with fail
    exact uh hK0 _ _ (ref_items s f d (uh hd') (uh hFr') w B G gF L c F vE sh (uh hlev') (by rw [uh hsh'];exact decide_eq_decide.2 (by omega)) w3 (uh hdone w3 hst (uh hH3)))
   ·obtain ⟨N,hN⟩:∃x,x=d (7+(k:Int)) 0 (l.length:Int):=⟨_,rfl⟩
    obtain ⟨n1,n2⟩:0≤N∧N<(l.length:Int):=by rw [hN];exact uh hFr' _ _ _ (by omega)
    obtain ⟨n,hn⟩:∃n:Nat,N=(n:Int):=⟨N.toNat,by omega⟩
    have hnl:n<l.length:=by omega
    rw [Gn.picked_some (n:=n) h0 (by rw [←hN,hn])]
    obtain ⟨Mx,hM⟩:∃Mx:Int,Mx=if 3<f+1 then 3 else f+1:=⟨_,rfl⟩
    have hMb:1≤Mx∧Mx≤3:=by rw [hM];split <;> omega
    obtain ⟨K,hK⟩:∃K,K=d (16+(k:Int)) 1 Mx:=⟨_,rfl⟩
    obtain ⟨k1,k2⟩:0≤K∧K<Mx:=by rw [hK];exact uh hFr' _ _ _ (by omega)
    have hdK:Hid (∀w',Calls Tryz.prog 83 #[.int .i64 s,.int .i64 f,.int .i64 (16+(k:Int)),.int .i64 1,.int .i64 Mx] w' (Says w' (.int .i64 K))):=fun w'=>by
     have h:=refD_any s f (16+(k:Int)) 1 Mx w' (by omega)
     rw [uh hd',←hK] at h
     exact h
    have hkind:Gn.kind d f k=2+K:=by unfold Gn.kind;rw [←hM,←hK]
    obtain ⟨cl,hcl⟩:∃cl,cl=l[n]?.getD 0:=⟨_,rfl⟩
    have hcl3:cl<384:=by rw [hcl,uh hl'];rw [uh hl'] at hnl;exact Gn.those_lt hnl
    have hers:Hid (Gn.those (Gn.free c F 4 (Gn.mark M cl)) 384=l.eraseIdx n):=by
     show Gn.those (Gn.free c F 4 (Gn.mark M cl)) 384=l.eraseIdx n
     rw [hcl,uh hl']
     rw [uh hl'] at hnl
     exact Gn.free_mark c F 4 M n hnl
    have hstep:Hid ((acc ++ [(2+K,cl)]) ++ Gn.mons d f ((f+2).toNat - (k+1)) (k+1) (l.eraseIdx n)=fin):=by
     have h:=uh hacc'
     obtain ⟨m,hm⟩:∃m,(f+2).toNat - k=m+1:=⟨(f+2).toNat - k - 1,by omega⟩
     rw [hm,Gn.mons,if_neg h0,←hN,hn,Int.toNat_natCast,hkind,←hcl] at h
     show (acc ++ [(2+K,cl)]) ++ Gn.mons d f ((f+2).toNat - (k+1)) (k+1) (l.eraseIdx n)=fin
     rw [show (f+2).toNat - (k+1)=m by omega,List.append_assoc]
     exact h
    have hal:acc.length≤5:=by
     have h:=congrArg List.length (uh hacc')
     rw [List.length_append] at h
     omega
    obtain ⟨hp,hhp⟩:∃x,x=Gn.hp (2+K):=⟨_,rfl⟩
    obtain ⟨at_,hat⟩:∃x,x=Gn.atk (2+K):=⟨_,rfl⟩
    obtain ⟨df,hdf⟩:∃x,x=Gn.df (2+K):=⟨_,rfl⟩
    have hstats:Hid (∀w',Calls Tryz.prog 56 #[.int .i64 (2+K)] w' (Says w' (.agg #[.int .i64 (2+K),.int .i64 0,.int .i64 0,.int .i64 0,.int .i64 0,.int .i64 hp,.int .i64 hp,.int .i64 at_,.int .i64 df,.int .i64 0,.int .i64 0]))):=fun w'=>by
     have h:=refStats_any (2+K) w' (by omega) (by omega)
     unfold Gn.ent at h
     rw [←hhp,←hat,←hdf] at h
     exact h
    have hentc:Hid (Gn.entCells (2+K,cl)=[.int .i64 (2+K),.int .i64 0,.int .i64 0,.int .i64 ((cl:Int) % 24),.int .i64 ((cl:Int) / 24),.int .i64 hp,.int .i64 hp,.int .i64 at_,.int .i64 df,.int .i64 0,.int .i64 0]):=by
     show Gn.entCells (2+K,cl)=_
     unfold Gn.entCells Gn.ent
     rw [←hhp,←hat,←hdf]
    rw [←hcl]
    have hclp:¬(cl:Int)<0:=by omega
    have hcl4:(cl:Int)<384:=by omega
    have u1:=(uh hH3).used.cell hcl3
    have u2:=(uh hH3).used.free cl
    have hM':=hide hM
    clear hN hn hK hkind hcl hhp hat hdf h0 hM n1 n2 hnl hcl3
    go_upto_region 53 with fail
    clear u1 u2
    have hHa:=hide ((uh hH3).mark cl)
    obtain ⟨wa,hwa⟩:∃wa,wa=w3.setCell ⟨U,cl,none⟩ (.bool true):=⟨_,rfl⟩
    rw [←hwa] at hHa ⊢
    clear hwa hH3
    clear w3
    by_cases h3:3<f+1
    ·have hMe:Mx=3:=by rw [uh hM',if_pos h3]
     subst hMe
     go_wp2_with fail
     refine (uh hdK _).mono ?_
     rintro e wb ⟨rfl,hgb⟩
     have hHb:=hide ((uh hHa).on hgb)
     clear hgb hHa
     go_wp2_with fail
     refine (uh hstats _).mono ?_
     rintro e wc ⟨rfl,hgc2⟩
     have hHc:=hide ((uh hHb).on hgc2)
     clear hgc2 hHb
     have hce:=(uh hHc).base.box.cell (i:=1) (by omega)
     have hcl2:=(uh hHc).base.box.lt
     simp only [Nat.one_ne_zero,ite_false,ite_true] at hce
     have hH4:Hid (RefMon w B G gF L U (U+1) c F vE (Gn.mark M cl) acc (wc.alloc (.cells #[.int .i64 (2+K),.int .i64 0,.int .i64 0,.int .i64 ((cl:Int) % 24),.int .i64 ((cl:Int) / 24),.int .i64 hp,.int .i64 hp,.int .i64 at_,.int .i64 df,.int .i64 0,.int .i64 0] 70))):=(uh hHc).on (World.grownBy_alloc _ _ _)
     have ht4:=(uh hHc).o6
     have keep2:Hid (∀y,((wc.alloc (.cells #[.int .i64 (2+K),.int .i64 0,.int .i64 0,.int .i64 ((cl:Int) % 24),.int .i64 ((cl:Int) / 24),.int .i64 hp,.int .i64 hp,.int .i64 at_,.int .i64 df,.int .i64 0,.int .i64 0] 70)).alloc (.cells #[.int .i64 (2+K),.int .i64 0,.int .i64 0,.int .i64 ((cl:Int) % 24),.int .i64 ((cl:Int) / 24),.int .i64 hp,.int .i64 hp,.int .i64 at_,.int .i64 df,.int .i64 0,.int .i64 0] 70)).grownBy y vE.ownBlock→(y.cell? ⟨L,1,none⟩=some vE∧y.frozen? ⟨L,1,none⟩=false)):=by
      intro y hg
      have hp:=((uh hH4).base.box.alloc (.cells #[.int .i64 (2+K),.int .i64 0,.int .i64 0,.int .i64 ((cl:Int) % 24),.int .i64 ((cl:Int) / 24),.int .i64 hp,.int .i64 hp,.int .i64 at_,.int .i64 df,.int .i64 0,.int .i64 0] 70)).grown hg (fun e=>by have:=((uh hH4).base.ents.lt _ e).1;omega)
      exact ⟨hp.cell (by omega),hp.free 1⟩
     go_wp2_with (at_builtin;refine wpList_append_own _ rfl _ _ 27 rfl (U+1) 70 i1 (.agg #[.int .i64 0,.int .i64 0,.int .i64 0,.int .i64 0,.int .i64 0,.int .i64 0,.int .i64 0,.int .i64 0,.int .i64 0,.int .i64 0,.int .i64 0]) 11 88 Tryz.underlying27 hi1 hy0 hy1 hy2 rfl (by decide) _ _ _ rfl ((uh hH4).ents.alloc _) ⟨wc.heap.size+1,0,none⟩ 1 1 [.int .i64 (2+K),.int .i64 0,.int .i64 0,.int .i64 ((cl:Int) % 24),.int .i64 ((cl:Int) / 24),.int .i64 hp,.int .i64 hp,.int .i64 at_,.int .i64 df,.int .i64 0,.int .i64 0] rfl rfl ?_ ?_ ?_ ?_ ?_ ?_)
     ·exact ent_news _ _ (by simp) _ _ _ _ _ _ _ _ _ _ _ _
     ·intro u hu
      simp only [List.mem_cons,List.not_mem_nil,or_false] at hu
      rcases hu with rfl | rfl | rfl | rfl | rfl | rfl | rfl | rfl | rfl | rfl | rfl <;> rfl
     ·unfold maxLen;omega
     ·omega
     ·simp;omega
     intro v5 w5 hown5 hgrow5 _
     obtain ⟨y1,y2⟩:=uh keep2 _ hgrow5
     obtain ⟨a5,c5,rfl⟩:=owns_form hown5
     rw [←uh hentc] at hown5
     have hH5:=hide (((uh hH4).on (World.grownBy_alloc _ _ _)).add hown5 hgrow5)
     clear hown5 hgrow5 hH4 hHc keep2 hce hcl2
     go_wp2
     go_roundw
     case rel=>exact ⟨k+1,Gn.mark M cl,_,acc ++ [(2+K,cl)],by omega,by go_num,by rw [uh hers];exact uh hstep,uh hH5⟩
     case measure=>simp [intOf];omega
    ·have hMe:f+1=Mx:=by rw [uh hM',if_neg h3]
     go_wp2_with fail
     refine (uh hdK _).mono ?_
     rintro e wb ⟨rfl,hgb⟩
     have hHb:=hide ((uh hHa).on hgb)
     clear hgb hHa
     go_wp2_with fail
     refine (uh hstats _).mono ?_
     rintro e wc ⟨rfl,hgc2⟩
     have hHc:=hide ((uh hHb).on hgc2)
     clear hgc2 hHb
     have hce:=(uh hHc).base.box.cell (i:=1) (by omega)
     have hcl2:=(uh hHc).base.box.lt
     simp only [Nat.one_ne_zero,ite_false,ite_true] at hce
     have hH4:Hid (RefMon w B G gF L U (U+1) c F vE (Gn.mark M cl) acc (wc.alloc (.cells #[.int .i64 (2+K),.int .i64 0,.int .i64 0,.int .i64 ((cl:Int) % 24),.int .i64 ((cl:Int) / 24),.int .i64 hp,.int .i64 hp,.int .i64 at_,.int .i64 df,.int .i64 0,.int .i64 0] 70))):=(uh hHc).on (World.grownBy_alloc _ _ _)
     have ht4:=(uh hHc).o6
     have keep2:Hid (∀y,((wc.alloc (.cells #[.int .i64 (2+K),.int .i64 0,.int .i64 0,.int .i64 ((cl:Int) % 24),.int .i64 ((cl:Int) / 24),.int .i64 hp,.int .i64 hp,.int .i64 at_,.int .i64 df,.int .i64 0,.int .i64 0] 70)).alloc (.cells #[.int .i64 (2+K),.int .i64 0,.int .i64 0,.int .i64 ((cl:Int) % 24),.int .i64 ((cl:Int) / 24),.int .i64 hp,.int .i64 hp,.int .i64 at_,.int .i64 df,.int .i64 0,.int .i64 0] 70)).grownBy y vE.ownBlock→(y.cell? ⟨L,1,none⟩=some vE∧y.frozen? ⟨L,1,none⟩=false)):=by
      intro y hg
      have hp:=((uh hH4).base.box.alloc (.cells #[.int .i64 (2+K),.int .i64 0,.int .i64 0,.int .i64 ((cl:Int) % 24),.int .i64 ((cl:Int) / 24),.int .i64 hp,.int .i64 hp,.int .i64 at_,.int .i64 df,.int .i64 0,.int .i64 0] 70)).grown hg (fun e=>by have:=((uh hH4).base.ents.lt _ e).1;omega)
      exact ⟨hp.cell (by omega),hp.free 1⟩
     go_wp2_with (at_builtin;refine wpList_append_own _ rfl _ _ 27 rfl (U+1) 70 i1 (.agg #[.int .i64 0,.int .i64 0,.int .i64 0,.int .i64 0,.int .i64 0,.int .i64 0,.int .i64 0,.int .i64 0,.int .i64 0,.int .i64 0,.int .i64 0]) 11 88 Tryz.underlying27 hi1 hy0 hy1 hy2 rfl (by decide) _ _ _ rfl ((uh hH4).ents.alloc _) ⟨wc.heap.size+1,0,none⟩ 1 1 [.int .i64 (2+K),.int .i64 0,.int .i64 0,.int .i64 ((cl:Int) % 24),.int .i64 ((cl:Int) / 24),.int .i64 hp,.int .i64 hp,.int .i64 at_,.int .i64 df,.int .i64 0,.int .i64 0] rfl rfl ?_ ?_ ?_ ?_ ?_ ?_)
     ·exact ent_news _ _ (by simp) _ _ _ _ _ _ _ _ _ _ _ _
     ·intro u hu
      simp only [List.mem_cons,List.not_mem_nil,or_false] at hu
      rcases hu with rfl | rfl | rfl | rfl | rfl | rfl | rfl | rfl | rfl | rfl | rfl <;> rfl
     ·unfold maxLen;omega
     ·omega
     ·simp;omega
     intro v5 w5 hown5 hgrow5 _
     obtain ⟨y1,y2⟩:=uh keep2 _ hgrow5
     obtain ⟨a5,c5,rfl⟩:=owns_form hown5
     rw [←uh hentc] at hown5
     have hH5:=hide (((uh hH4).on (World.grownBy_alloc _ _ _)).add hown5 hgrow5)
     clear hown5 hgrow5 hH4 hHc keep2 hce hcl2
     go_wp2
     go_roundw
     case rel=>exact ⟨k+1,Gn.mark M cl,_,acc ++ [(2+K,cl)],by omega,by go_num,by rw [uh hers];exact uh hstep,uh hH5⟩
     case measure=>simp [intOf];omega
  ·have hst:acc=fin:=by
    have h:=uh hacc'
    rw [show (f+2).toNat - k=0 by omega,Gn.mons,List.append_nil] at h
    exact h
   have hge:¬(k:Int)≤f+1:=by omega
   clear hlt
   go_wp2_with fail
   exact uh hK0 _ _ (ref_items s f d (uh hd') (uh hFr') w B G gF L c F vE sh (uh hlev') (by rw [uh hsh'];exact decide_eq_decide.2 (by omega)) wr (uh hdone wr hst (uh hH1)))


open Go.RowKit

def Gn.scan (F:Nat→Int) (up:Nat):Nat→Nat
 | 0=>up
 | n+1=>if F n > F (Gn.scan F up n) then n else Gn.scan F up n

theorem Gn.scan_is (F:Nat→Int) (up:Nat) (hu:up<384):∀n,n≤384→Gn.scan F up n<384∧F up≤F (Gn.scan F up n)∧(∀i,i<n→F i≤F (Gn.scan F up n))∧(Gn.scan F up n=up∨∀i,i<Gn.scan F up n→F i<F (Gn.scan F up n))
 | 0,_=>⟨hu,Int.le_refl _,fun i hi=>absurd hi (Nat.not_lt_zero _),.inl rfl⟩
 | n+1,hn=>by
  obtain ⟨h1,h2,h3,h4⟩:=Gn.scan_is F up hu n (by omega)
  unfold Gn.scan
  by_cases hc:F n > F (Gn.scan F up n)
  ·rw [if_pos hc]
   refine ⟨by omega,by omega,fun i hi=>?_,.inr fun i hi=>?_⟩
   ·by_cases e:i=n
    ·rw [e];exact Int.le_refl _
    ·have:=h3 i (by omega);omega
   ·have:=h3 i hi;omega
  ·rw [if_neg hc]
   refine ⟨h1,h2,fun i hi=>?_,h4⟩
   by_cases e:i=n
   ·rw [e];omega
   ·exact h3 i (by omega)

theorem Gn.scan_far {c F:Nat→Int} {up:Nat} (hu:up<384) (h:Gn.Fld c up F):Gn.IsFar F (Gn.scan F up 384):=by
 obtain ⟨h1,h2,h3,h4⟩:=Gn.scan_is F up hu 384 (Nat.le_refl _)
 refine ⟨h1,h3,fun i hi=>?_⟩
 rcases h4 with h4 | h4
 ·rw [h4] at hi h3 ⊢
  have h0:F up=0:=(h.is.zero up hu).2 rfl
  have hle:=h3 i (by omega)
  have hne:F i≠0:=fun e=>by have:=(h.is.zero i (by omega)).1 e;omega
  omega
 ·exact h4 i hi

theorem Gn.shop_flag {d:Gn.Dice} {c:Nat→Int} (h2:∀i,c i≠5) {F:Nat→Int} {far:Nat} (h0:d 6 0 2=0) :
  (Gn.shop (Gr.upd c far 4) F (F far / 2)=none→Gr.find 384 (Gn.stocked d c F far) 5=-1)∧(∀k,k<384→Gn.shop (Gr.upd c far 4) F (F far / 2)=some k→Gr.find 384 (Gn.stocked d c F far) 5=(k:Int)):=by
 have h4:∀i,Gr.upd c far 4 i≠5:=fun i=>by
  unfold Gr.upd
  split
  ·omega
  ·exact h2 i
 constructor
 ·intro hn
  unfold Gn.stocked
  rw [if_pos h0,hn]
  exact Gn.find_no h4
 ·intro k hk hs
  unfold Gn.stocked
  rw [if_pos h0,hs]
  refine Gn.find_at hk fun i=>?_
  show Gr.upd (Gr.upd c far 4) k 5 i=5↔i=k
  by_cases e:i=k
  ·rw [e,Gr.upd_at]
   exact ⟨fun _=>rfl,fun _=>rfl⟩
  ·rw [Gr.upd_ne _ _ e]
   exact ⟨fun h=>absurd h (h4 i),fun h=>absurd h e⟩

theorem Gn.no_shop {d:Gn.Dice} {c:Nat→Int} (h2:∀i,c i≠5) {F:Nat→Int} {far:Nat} (h0:d 6 0 2≠0):Gr.find 384 (Gn.stocked d c F far) 5=-1:=by
 unfold Gn.stocked
 rw [if_neg h0]
 refine Gn.find_no fun i=>?_
 unfold Gr.upd
 split
 ·omega
 ·exact h2 i

theorem Gn.base_no5 (d:Gn.Dice) (i:Nat):Gn.base d i≠5:=by
 unfold Gn.base Gr.upd
 split
 ·omega
 ·have:=Gn.dug_2 d 5 i;omega

structure RefStr (w:World) (B G gF:Nat) (c F:Nat→Int) (wr:World):Prop where
 cells:Arr wr G 5 384 (Byts c)
 fld:Arr wr gF 3 384 (Ints F)
 res:Arr wr B 103 3 (fun _=>.slice none 0 0)
 grown:w.grownBy wr none
 o0:w.heap.size≤B
 o1:B<G
 o2:G<gF

theorem RefStr.on {w:World} {B G gF:Nat} {c F:Nat→Int} {wr wx:World} (h:RefStr w B G gF c F wr) (hg:wr.grownBy wx none):RefStr w B G gF c F wx :=
 ⟨h.cells.grown hg (by simp),h.fld.grown hg (by simp),h.res.grown hg (by simp),grown_none h.grown hg,h.o0,h.o1,h.o2⟩

theorem RefStr.put {w:World} {B G gF:Nat} {c F:Nat→Int} {wr:World} (h:RefStr w B G gF c F wr) (k:Nat) (v:Int):RefStr w B G gF (Gr.upd c k v) F (wr.setCell ⟨G,k,none⟩ (.int .u8 v)):=by
 have h0:=h.o0
 have h1:=h.o1
 have h2:=h.o2
 have hg:=gpt wr G k (.int .u8 v)
 exact ⟨h.cells.byte k v,h.fld.grown hg (by simp;omega),h.res.grown hg (by simp;omega),gow h.grown hg (fun n e=>by cases e;omega),h0,h1,h2⟩

set_option maxRecDepth 100000 in
set_option maxHeartbeats 8000000 in
theorem ref_stairs (s f:Int) (d:Gn.Dice) (hd:∀a b n,Gn.D s f a b n=d a b n) (hFr:Gn.Fair d) (h1f:1≤f) (h3f:f≤3) (w:World) (B G X Y:Nat) (wr:World)
  (hA:Arr wr G 5 384 (Byts (Gn.dug d 5))) (hX:Arr wr X 140 6 (fun j=>.int .i64 (Gn.mx d j))) (hY:Arr wr Y 140 6 (fun j=>.int .i64 (Gn.my d j))) (hR:Arr wr B 103 3 (fun _=>.slice none 0 0)) (hg:w.grownBy wr none) (o0:w.heap.size≤B) (o1:B<G) {t2 t3 t8 t9 Aa Ab Ac Ad Ae Af Ag Ah Ai Aj Ak Al Am Ao Ap Aq Ar As Au Av Aw Ax Ay Az AA AB AC AD AE AF AG AH AI AJ AK AL AM AN AO AP AQ AR AS AT AU AV AW AX AY AZ A0 A1 A2 A3 A4 A5 A6 A7 A8 A9 Ba Bb Bc Bd Be Bf Bg Bh Bi Bj Bk Bl Bm Bn Bo Bp Bq Br Bs Bt Bu Bv Bw Bx Bz BA BB BC BD BE BF BG BH BI BJ BK BL BM BN BO BP BQ BR BS BT BU BV BW BX BY BZ B0 B1 B2 B3 B4 B5 B6 B7 B8 B9 Ca Cb Cc Cd Ce Cf Cg Ch Ci Cj Ck Cl Cm Cn Co Cp Cq Cs Ct Cu Cv Cw Cx Cy Cz CA CB CC CD CE CF CG CH CI CJ CK CL CM CN CO CP CQ CR CS CT CU CV CW CX CY CZ C0 C1 C2 C3 C4 C5 C6 C7 C8 C9 Da Db Dc Dd De Df Dg Dh Di Dj Dk Dl Dm Dn Dp Dq Dr Ds Dt Du Dv Dw Dx Dy Dz DA DB DC DD DE DF DG DH DI DJ DK DL DM DN DO DP DQ DR DS DT DU DV DW DX DY DZ D1 D2 D3 D4 D5 D6 D7 D8 D9 Ea Eb Ec Ed Ee Ef Eg Eh Ei Ej Ek El Em Eo Ep Er Es Et Eu Ev Ew Ex Ey Ez EA EB EC ED EE EF EG EH EI EJ EK EL EM EN EO EP EQ ER ES ET EU EV EW EX EY EZ E0 E1 E2 E3 E4 E5 E6 E7 E8 E9 Fa Fb Fc Fd Fe Ff Fg Fh Fi Fj Fk Fm Fn Fo:Value} :
  Code.wp Tryz.prog ((Tryz.f52.body.map (cdrop 5)).getD .skip) (bodyPost Tryz.prog Tryz.f52 (RefDone w d f)) ⟨#[.int .i64 s,.int .i64 f,t2,t3,.pointer (some ⟨B,0,none⟩),.slice (some ⟨G,0,none⟩) 384 384,.pointer (some ⟨X,0,none⟩),.pointer (some ⟨Y,0,none⟩),t8,t9,Aa,Ab,Ac,Ad,Ae,Af,Ag,Ah,Ai,Aj,Ak,Al,Am,Ao,Ap,Aq,Ar,As,Au,Av,Aw,Ax,Ay,Az,AA,AB,AC,AD,AE,AF,AG,AH,AI,AJ,AK,AL,AM,AN,AO,AP,AQ,AR,AS,AT,AU,AV,AW,AX,AY,AZ,A0,A1,A2,A3,A4,A5,A6,A7,A8,A9,Ba,Bb,Bc,Bd,Be,Bf,Bg,Bh,Bi,Bj,Bk,Bl,Bm,Bn,Bo,Bp,Bq,Br,Bs,Bt,Bu,Bv,Bw,Bx,Bz,BA,BB,BC,BD,BE,BF,BG,BH,BI,BJ,BK,BL,BM,BN,BO,BP,BQ,BR,BS,BT,BU,BV,BW,BX,BY,BZ,B0,B1,B2,B3,B4,B5,B6,B7,B8,B9,Ca,Cb,Cc,Cd,Ce,Cf,Cg,Ch,Ci,Cj,Ck,Cl,Cm,Cn,Co,Cp,Cq,Cs,Ct,Cu,Cv,Cw,Cx,Cy,Cz,CA,CB,CC,CD,CE,CF,CG,CH,CI,CJ,CK,CL,CM,CN,CO,CP,CQ,CR,CS,CT,CU,CV,CW,CX,CY,CZ,C0,C1,C2,C3,C4,C5,C6,C7,C8,C9,Da,Db,Dc,Dd,De,Df,Dg,Dh,Di,Dj,Dk,Dl,Dm,Dn,Dp,Dq,Dr,Ds,Dt,Du,Dv,Dw,Dx,Dy,Dz,DA,DB,DC,DD,DE,DF,DG,DH,DI,DJ,DK,DL,DM,DN,DO,DP,DQ,DR,DS,DT,DU,DV,DW,DX,DY,DZ,D1,D2,D3,D4,D5,D6,D7,D8,D9,Ea,Eb,Ec,Ed,Ee,Ef,Eg,Eh,Ei,Ej,Ek,El,Em,Eo,Ep,Er,Es,Et,Eu,Ev,Ew,Ex,Ey,Ez,EA,EB,EC,ED,EE,EF,EG,EH,EI,EJ,EK,EL,EM,EN,EO,EP,EQ,ER,ES,ET,EU,EV,EW,EX,EY,EZ,E0,E1,E2,E3,E4,E5,E6,E7,E8,E9,Fa,Fb,Fc,Fd,Fe,Ff,Fg,Fh,Fi,Fj,Fk,Fm,Fn,Fo],[]⟩ wr:=by
 conv=>arg 2;whnf
 have hd':=hide hd
 have hFr':=hide hFr
 have hA':=hide hA
 have hR':=hide hR
 have hg':=hide hg
 have q1:=hX.cell (i:=0) (by omega)
 have q2:=hY.cell (i:=0) (by omega)
 have hue:=Gn.up_eq hFr
 have hul:=Gn.up_lt hFr
 have hbd:=Gn.mid_bd hFr 0
 have q3:=hA.cell hul
 have q4:=hA.free (Gn.up d)
 have hc5:=hide (Gn.base_5 d)
 have hbu:=hide (Gn.base_up d)
 have hAb:Hid (Arr (wr.setCell ⟨G,Gn.up d,none⟩ (.int .u8 3)) G 5 384 (Byts (Gn.base d))):=hA.byte (Gn.up d) 3
 obtain ⟨cb,hcb⟩:∃cb,cb=Gn.base d:=⟨_,rfl⟩
 rw [←hcb] at hAb hc5 hbu
 have hcb':=hide hcb
 obtain ⟨up,hup⟩:∃up,up=Gn.up d:=⟨_,rfl⟩
 have hup':=hide hup
 rw [←hup] at hue hul q3 q4 hAb hbu
 obtain ⟨ux,hux⟩:∃ux,ux=Gn.mx d 0:=⟨_,rfl⟩
 obtain ⟨uy,huy⟩:∃uy,uy=Gn.my d 0:=⟨_,rfl⟩
 rw [←hux,←huy] at hue hbd
 rw [←hux] at q1
 rw [←huy] at q2
 obtain ⟨b1,b2,b3,b4⟩:=hbd
 have hul':(up:Int)<384:=by omega
 have hG:G<wr.heap.size:=hA.lt
 clear hd hFr hA hX hY hR hg hcb hup hux huy
 go_upto_region 29 with fail
 have hg1:=gpt wr G up (.int .u8 3)
 have hR1:Hid (Arr (wr.setCell ⟨G,up,none⟩ (.int .u8 3)) B 103 3 (fun _=>.slice none 0 0)):=(uh hR').grown hg1 (by simp;omega)
 have hgw:Hid (w.grownBy (wr.setCell ⟨G,up,none⟩ (.int .u8 3)) none):=gow (uh hg') hg1 (fun n e=>by cases e;omega)
 have hG1:G<(wr.setCell ⟨G,up,none⟩ (.int .u8 3)).heap.size:=Nat.lt_of_lt_of_le hG hg1.size
 obtain ⟨w1,hw1⟩:∃w1,w1=wr.setCell ⟨G,up,none⟩ (.int .u8 3):=⟨_,rfl⟩
 rw [←hw1] at hAb hR1 hgw hG1 ⊢
 clear hg1 hw1 q1 q2 q3 q4 hA' hR' hg' hG
 clear wr
 go_wp2_with fail
 have hA4:=(uh hAb).alloc (.cells #[.int .i64 (up:Int)] 3)
 have hV:=Vec.one w1 w1.heap.size rfl (.int .i64 (up:Int)) 3 (Ints fun _=>(up:Int)) rfl
 refine (refField_any _ _ _ 0 1 _ _ _ cb (fun _=>(up:Int)) (fun _=>false) _ (hA4.vec _ hA4.lt (by decide)) (fun i=>by have:=uh hc5 i;omega) (Vec.none0 _ _ _ _) hV (fun _=>by constructor <;> omega)).mono ?_
 rintro e w5 ⟨F0,⟨g,rfl,hgs,hAF,hbel⟩,hfld⟩
 have hF:Gn.Fld cb up (fun i=>if i<384 then F0 i else 0):=Gn.Fld.make hfld
  (fun i hi=>by simp [Gr.openB])
  (fun i hi=>by
   constructor
   ·rintro ⟨_,j,_,he⟩
    have he':(up:Int)=(i:Int):=he
    omega
   ·rintro rfl
    exact ⟨by rw [uh hbu];rfl,0,by omega,rfl⟩)
 have hAF2:Arr w5 g 3 384 (Ints fun i=>if i<384 then F0 i else 0):=hAF.congr fun j hj=>by
  show Value.int .i64 (F0 j)=.int .i64 (if j<384 then F0 j else 0)
  rw [if_pos hj]
 obtain ⟨F,hFF⟩:∃F:Nat→Int,F=fun i=>if i<384 then F0 i else 0:=⟨_,rfl⟩
 rw [←hFF] at hF hAF2
 have hgr:=below_grown hbel
 have hgg:=grown_none (World.grownBy_alloc w1 (.cells #[.int .i64 (up:Int)] 3) none) hgr
 have hS5:Hid (RefStr w B G g cb F w5):=⟨(uh hAb).grown hgg (by simp),hAF2,(uh hR1).grown hgg (by simp),grown_none (uh hgw) hgg,o0,o1,by simp at hgs;omega⟩
 have hF':=hide hF
 have hsc:=hide (Gn.scan_far hul hF)
 have hnn:Hid (∀i,i<384→-1≤F i∧F i≤400):=fun i hi=>by
  have h1:=hF.is.lo i hi
  refine ⟨h1,?_⟩
  by_cases h0:0≤F i
  ·have:=fieldHigh hF.is (F i).toNat i hi (by omega);omega
  ·omega
 have hlt0:=hide (fun n hn=>Gn.scan_is F up hul n hn)
 clear hfld hAF hbel hgr hgg hV hFF hF hAF2 hAb hR1 hgw hgs hA4 hG1
 clear F0
 go_wp2_with fail
 go_loopw [22,23] (fun vf vi wr=>∃k:Nat,k≤384∧vi=.int .i64 (k:Int)∧vf=.int .i64 ((Gn.scan F up k:Nat):Int)∧RefStr w B G g cb F wr) (fun _ vi _=>400 - (intOf vi).toNat)
 case atStart=>exact ⟨0,by omega,rfl,rfl,uh hS5⟩
 case round =>
  clear hS5
  clear w5
  obtain ⟨k,hk,rfl,rfl,hS⟩:=hrel
  have hS1:=hide hS
  clear hS
  obtain ⟨m,hm⟩:∃m,m=Gn.scan F up k:=⟨_,rfl⟩
  have hm3:m<384:=by rw [hm];exact (uh hlt0 k hk).1
  have hm3':(m:Int)<384:=by omega
  rw [←hm]
  by_cases hlt:k<384
  ·have hlt':(k:Int)<384:=by omega
   have q1:wr.cell? ⟨g,k,none⟩=some (.int .i64 (F k)):=(uh hS1).fld.cell hlt
   have q2:wr.cell? ⟨g,m,none⟩=some (.int .i64 (F m)):=(uh hS1).fld.cell hm3
   have hstep:Hid (Gn.scan F up (k+1)=if F k > F m then k else m):=by
    show Gn.scan F up (k+1)=_
    rw [Gn.scan,←hm]
   have hdr:Hid (∀n,RefStr w B G g cb F (wr.drewN n)):=fun n=>(uh hS1).on (gdw (World.grownBy.refl _ none) n)
   have hm':=hide hm
   have HL:=hide hlt
   clear hm hlt hk hm3
   by_cases hgt:F m<F k
   ·have hst2:Hid (Gn.scan F up (k+1)=k):=by show _=_;rw [uh hstep,if_pos hgt]
    clear hstep
    go_wp2_with fail
    go_quiet (fail)
    go_wp2
    go_roundw
    case rel=>exact ⟨k+1,by have:=uh HL;omega,by go_num,by rw [uh hst2],uh hdr _⟩
    case measure=>simp [intOf];omega
   ·have hst2:Hid (Gn.scan F up (k+1)=m):=by show _=_;rw [uh hstep,if_neg (by omega)]
    clear hstep
    go_wp2_with fail
    go_quiet (fail)
    go_wp2
    go_roundw
    case rel=>exact ⟨k+1,by have:=uh HL;omega,by go_num,by rw [uh hst2],uh hdr _⟩
    case measure=>simp [intOf];omega
  ·have hge:¬(k:Int)<384:=by omega
   obtain rfl:k=384:=by omega
   have hfar:Gn.IsFar F m:=by rw [hm];exact uh hsc
   have hlev:Hid (Gn.IsLevel d (Gn.stocked d cb F m) F):=by
    have h1:=uh hF'
    rw [uh hup'] at h1
    rw [uh hcb'] at h1 ⊢
    exact ⟨m,h1,hfar,rfl⟩
   have hno5:Hid (∀i,cb i≠5):=by rw [uh hcb'];exact Gn.base_no5 d
   have hnm:0≤F m:=by
    have h0:=((uh hF').is.zero up hul).2 rfl
    have:=hfar.top up hul
    omega
   have hnx:F m≤400:=(uh hnn m hm3).2
   have hwm:IntKind.i64.wrap (F m / 2)=F m / 2:=by rw [IntKind.wrap_i64];omega
   have q1:=(uh hS1).cells.cell hm3
   have q2:=(uh hS1).cells.free m
   have hS4:=hide ((uh hS1).put m 4)
   obtain ⟨c2,hc2⟩:∃c2,c2=Gr.upd cb m 4:=⟨_,rfl⟩
   rw [←hc2] at hS4
   have hc2':=hide hc2
   have HM:=hide hm3
   have h25:Hid (∀i,0≤c2 i∧c2 i≤5):=by rw [hc2];exact Gn.upd_5 (uh hc5) (by omega)
   clear hlt hk hm hfar hm3 hc2 hlt0 hsc
   go_upto_region 38 with fail
   rename_i K1 h1 K2 h2
   have hK0:=hide h1
   clear h1
   obtain ⟨w4,hw4⟩:∃w4,w4=wr.setCell ⟨G,m,none⟩ (.int .u8 4):=⟨_,rfl⟩
   rw [←hw4] at hS4 ⊢
   clear hw4 q1 q2 hS1 hge
   have hdie:=refD_any s f 6 0 2 w4 (by omega)
   rw [uh hd'] at hdie
   obtain ⟨D0,hD0⟩:∃x,x=d 6 0 2:=⟨_,rfl⟩
   rw [←hD0] at hdie
   have hD0':=hide hD0
   clear hD0
   go_wp2_with fail
   refine hdie.mono ?_
   rintro e w7 ⟨rfl,hg7⟩
   have hS7:=hide ((uh hS4).on hg7)
   clear hdie hg7 hS4
   by_cases hz:D0=0
   ·have hz':(D0 == 0)=true:=by simpa using hz
    have hzz:=hide (show d 6 0 2=0 by rw [←uh hD0'];exact hz)
    clear hz
    go_wp2_with fail
    go_loopw [24,25] (fun vs vi wr=>∃k:Nat,k≤384∧vi=.int .i64 (k:Int)∧((vs=.bool false∧RefStr w B G g c2 F wr∧∀j,j<k→(F j == F m / 2 && c2 j == 1)=false)∨(vs=.bool true∧∃q,q<384∧Gn.shop c2 F (F m / 2)=some q∧RefStr w B G g (Gr.upd c2 q 5) F wr))) (fun _ vi _=>400 - (intOf vi).toNat)
    case atStart=>exact ⟨0,by omega,rfl,.inl ⟨rfl,uh hS7,fun j hj=>by omega⟩⟩
    case round =>
     clear hS7
     clear w7
     obtain ⟨k,hk,rfl,hcase⟩:=hrel
     rcases hcase with ⟨rfl,hS,hno⟩ | ⟨rfl,q,hq,hsh,hS⟩
     ·have hS1:=hide hS
      have hno':=hide hno
      clear hS hno
      by_cases hlt:k<384
      ·have hlt':(k:Int)<384:=by omega
       have q1:wr.cell? ⟨g,k,none⟩=some (.int .i64 (F k)):=(uh hS1).fld.cell hlt
       have q2:wr.cell? ⟨g,m,none⟩=some (.int .i64 (F m)):=(uh hS1).fld.cell (uh HM)
       have q3:wr.cell? ⟨G,k,none⟩=some (.int .u8 (c2 k)):=(uh hS1).cells.cell hlt
       have hdr:Hid (∀n,RefStr w B G g c2 F (wr.drewN n)):=fun n=>(uh hS1).on (gdw (World.grownBy.refl _ none) n)
       have HL:=hide hlt
       clear hlt hk
       by_cases e2:(c2 k == 1)=true
       ·by_cases e1:(F k == F m / 2)=true
        ·have hsh:=hide (Gn.shop_some (c:=c2) (F:=F) (v:=F m / 2) (uh HL) (by rw [e1,e2];rfl) (uh hno'))
         have hq4:∀n,(wr.drewN n).cell? ⟨G,k,none⟩=some (.int .u8 (c2 k)):=fun n=>(uh hdr n).cells.cell (uh HL)
         have hq5:∀n,(wr.drewN n).frozen? ⟨G,k,none⟩=false:=fun n=>(uh hdr n).cells.free k
         have hput:Hid (∀n,RefStr w B G g (Gr.upd c2 k 5) F ((wr.drewN n).setCell ⟨G,k,none⟩ (.int .u8 5))):=fun n=>(uh hdr n).put k 5
         go_wp2_with fail
         go_quiet (fail)
         go_wp2
         go_roundw
         case rel=>exact ⟨k+1,by have:=uh HL;omega,by go_num,.inr ⟨rfl,k,uh HL,uh hsh,uh hput _⟩⟩
         case measure=>simp [intOf];omega
        ·have e1':(F k == F m / 2)=false:=by simpa using e1
         clear e1
         go_wp2_with fail
         go_quiet (fail)
         go_wp2
         go_roundw
         case rel =>
          refine ⟨k+1,by have:=uh HL;omega,by go_num,.inl ⟨rfl,uh hdr _,fun j hj=>?_⟩⟩
          by_cases hjk:j=k
          ·subst hjk;rw [e1'];rfl
          ·exact uh hno' j (by omega)
         case measure=>simp [intOf];omega
       ·have e2':(c2 k == 1)=false:=by simpa using e2
        clear e2
        go_wp2_with fail
        go_quiet (fail)
        go_wp2
        go_roundw
        case rel =>
         refine ⟨k+1,by have:=uh HL;omega,by go_num,.inl ⟨rfl,uh hdr _,fun j hj=>?_⟩⟩
         by_cases hjk:j=k
         ·subst hjk;rw [e2',Bool.and_false]
         ·exact uh hno' j (by omega)
        case measure=>simp [intOf];omega
      ·have hge:¬(k:Int)<384:=by omega
       obtain rfl:k=384:=by omega
       have hsh:=Gn.shop_none (c:=c2) (F:=F) (v:=F m / 2) (uh hno')
       have hst:Hid (Gn.stocked d cb F m=c2):=by
        show Gn.stocked d cb F m=c2
        unfold Gn.stocked
        rw [if_pos (uh hzz),←uh hc2',hsh]
        rfl
       have hfl:Hid (false=decide (0≤Gr.find 384 (Gn.stocked d cb F m) 5)):=by
        have h:=(Gn.shop_flag (uh hno5) (F:=F) (far:=m) (uh hzz)).1 (by rw [←uh hc2'];exact hsh)
        show false=_
        rw [h]
        rfl
       clear hsh hk hlt
       go_wp2_with fail
       exact uh hK0 _ _ (ref_mons s f d (uh hd') (uh hFr') h1f h3f w B G g (Gn.stocked d cb F m) F false (uh hlev) (uh hfl) wr (by rw [uh hst];exact (uh hS1).cells) (uh hS1).fld (uh hS1).res (uh hS1).grown (uh hS1).o0 (uh hS1).o1 (uh hS1).o2)
     ·have hS1:=hide hS
      have hst:Hid (Gn.stocked d cb F m=Gr.upd c2 q 5):=by
       show Gn.stocked d cb F m=Gr.upd c2 q 5
       unfold Gn.stocked
       rw [if_pos (uh hzz),←uh hc2',hsh]
       rfl
      have hfl:Hid (true=decide (0≤Gr.find 384 (Gn.stocked d cb F m) 5)):=by
       have h:=(Gn.shop_flag (uh hno5) (F:=F) (far:=m) (uh hzz)).2 q hq (by rw [←uh hc2'];exact hsh)
       show true=_
       rw [h]
       exact (decide_eq_true (by omega)).symm
      clear hS hsh
      by_cases hlt:(k:Int)<384
      all_goals
       go_wp2_with fail
       exact uh hK0 _ _ (ref_mons s f d (uh hd') (uh hFr') h1f h3f w B G g (Gn.stocked d cb F m) F true (uh hlev) (uh hfl) wr (by rw [uh hst];exact (uh hS1).cells) (uh hS1).fld (uh hS1).res (uh hS1).grown (uh hS1).o0 (uh hS1).o1 (uh hS1).o2)
   ·have hz':(D0 == 0)=false:=by simpa using hz
    have hst:Hid (Gn.stocked d cb F m=c2):=by
     show Gn.stocked d cb F m=c2
     unfold Gn.stocked
     rw [if_neg (by rw [←uh hD0'];exact hz)]
     exact (uh hc2').symm
    have hfl:Hid (false=decide (0≤Gr.find 384 (Gn.stocked d cb F m) 5)):=by
     have h:=Gn.no_shop (uh hno5) (F:=F) (far:=m) (d:=d) (by rw [←uh hD0'];exact hz)
     show false=_
     rw [h]
     rfl
    clear hz
    go_wp2_with fail
    exact uh hK0 _ _ (ref_mons s f d (uh hd') (uh hFr') h1f h3f w B G g (Gn.stocked d cb F m) F false (uh hlev) (uh hfl) w7 (by rw [uh hst];exact (uh hS7).cells) (uh hS7).fld (uh hS7).res (uh hS7).grown (uh hS7).o0 (uh hS7).o1 (uh hS7).o2)


open Go.RowKit

structure RefCor (w:World) (B G X Y:Nat) (d:Gn.Dice) (c:Nat→Int) (wr:World):Prop where
 cells:Arr wr G 5 384 (Byts c)
 xs:Arr wr X 140 6 (fun j=>.int .i64 (Gn.mx d j))
 ys:Arr wr Y 140 6 (fun j=>.int .i64 (Gn.my d j))
 res:Arr wr B 103 3 (fun _=>.slice none 0 0)
 grown:w.grownBy wr none
 o0:w.heap.size≤B
 o1:B<G
 o2:G<X
 o3:X<Y

theorem RefCor.on {w:World} {B G X Y:Nat} {d:Gn.Dice} {c:Nat→Int} {wr wx:World} (h:RefCor w B G X Y d c wr) (hg:wr.grownBy wx none):RefCor w B G X Y d c wx :=
 ⟨h.cells.grown hg (by simp),h.xs.grown hg (by simp),h.ys.grown hg (by simp),h.res.grown hg (by simp),grown_none h.grown hg,h.o0,h.o1,h.o2,h.o3⟩

theorem RefCor.dig {w:World} {B G X Y:Nat} {d:Gn.Dice} {c c':Nat→Int} {wr wx:World} (h:RefCor w B G X Y d c wr) (hA:Arr wx G 5 384 (Byts c')) (hg:wr.grownBy wx (some G)):RefCor w B G X Y d c' wx:=by
 have h0:=h.o0
 have h1:=h.o1
 have h2:=h.o2
 have h3:=h.o3
 exact ⟨hA,h.xs.grown hg (by simp;omega),h.ys.grown hg (by simp;omega),h.res.grown hg (by simp;omega),gow h.grown hg (fun n e=>by cases e;omega),h0,h1,h2,h3⟩

set_option maxRecDepth 100000 in
set_option maxHeartbeats 8000000 in
theorem ref_corr (s f:Int) (d:Gn.Dice) (hd:∀a b n,Gn.D s f a b n=d a b n) (hFr:Gn.Fair d) (h1f:1≤f) (h3f:f≤3) (w:World) (B G X Y:Nat) (wr:World)
  (hC:RefCor w B G X Y d (Gn.dug d 0) wr) {t2 t3 t8 t9 Aa Ab Ac Ad Ae Af Ag Ah Ai Aj Ak Al Am Ao Ap Aq Ar As Au Av Aw Ax Ay Az AA AB AC AD AE AF AG AH AI AJ AK AL AM AN AO AP AQ AR AS AT AU AV AW AX AY AZ A0 A1 A2 A3 A4 A5 A6 A7 A8 A9 Ba Bb Bc Bd Be Bf Bg Bh Bi Bj Bk Bl Bm Bn Bo Bp Bq Br Bs Bt Bu Bv Bw Bx Bz BA BB BC BD BE BF BG BH BI BJ BK BL BM BN BO BP BQ BR BS BT BU BV BW BX BY BZ B0 B1 B2 B3 B4 B5 B6 B7 B8 B9 Ca Cb Cc Cd Ce Cf Cg Ch Ci Cj Ck Cl Cm Cn Co Cp Cq Cs Ct Cu Cv Cw Cx Cy Cz CA CB CC CD CE CF CG CH CI CJ CK CL CM CN CO CP CQ CR CS CT CU CV CW CX CY CZ C0 C1 C2 C3 C4 C5 C6 C7 C8 C9 Da Db Dc Dd De Df Dg Dh Di Dj Dk Dl Dm Dn Dp Dq Dr Ds Dt Du Dv Dw Dx Dy Dz DA DB DC DD DE DF DG DH DI DJ DK DL DM DN DO DP DQ DR DS DT DU DV DW DX DY DZ D1 D2 D3 D4 D5 D6 D7 D8 D9 Ea Eb Ec Ed Ee Ef Eg Eh Ei Ej Ek El Em Eo Ep Er Es Et Eu Ev Ew Ex Ey Ez EA EB EC ED EE EF EG EH EI EJ EK EL EM EN EO EP EQ ER ES ET EU EV EW EX EY EZ E0 E1 E2 E3 E4 E5 E6 E7 E8 E9 Fa Fb Fc Fd Fe Ff Fg Fh Fi Fj Fk Fm Fn Fo:Value} :
  Code.wp Tryz.prog ((Tryz.f52.body.map (cdrop 4)).getD .skip) (bodyPost Tryz.prog Tryz.f52 (RefDone w d f)) ⟨#[.int .i64 s,.int .i64 f,t2,t3,.pointer (some ⟨B,0,none⟩),.slice (some ⟨G,0,none⟩) 384 384,.pointer (some ⟨X,0,none⟩),.pointer (some ⟨Y,0,none⟩),t8,t9,Aa,Ab,Ac,Ad,Ae,Af,Ag,Ah,Ai,Aj,Ak,Al,Am,Ao,Ap,Aq,Ar,As,Au,Av,Aw,Ax,Ay,Az,AA,AB,AC,AD,AE,AF,AG,AH,AI,AJ,AK,AL,AM,AN,AO,AP,AQ,AR,AS,AT,AU,AV,AW,AX,AY,AZ,A0,A1,A2,A3,A4,A5,A6,A7,A8,A9,Ba,Bb,Bc,Bd,Be,Bf,Bg,Bh,Bi,Bj,Bk,Bl,Bm,Bn,Bo,Bp,Bq,Br,Bs,Bt,Bu,Bv,Bw,Bx,Bz,BA,BB,BC,BD,BE,BF,BG,BH,BI,BJ,BK,BL,BM,BN,BO,BP,BQ,BR,BS,BT,BU,BV,BW,BX,BY,BZ,B0,B1,B2,B3,B4,B5,B6,B7,B8,B9,Ca,Cb,Cc,Cd,Ce,Cf,Cg,Ch,Ci,Cj,Ck,Cl,Cm,Cn,Co,Cp,Cq,Cs,Ct,Cu,Cv,Cw,Cx,Cy,Cz,CA,CB,CC,CD,CE,CF,CG,CH,CI,CJ,CK,CL,CM,CN,CO,CP,CQ,CR,CS,CT,CU,CV,CW,CX,CY,CZ,C0,C1,C2,C3,C4,C5,C6,C7,C8,C9,Da,Db,Dc,Dd,De,Df,Dg,Dh,Di,Dj,Dk,Dl,Dm,Dn,Dp,Dq,Dr,Ds,Dt,Du,Dv,Dw,Dx,Dy,Dz,DA,DB,DC,DD,DE,DF,DG,DH,DI,DJ,DK,DL,DM,DN,DO,DP,DQ,DR,DS,DT,DU,DV,DW,DX,DY,DZ,D1,D2,D3,D4,D5,D6,D7,D8,D9,Ea,Eb,Ec,Ed,Ee,Ef,Eg,Eh,Ei,Ej,Ek,El,Em,Eo,Ep,Er,Es,Et,Eu,Ev,Ew,Ex,Ey,Ez,EA,EB,EC,ED,EE,EF,EG,EH,EI,EJ,EK,EL,EM,EN,EO,EP,EQ,ER,ES,ET,EU,EV,EW,EX,EY,EZ,E0,E1,E2,E3,E4,E5,E6,E7,E8,E9,Fa,Fb,Fc,Fd,Fe,Ff,Fg,Fh,Fi,Fj,Fk,Fm,Fn,Fo],[]⟩ wr:=by
 conv=>arg 2;whnf
 have hd':=hide hd
 have hFr':=hide hFr
 have hC':=hide hC
 clear hd hFr hC
 go_wp2_with fail
 go_loopw [15] (fun vi wr=>∃j k:Nat,k≤5∧j=k+1∧vi=.int .i64 (j:Int)∧RefCor w B G X Y d (Gn.dug d k) wr) (fun vi _=>6 - (intOf vi).toNat)
 case atStart=>exact ⟨1,0,by omega,rfl,rfl,uh hC'⟩
 case round =>
  clear hC'
  rename_i hKK
  have hK0:=hide hKK
  clear hKK
  obtain ⟨j,k,hk,hj,rfl,hC⟩:=hrel
  have hC1:=hide hC
  clear hC
  by_cases hlt:k<5
  ·have hlt':(j:Int)<6:=by omega
   have hjk:(j:Int) - 1=(k:Int):=by omega
   have hk2:(k:Int)<6:=by omega
   have hwr:IntKind.i64.wrap ((j:Int) - 1)=(k:Int):=by rw [hjk,IntKind.wrap_i64];omega
   have hwr2:IntKind.i64.wrap (k:Int)=(k:Int):=by rw [IntKind.wrap_i64];omega
   obtain ⟨D0,hD0⟩:∃x,x=d (j:Int) 4 2:=⟨_,rfl⟩
   obtain ⟨x0,hx0⟩:∃x,x=Gn.mx d k:=⟨_,rfl⟩
   obtain ⟨y0,hy0⟩:∃x,x=Gn.my d k:=⟨_,rfl⟩
   obtain ⟨tx,hx1⟩:∃x,x=Gn.mx d j:=⟨_,rfl⟩
   obtain ⟨ty,hy1⟩:∃x,x=Gn.my d j:=⟨_,rfl⟩
   have b0:=Gn.mid_bd (uh hFr') k
   have b1:=Gn.mid_bd (uh hFr') j
   rw [←hx0,←hy0] at b0
   rw [←hx1,←hy1] at b1
   obtain ⟨a1,a2,a3,a4⟩:=b0
   obtain ⟨a5,a6,a7,a8⟩:=b1
   have keep:Hid (∀x c,RefCor w B G X Y d c x→(x.cell? ⟨X,j,none⟩=some (.int .i64 tx)∧x.cell? ⟨Y,j,none⟩=some (.int .i64 ty))):=fun x c hx=>by
    rw [hx1,hy1]
    exact ⟨hx.xs.cell (by omega),hx.ys.cell (by omega)⟩
   have p1:wr.cell? ⟨X,k,none⟩=some (.int .i64 x0):=by rw [hx0];exact (uh hC1).xs.cell (by omega)
   have p2:wr.cell? ⟨Y,k,none⟩=some (.int .i64 y0):=by rw [hy0];exact (uh hC1).ys.cell (by omega)
   obtain ⟨c0,hc0⟩:∃c0:Nat,y0*24+x0=(c0:Int):=⟨(y0*24+x0).toNat,by omega⟩
   have hdr:Hid (∀n,RefCor w B G X Y d (Gn.dug d k) (wr.drewN n)):=fun n=>(uh hC1).on (gdw (World.grownBy.refl _ none) n)
   have hdg:Hid (∀n,Calls Tryz.prog 84 #[.slice (some ⟨G,0,none⟩) 384 384,.int .i64 x0,.int .i64 y0,.bool false] (wr.drewN n) fun e w'=>e=.returned (.bool (Gn.digAt (Gn.dug d k,false) c0).2)∧Arr w' G 5 384 (Byts (Gn.digAt (Gn.dug d k,false) c0).1)∧(wr.drewN n).grownBy w' (some G)) :=
    fun n=>refDig_any G (Gn.dug d k,false) x0 y0 c0 (wr.drewN n) (uh hdr n).cells (Gn.dug_5 d k) (by omega) hc0
   obtain ⟨FIN,hFIN⟩:∃F,F=Gn.digRun tx ty (D0 == 0) (Gn.steps x0 y0 tx ty) (Gn.dug d k,false) x0 y0:=⟨_,rfl⟩
   have hdug:Hid (Gn.dug d j=FIN.1):=by
    show Gn.dug d j=FIN.1
    rw [hFIN,hx0,hy0,hx1,hy1,hD0,hj]
    rfl
   have hFIN':=hide hFIN
   have hdie:=hide (fun x=>refD_any s f (j:Int) 4 2 x (by omega))
   have hD0':=hide hD0
   have hc0':=hide hc0
   have h5':Hid (∀i,0≤Gn.dug d k i∧Gn.dug d k i≤5):=Gn.dug_5 d k
   have hj':=hide hj
   clear hD0 hx0 hy0 hx1 hy1 hFIN hj hlt hk
   go_wp2_with fail
   go_quiet (fail)
   go_wp2_with fail
   refine (uh hdg _).mono ?_
   rintro e wd ⟨rfl,hAd,hgd⟩
   have hC2:=hide ((uh hdr _).dig hAd hgd)
   clear hAd hgd hdg hdr p1 p2
   go_wp2_with fail
   have hdie2:=uh hdie wd
   rw [uh hd',←uh hD0'] at hdie2
   refine hdie2.mono ?_
   rintro e we ⟨rfl,hge⟩
   have hC3:=hide ((uh hC2).on hge)
   clear hge hC2 hdie2 hdie hC1
   clear wd
   obtain ⟨first,hfst⟩:∃b,(D0 == 0)=b:=⟨_,rfl⟩
   have hFIN2:Hid (Gn.digRun tx ty first (Gn.steps x0 y0 tx ty) (Gn.dug d k,false) x0 y0=FIN):=by
    rw [←hfst]
    exact (uh hFIN').symm
   clear hFIN'
   go_wp2_with fail
   go_loopw [16,17,18] (fun vx vy vd wr=>∃(x y:Int) (st:(Nat→Int) × Bool) (c0:Nat),vx=.int .i64 x∧vy=.int .i64 y∧vd=.bool (Gn.digAt st c0).2∧((1≤x∧x≤22)∧1≤y∧y≤14)∧y*24+x=(c0:Int)∧(∀i,0≤st.1 i∧st.1 i≤5)∧Gn.digRun tx ty first (Gn.steps x y tx ty) st x y=FIN∧RefCor w B G X Y d (Gn.digAt st c0).1 wr) (fun vx vy _ _=>Gn.steps (intOf vx) (intOf vy) tx ty)
   case atStart=>exact ⟨x0,y0,(Gn.dug d k,false),c0,rfl,rfl,rfl,⟨⟨a1,a2⟩,a3,a4⟩,uh hc0',uh h5',uh hFIN2,uh hC3⟩
   case round =>
    clear hC3 hFIN2 hfst
    obtain ⟨x,y,st,q0,rfl,rfl,rfl,⟨⟨e1,e2⟩,e3,e4⟩,hq0,h5,hrun,hC⟩:=hrel
    have hC1:=hide hC
    have hrun':=hide hrun
    have h5s:=hide h5
    have hq0':=hide hq0
    obtain ⟨p1,p2⟩:=uh keep _ _ hC
    obtain ⟨dr,hdr⟩:∃b,b=(Gn.digAt st q0).2:=⟨_,rfl⟩
    rw [←hdr]
    have hdr':=hide hdr
    clear hC hrun h5 hq0 hdr
    by_cases hx:x=tx
    ·by_cases hy:y=ty
     ·have hend:Hid (FIN=Gn.digAt st q0):=by
       have h:=uh hrun'
       rw [Gn.run_end hx hy (uh hq0')] at h
       exact h.symm
      have hfin:Hid (RefCor w B G X Y d (Gn.dug d j) wr):=by rw [uh hdug,uh hend];exact uh hC1
      have hx':(x != tx)=false:=by simpa using hx
      have hy':(y != ty)=false:=by simpa using hy
      clear hx hy
      go_wp2
      go_roundw
      case rel=>exact ⟨j+1,j,by omega,rfl,by go_num,uh hfin⟩
      case measure=>simp [intOf];omega
     ·have hne:Hid (¬(x=tx∧y=ty)):=fun h=>hy h.2
      have hnt:Hid (y≠ty):=hy
      have hx':(x != tx)=false:=by simpa using hx
      have hy':(y != ty)=true:=by simpa using hy
      have hyq:(y == ty)=false:=by simpa using hy
      clear hx hy
      cases first with
      | true =>
       have ew:Gn.way x y tx ty true=false:=by unfold Gn.way;rw [hyq,hx'];rfl
       have eX:Gn.stepX x y tx ty true=x:=by unfold Gn.stepX;rw [ew];rfl
       have eY:Gn.stepY x y tx ty true=Gn.to1 y ty:=by unfold Gn.stepY;rw [ew];rfl
       have hrun2:Hid (Gn.digRun tx ty true (Gn.steps (x) (Gn.to1 y ty) tx ty) (Gn.digAt st q0) (x) (Gn.to1 y ty)=FIN):=by
        have h:=uh hrun'
        rw [Gn.run_on (c:=q0) (uh hne) (uh hq0'),eX,eY] at h
        exact h
       have hbd2:(1≤(x)∧(x)≤22)∧1≤(Gn.to1 y ty)∧(Gn.to1 y ty)≤14:=by
        have h:=Gn.step_bd x y tx ty true ⟨⟨e1,e2⟩,e3,e4⟩ ⟨⟨a5,a6⟩,a7,a8⟩
        rw [eX,eY] at h
        exact h
       have hless:Gn.steps (x) (Gn.to1 y ty) tx ty+1=Gn.steps x y tx ty:=by
        have h:=Gn.step_less x y tx ty true (uh hne)
        rw [eX,eY] at h
        exact h
       obtain ⟨z,hz⟩:∃z,z=Gn.to1 y ty:=⟨_,rfl⟩
       rw [←hz] at hrun2 hbd2 hless
       have htw:=toward_any y ty wr (uh hnt) (by omega) (by omega)
       rw [←hz] at htw
       have htw':=hide htw
       obtain ⟨c1,hc1⟩:∃c1:Nat,z*24+x=(c1:Int):=⟨(z*24+x).toNat,by omega⟩
       have hdg:=hide (refDig_any G (Gn.digAt st q0) x z c1 wr (uh hC1).cells (Gn.digAt_5 (uh h5s)) hbd2 hc1)
       rw [←uh hdr'] at hdg
       have hc1':=hide hc1
       have hless':=hide hless
       obtain ⟨⟨g1,g2⟩,g3,g4⟩:=hbd2
       clear eX eY ew hz htw hc1 hless
       go_wp2_with fail
       refine (uh htw').mono ?_
       rintro e w' ⟨rfl,hw⟩
       subst w'
       go_wp2_with fail
       refine (uh hdg).mono ?_
       rintro e wy ⟨rfl,hAy,hgy⟩
       have hC2:=hide ((uh hC1).dig hAy hgy)
       clear hAy hgy hdg htw' hC1
       go_wp2
       go_roundw
       case rel=>exact ⟨x,z,Gn.digAt st q0,c1,rfl,rfl,rfl,⟨⟨g1,g2⟩,g3,g4⟩,uh hc1',Gn.digAt_5 (uh h5s),uh hrun2,uh hC2⟩
       case measure=>have:=uh hless';simp [intOf];omega
      | false =>
       have ew:Gn.way x y tx ty false=false:=by unfold Gn.way;rw [hyq];rfl
       have eX:Gn.stepX x y tx ty false=x:=by unfold Gn.stepX;rw [ew];rfl
       have eY:Gn.stepY x y tx ty false=Gn.to1 y ty:=by unfold Gn.stepY;rw [ew];rfl
       have hrun2:Hid (Gn.digRun tx ty false (Gn.steps (x) (Gn.to1 y ty) tx ty) (Gn.digAt st q0) (x) (Gn.to1 y ty)=FIN):=by
        have h:=uh hrun'
        rw [Gn.run_on (c:=q0) (uh hne) (uh hq0'),eX,eY] at h
        exact h
       have hbd2:(1≤(x)∧(x)≤22)∧1≤(Gn.to1 y ty)∧(Gn.to1 y ty)≤14:=by
        have h:=Gn.step_bd x y tx ty false ⟨⟨e1,e2⟩,e3,e4⟩ ⟨⟨a5,a6⟩,a7,a8⟩
        rw [eX,eY] at h
        exact h
       have hless:Gn.steps (x) (Gn.to1 y ty) tx ty+1=Gn.steps x y tx ty:=by
        have h:=Gn.step_less x y tx ty false (uh hne)
        rw [eX,eY] at h
        exact h
       obtain ⟨z,hz⟩:∃z,z=Gn.to1 y ty:=⟨_,rfl⟩
       rw [←hz] at hrun2 hbd2 hless
       have htw:=toward_any y ty wr (uh hnt) (by omega) (by omega)
       rw [←hz] at htw
       have htw':=hide htw
       obtain ⟨c1,hc1⟩:∃c1:Nat,z*24+x=(c1:Int):=⟨(z*24+x).toNat,by omega⟩
       have hdg:=hide (refDig_any G (Gn.digAt st q0) x z c1 wr (uh hC1).cells (Gn.digAt_5 (uh h5s)) hbd2 hc1)
       rw [←uh hdr'] at hdg
       have hc1':=hide hc1
       have hless':=hide hless
       obtain ⟨⟨g1,g2⟩,g3,g4⟩:=hbd2
       clear eX eY ew hz htw hc1 hless
       go_wp2_with fail
       refine (uh htw').mono ?_
       rintro e w' ⟨rfl,hw⟩
       subst w'
       go_wp2_with fail
       refine (uh hdg).mono ?_
       rintro e wy ⟨rfl,hAy,hgy⟩
       have hC2:=hide ((uh hC1).dig hAy hgy)
       clear hAy hgy hdg htw' hC1
       go_wp2
       go_roundw
       case rel=>exact ⟨x,z,Gn.digAt st q0,c1,rfl,rfl,rfl,⟨⟨g1,g2⟩,g3,g4⟩,uh hc1',Gn.digAt_5 (uh h5s),uh hrun2,uh hC2⟩
       case measure=>have:=uh hless';simp [intOf];omega
    ·have hne:Hid (¬(x=tx∧y=ty)):=fun h=>hx h.1
     have hx':(x != tx)=true:=by simpa using hx
     have hnx:=hide hx
     clear hx
     cases first with
     | true =>
      have hnt:Hid (x≠tx):=hnx
      have ew:Gn.way x y tx ty true=true:=by unfold Gn.way;rw [hx',Bool.true_and,Bool.or_true]
      have eX:Gn.stepX x y tx ty true=Gn.to1 x tx:=by unfold Gn.stepX;rw [ew];rfl
      have eY:Gn.stepY x y tx ty true=y:=by unfold Gn.stepY;rw [ew];rfl
      have hrun2:Hid (Gn.digRun tx ty true (Gn.steps (Gn.to1 x tx) (y) tx ty) (Gn.digAt st q0) (Gn.to1 x tx) (y)=FIN):=by
       have h:=uh hrun'
       rw [Gn.run_on (c:=q0) (uh hne) (uh hq0'),eX,eY] at h
       exact h
      have hbd2:(1≤(Gn.to1 x tx)∧(Gn.to1 x tx)≤22)∧1≤(y)∧(y)≤14:=by
       have h:=Gn.step_bd x y tx ty true ⟨⟨e1,e2⟩,e3,e4⟩ ⟨⟨a5,a6⟩,a7,a8⟩
       rw [eX,eY] at h
       exact h
      have hless:Gn.steps (Gn.to1 x tx) (y) tx ty+1=Gn.steps x y tx ty:=by
       have h:=Gn.step_less x y tx ty true (uh hne)
       rw [eX,eY] at h
       exact h
      obtain ⟨z,hz⟩:∃z,z=Gn.to1 x tx:=⟨_,rfl⟩
      rw [←hz] at hrun2 hbd2 hless
      have htw:=toward_any x tx wr (uh hnt) (by omega) (by omega)
      rw [←hz] at htw
      have htw':=hide htw
      obtain ⟨c1,hc1⟩:∃c1:Nat,y*24+z=(c1:Int):=⟨(y*24+z).toNat,by omega⟩
      have hdg:=hide (refDig_any G (Gn.digAt st q0) z y c1 wr (uh hC1).cells (Gn.digAt_5 (uh h5s)) hbd2 hc1)
      rw [←uh hdr'] at hdg
      have hc1':=hide hc1
      have hless':=hide hless
      obtain ⟨⟨g1,g2⟩,g3,g4⟩:=hbd2
      clear eX eY ew hz htw hc1 hless
      go_wp2_with fail
      refine (uh htw').mono ?_
      rintro e w' ⟨rfl,hw⟩
      subst w'
      go_wp2_with fail
      refine (uh hdg).mono ?_
      rintro e wy ⟨rfl,hAy,hgy⟩
      have hC2:=hide ((uh hC1).dig hAy hgy)
      clear hAy hgy hdg htw' hC1
      go_wp2
      go_roundw
      case rel=>exact ⟨z,y,Gn.digAt st q0,c1,rfl,rfl,rfl,⟨⟨g1,g2⟩,g3,g4⟩,uh hc1',Gn.digAt_5 (uh h5s),uh hrun2,uh hC2⟩
      case measure=>have:=uh hless';simp [intOf];omega
     | false =>
      by_cases hy:y=ty
      ·have hnt:Hid (x≠tx):=hnx
       have hyq:(y == ty)=true:=by simpa using hy
       clear hy
       have ew:Gn.way x y tx ty false=true:=by unfold Gn.way;rw [hyq];rfl
       have eX:Gn.stepX x y tx ty false=Gn.to1 x tx:=by unfold Gn.stepX;rw [ew];rfl
       have eY:Gn.stepY x y tx ty false=y:=by unfold Gn.stepY;rw [ew];rfl
       have hrun2:Hid (Gn.digRun tx ty false (Gn.steps (Gn.to1 x tx) (y) tx ty) (Gn.digAt st q0) (Gn.to1 x tx) (y)=FIN):=by
        have h:=uh hrun'
        rw [Gn.run_on (c:=q0) (uh hne) (uh hq0'),eX,eY] at h
        exact h
       have hbd2:(1≤(Gn.to1 x tx)∧(Gn.to1 x tx)≤22)∧1≤(y)∧(y)≤14:=by
        have h:=Gn.step_bd x y tx ty false ⟨⟨e1,e2⟩,e3,e4⟩ ⟨⟨a5,a6⟩,a7,a8⟩
        rw [eX,eY] at h
        exact h
       have hless:Gn.steps (Gn.to1 x tx) (y) tx ty+1=Gn.steps x y tx ty:=by
        have h:=Gn.step_less x y tx ty false (uh hne)
        rw [eX,eY] at h
        exact h
       obtain ⟨z,hz⟩:∃z,z=Gn.to1 x tx:=⟨_,rfl⟩
       rw [←hz] at hrun2 hbd2 hless
       have htw:=toward_any x tx wr (uh hnt) (by omega) (by omega)
       rw [←hz] at htw
       have htw':=hide htw
       obtain ⟨c1,hc1⟩:∃c1:Nat,y*24+z=(c1:Int):=⟨(y*24+z).toNat,by omega⟩
       have hdg:=hide (refDig_any G (Gn.digAt st q0) z y c1 wr (uh hC1).cells (Gn.digAt_5 (uh h5s)) hbd2 hc1)
       rw [←uh hdr'] at hdg
       have hc1':=hide hc1
       have hless':=hide hless
       obtain ⟨⟨g1,g2⟩,g3,g4⟩:=hbd2
       clear eX eY ew hz htw hc1 hless
       go_wp2_with fail
       refine (uh htw').mono ?_
       rintro e w' ⟨rfl,hw⟩
       subst w'
       go_wp2_with fail
       refine (uh hdg).mono ?_
       rintro e wy ⟨rfl,hAy,hgy⟩
       have hC2:=hide ((uh hC1).dig hAy hgy)
       clear hAy hgy hdg htw' hC1
       go_wp2
       go_roundw
       case rel=>exact ⟨z,y,Gn.digAt st q0,c1,rfl,rfl,rfl,⟨⟨g1,g2⟩,g3,g4⟩,uh hc1',Gn.digAt_5 (uh h5s),uh hrun2,uh hC2⟩
       case measure=>have:=uh hless';simp [intOf];omega
      ·have hnt:Hid (y≠ty):=hy
       have hyq:(y == ty)=false:=by simpa using hy
       clear hy
       have ew:Gn.way x y tx ty false=false:=by unfold Gn.way;rw [hyq];rfl
       have eX:Gn.stepX x y tx ty false=x:=by unfold Gn.stepX;rw [ew];rfl
       have eY:Gn.stepY x y tx ty false=Gn.to1 y ty:=by unfold Gn.stepY;rw [ew];rfl
       have hrun2:Hid (Gn.digRun tx ty false (Gn.steps (x) (Gn.to1 y ty) tx ty) (Gn.digAt st q0) (x) (Gn.to1 y ty)=FIN):=by
        have h:=uh hrun'
        rw [Gn.run_on (c:=q0) (uh hne) (uh hq0'),eX,eY] at h
        exact h
       have hbd2:(1≤(x)∧(x)≤22)∧1≤(Gn.to1 y ty)∧(Gn.to1 y ty)≤14:=by
        have h:=Gn.step_bd x y tx ty false ⟨⟨e1,e2⟩,e3,e4⟩ ⟨⟨a5,a6⟩,a7,a8⟩
        rw [eX,eY] at h
        exact h
       have hless:Gn.steps (x) (Gn.to1 y ty) tx ty+1=Gn.steps x y tx ty:=by
        have h:=Gn.step_less x y tx ty false (uh hne)
        rw [eX,eY] at h
        exact h
       obtain ⟨z,hz⟩:∃z,z=Gn.to1 y ty:=⟨_,rfl⟩
       rw [←hz] at hrun2 hbd2 hless
       have htw:=toward_any y ty wr (uh hnt) (by omega) (by omega)
       rw [←hz] at htw
       have htw':=hide htw
       obtain ⟨c1,hc1⟩:∃c1:Nat,z*24+x=(c1:Int):=⟨(z*24+x).toNat,by omega⟩
       have hdg:=hide (refDig_any G (Gn.digAt st q0) x z c1 wr (uh hC1).cells (Gn.digAt_5 (uh h5s)) hbd2 hc1)
       rw [←uh hdr'] at hdg
       have hc1':=hide hc1
       have hless':=hide hless
       obtain ⟨⟨g1,g2⟩,g3,g4⟩:=hbd2
       clear eX eY ew hz htw hc1 hless
       go_wp2_with fail
       refine (uh htw').mono ?_
       rintro e w' ⟨rfl,hw⟩
       subst w'
       go_wp2_with fail
       refine (uh hdg).mono ?_
       rintro e wy ⟨rfl,hAy,hgy⟩
       have hC2:=hide ((uh hC1).dig hAy hgy)
       clear hAy hgy hdg htw' hC1
       go_wp2
       go_roundw
       case rel=>exact ⟨x,z,Gn.digAt st q0,c1,rfl,rfl,rfl,⟨⟨g1,g2⟩,g3,g4⟩,uh hc1',Gn.digAt_5 (uh h5s),uh hrun2,uh hC2⟩
       case measure=>have:=uh hless';simp [intOf];omega
  ·have hge:¬(j:Int)<6:=by omega
   obtain rfl:k=5:=by omega
   clear hk hlt hj
   go_wp2_with fail
   exact uh hK0 _ _ (ref_stairs s f d (uh hd') (uh hFr') h1f h3f w B G X Y wr (uh hC1).cells (uh hC1).xs (uh hC1).ys (uh hC1).res (uh hC1).grown (uh hC1).o0 (uh hC1).o1)


open Go.RowKit

structure RefRoom (w:World) (B G X Y:Nat) (d:Gn.Dice) (k:Nat) (c:Nat→Int) (wr:World):Prop where
 cells:Arr wr G 5 384 (Byts c)
 xs:Arr wr X 140 6 (fun j=>.int .i64 (if j<k then Gn.mx d j else 0))
 ys:Arr wr Y 140 6 (fun j=>.int .i64 (if j<k then Gn.my d j else 0))
 res:Arr wr B 103 3 (fun _=>.slice none 0 0)
 grown:w.grownBy wr none
 o0:w.heap.size≤B
 o1:B<G
 o2:G<X
 o3:X<Y

theorem RefRoom.on {w:World} {B G X Y:Nat} {d:Gn.Dice} {k:Nat} {c:Nat→Int} {wr wx:World} (h:RefRoom w B G X Y d k c wr) (hg:wr.grownBy wx none):RefRoom w B G X Y d k c wx :=
 ⟨h.cells.grown hg (by simp),h.xs.grown hg (by simp),h.ys.grown hg (by simp),h.res.grown hg (by simp),grown_none h.grown hg,h.o0,h.o1,h.o2,h.o3⟩

theorem RefRoom.congr {w:World} {B G X Y:Nat} {d:Gn.Dice} {k:Nat} {c c':Nat→Int} {wr:World} (h:RefRoom w B G X Y d k c wr) (he:∀i,c i=c' i):RefRoom w B G X Y d k c' wr:=by
 obtain rfl:c=c':=funext he
 exact h

theorem RefRoom.put {w:World} {B G X Y:Nat} {d:Gn.Dice} {k:Nat} {c:Nat→Int} {wr:World} (h:RefRoom w B G X Y d k c wr) (i:Nat) (v:Int):RefRoom w B G X Y d k (Gr.upd c i v) (wr.setCell ⟨G,i,none⟩ (.int .u8 v)):=by
 have h0:=h.o0
 have h1:=h.o1
 have h2:=h.o2
 have h3:=h.o3
 have hg:=gpt wr G i (.int .u8 v)
 exact ⟨h.cells.byte i v,h.xs.grown hg (by simp;omega),h.ys.grown hg (by simp;omega),h.res.grown hg (by simp;omega),gow h.grown hg (fun n e=>by cases e;omega),h0,h1,h2,h3⟩

theorem RefRoom.next {w:World} {B G X Y:Nat} {d:Gn.Dice} {k:Nat} {c:Nat→Int} {wr:World} (h:RefRoom w B G X Y d k c wr) (u v:Int) (hu:u=Gn.mx d k) (hv:v=Gn.my d k):RefRoom w B G X Y d (k+1) c ((wr.setCell ⟨X,k,none⟩ (.int .i64 u)).setCell ⟨Y,k,none⟩ (.int .i64 v)):=by
 have h0:=h.o0
 have h1:=h.o1
 have h2:=h.o2
 have h3:=h.o3
 have g1:=gpt wr X k (.int .i64 u)
 have g2:=gpt (wr.setCell ⟨X,k,none⟩ (.int .i64 u)) Y k (.int .i64 v)
 refine ⟨(h.cells.grown g1 (by simp;omega)).grown g2 (by simp;omega),((h.xs.store k (.int .i64 u)).grown g2 (by simp;omega)).congr fun j _=>fill_more hu j,((h.ys.grown g1 (by simp;omega)).store k (.int .i64 v)).congr fun j _=>fill_more hv j,(h.res.grown g1 (by simp;omega)).grown g2 (by simp;omega),gow (gow h.grown g1 (fun n e=>by cases e;omega)) g2 (fun n e=>by cases e;omega),h0,h1,h2,h3⟩

set_option maxRecDepth 100000 in
set_option maxHeartbeats 8000000 in
theorem refMake_any (s f:Int) (d:Gn.Dice) (hd:∀a b n,Gn.D s f a b n=d a b n) (hFr:Gn.Fair d) (h1f:1≤f) (h3f:f≤3) (w:World) :
  Calls Tryz.prog 52 #[.int .i64 s,.int .i64 f] w (RefDone w d f):=by
 obtain ⟨i0,hi,hz0,hz1,hz2⟩:=info_parts info_byte
 have hd':=hide hd
 have hF':=hide hFr
 clear hd hFr
 go_enter Tryz.func52,Tryz.ntmps52
 go_wp2_with (at_make;refine wpList_make_full _ rfl _ _ 26 rfl (w.heap.size+1) 5 i0 (.int .u8 0) 1 Tryz.underlying26 hi hz0 hz1 .i64 .i64 _ _ 384 rfl rfl rfl rfl ?q3 ?q4 ?q5 ?_)
 any_goals (first | (rw [hz2];decide) | decide | (simp;done))
 intro w2 hown hgrow
 have hA2:Arr w2 (w.heap.size+1) 5 384 (Byts fun _=>0):=Arr.zero hown
 have hR2:Arr w2 w.heap.size 103 3 (fun _=>.slice none 0 0):=by
  have h:Arr (w.alloc (.cells #[.slice none 0 0,.slice none 0 0,.slice none 0 0] 103)) w.heap.size 103 3 (fun _=>.slice none 0 0):=by
   refine ⟨_,heap_alloc_new _ _,rfl,fun j hj=>?_⟩
   rcases (show j=0∨j=1∨j=2 by omega) with rfl | rfl | rfl <;> rfl
  exact h.grown hgrow (by simp)
 have hg2:w.grownBy w2 none:=grown_none (World.grownBy_alloc _ _ _) hgrow
 have hG2:=hA2.lt
 have hH2:Hid (RefRoom w w.heap.size (w.heap.size+1) w2.heap.size (w2.heap.size+1) d 0 (Gn.roomed d 0) ((w2.alloc (.cells #[.int .i64 0,.int .i64 0,.int .i64 0,.int .i64 0,.int .i64 0,.int .i64 0] 140)).alloc (.cells #[.int .i64 0,.int .i64 0,.int .i64 0,.int .i64 0,.int .i64 0,.int .i64 0] 140))):=by
  have hz:∀(u:World) (F:Nat→Int),Arr (u.alloc (.cells #[.int .i64 0,.int .i64 0,.int .i64 0,.int .i64 0,.int .i64 0,.int .i64 0] 140)) u.heap.size 140 6 (fun j=>.int .i64 (if j<0 then F j else 0)):=fun u F=>by
   refine ⟨_,heap_alloc_new _ _,rfl,fun j hj=>?_⟩
   rcases (show j=0∨j=1∨j=2∨j=3∨j=4∨j=5 by omega) with rfl | rfl | rfl | rfl | rfl | rfl <;> rfl
  refine ⟨(hA2.alloc _).alloc _,(hz w2 (Gn.mx d)).alloc _,?_,(hR2.alloc _).alloc _,gal (gal hg2 _) _,Nat.le_refl _,Nat.lt_succ_self _,hG2,Nat.lt_succ_self _⟩
  have h:=hz (w2.alloc (.cells #[.int .i64 0,.int .i64 0,.int .i64 0,.int .i64 0,.int .i64 0,.int .i64 0] 140)) (Gn.my d)
  simpa using h
 obtain ⟨B,hB⟩:∃B,B=w.heap.size:=⟨_,rfl⟩
 obtain ⟨G,hG⟩:∃G,G=w.heap.size+1:=⟨_,rfl⟩
 obtain ⟨X,hX⟩:∃X,X=w2.heap.size:=⟨_,rfl⟩
 obtain ⟨Y,hY⟩:∃Y,Y=w2.heap.size+1:=⟨_,rfl⟩
 rw [←hG,←hB,←hX] at hH2
 clear hown hgrow hA2 hR2 hg2 hG2 hi hz0 hz1 hz2
 rw [←hG,←hB]
 go_upto_region 3 with fail
 rw [←hX]
 have hY2:Y=X+1:=by rw [hY,hX]
 rw [←hY2] at hH2 ⊢
 obtain ⟨w3,hw3⟩:∃w3,w3=(w2.alloc (.cells #[.int .i64 0,.int .i64 0,.int .i64 0,.int .i64 0,.int .i64 0,.int .i64 0] 140)).alloc (.cells #[.int .i64 0,.int .i64 0,.int .i64 0,.int .i64 0,.int .i64 0,.int .i64 0] 140):=⟨_,rfl⟩
 rw [←hw3] at hH2 ⊢
 clear hw3 hX hY hY2 hG hB
 clear w2
 rename_i K1 h1 K2 h2
 have hK0:=hide h1
 clear h1
 go_wp2_with fail
 go_loopw [8] (fun i wr=>∃k:Nat,k≤6∧i=.int .i64 k∧RefRoom w B G X Y d k (Gn.roomed d k) wr) (fun i _=>6 - (intOf i).toNat)
 case atStart=>exact ⟨0,by omega,rfl,uh hH2⟩
 case round =>
  clear hH2
  clear w3
  obtain ⟨k,hk,rfl,hH⟩:=hrel
  have hH1:=hide hH
  clear hH
  by_cases hlt:k<6
  ·have hlt':(k:Int)<6:=by omega
   have HL:=hide hlt
   clear hlt hk
   obtain ⟨A0,hA0⟩:∃x,x=d k 0 5:=⟨_,rfl⟩
   obtain ⟨A1,hA1'⟩:∃x,x=d k 1 4:=⟨_,rfl⟩
   obtain ⟨A2,hA2⟩:∃x,x=d k 2 (23 - (3+A0)):=⟨_,rfl⟩
   obtain ⟨A3,hA3⟩:∃x,x=d k 3 (15 - (2+A1)):=⟨_,rfl⟩
   obtain ⟨a1,a2⟩:0≤A0∧A0<5:=by rw [hA0];exact uh hF' _ _ _ (by omega)
   obtain ⟨a3,a4⟩:0≤A1∧A1<4:=by rw [hA1'];exact uh hF' _ _ _ (by omega)
   obtain ⟨a5,a6⟩:0≤A2∧A2<23 - (3+A0):=by rw [hA2];exact uh hF' _ _ _ (by omega)
   obtain ⟨a7,a8⟩:0≤A3∧A3<15 - (2+A1):=by rw [hA3];exact uh hF' _ _ _ (by omega)
   have c0:Hid (∀x,Calls Tryz.prog 83 #[.int .i64 s,.int .i64 f,.int .i64 k,.int .i64 0,.int .i64 5] x (Says x (.int .i64 A0))):=fun x=>by
    have h:=refD_any s f k 0 5 x (by omega)
    rw [uh hd',←hA0] at h
    exact h
   have c1:Hid (∀x,Calls Tryz.prog 83 #[.int .i64 s,.int .i64 f,.int .i64 k,.int .i64 1,.int .i64 4] x (Says x (.int .i64 A1))):=fun x=>by
    have h:=refD_any s f k 1 4 x (by omega)
    rw [uh hd',←hA1'] at h
    exact h
   have c2:Hid (∀x,Calls Tryz.prog 83 #[.int .i64 s,.int .i64 f,.int .i64 k,.int .i64 2,.int .i64 (23 - (3+A0))] x (Says x (.int .i64 A2))):=fun x=>by
    have h:=refD_any s f k 2 (23 - (3+A0)) x (by omega)
    rw [uh hd',←hA2] at h
    exact h
   have c3:Hid (∀x,Calls Tryz.prog 83 #[.int .i64 s,.int .i64 f,.int .i64 k,.int .i64 3,.int .i64 (15 - (2+A1))] x (Says x (.int .i64 A3))):=fun x=>by
    have h:=refD_any s f k 3 (15 - (2+A1)) x (by omega)
    rw [uh hd',←hA3] at h
    exact h
   have e0:=hide hA0
   have e1:=hide hA1'
   have e2:=hide hA2
   have e3:=hide hA3
   clear hA0 hA1' hA2 hA3
   go_wp2_with fail
   refine (uh c0 _).mono ?_
   rintro e wa ⟨rfl,hga⟩
   have hHa:=hide ((uh hH1).on hga)
   clear hga hH1
   go_wp2_with fail
   refine (uh c1 _).mono ?_
   rintro e wb ⟨rfl,hgb⟩
   have hHb:=hide ((uh hHa).on hgb)
   clear hgb hHa
   go_wp2_with fail
   refine (uh c2 _).mono ?_
   rintro e wc ⟨rfl,hgc⟩
   have hHc:=hide ((uh hHb).on hgc)
   clear hgc hHb
   go_wp2_with fail
   refine (uh c3 _).mono ?_
   rintro e wd ⟨rfl,hgd⟩
   have hHd:=hide ((uh hHc).on hgd)
   clear hgd hHc c0 c1 c2 c3
   clear wa wb wc
   go_wp2_with fail
   have hst:=hide ((uh hHd).congr (c':=Gn.paintTo (Gn.roomed d k) (1+A2) (1+A3) (3+A0) (2+A1) (1+A3) (1+A2)) fun j=>by rw [Gn.paint_start])
   go_loopw [13] (fun i wr=>∃r:Int,1+A3≤r∧r≤1+A3+(2+A1)∧i=.int .i64 r∧RefRoom w B G X Y d k (Gn.paintTo (Gn.roomed d k) (1+A2) (1+A3) (3+A0) (2+A1) r (1+A2)) wr) (fun i _=>(1+A3+(2+A1) - intOf i).toNat)
   case atStart=>exact ⟨1+A3,by omega,by omega,rfl,uh hst⟩
   case round =>
    clear hst hHd
    obtain ⟨r,hr1,hr2,rfl,hH⟩:=hrel
    have hH3:=hide hH
    clear hH
    by_cases hr:r<1+A3+(2+A1)
    ·go_wp2_with fail
     go_loopw [14] (fun i wr=>∃q:Int,1+A2≤q∧q≤1+A2+(3+A0)∧i=.int .i64 q∧RefRoom w B G X Y d k (Gn.paintTo (Gn.roomed d k) (1+A2) (1+A3) (3+A0) (2+A1) r q) wr) (fun i _=>(1+A2+(3+A0) - intOf i).toNat)
     case atStart=>exact ⟨1+A2,by omega,by omega,rfl,uh hH3⟩
     case round =>
      obtain ⟨q,hq1,hq2,rfl,hH⟩:=hrel
      clear hH3
      have hH3:=hide hH
      clear hH
      by_cases hq:q<1+A2+(3+A0)
      ·obtain ⟨c,hc⟩:∃c:Nat,r*24+q=(c:Int):=⟨(r*24+q).toNat,by omega⟩
       have hcl:c<384:=by omega
       have hcc:=(uh hH3).cells.cell hcl
       have hcf:=(uh hH3).cells.free c
       have hstep:=hide (((uh hH3).put c 1).congr (c':=Gn.paintTo (Gn.roomed d k) (1+A2) (1+A3) (3+A0) (2+A1) r (q+1)) fun j=>Gn.paint_one (Gn.roomed d k) (1+A2) (1+A3) (3+A0) (2+A1) r q c hq1 (by omega) hr1 (by omega) (by omega) (by omega) hc j)
       have hc2:(c:Int)<384:=by omega
       clear hH3
       go_wp2
       go_roundw
       case rel=>exact ⟨q+1,by omega,by omega,by go_num,uh hstep⟩
       case measure=>simp [intOf];omega
      ·have hqe:q=1+A2+(3+A0):=by omega
       have hrow:=hide ((uh hH3).congr (c':=Gn.paintTo (Gn.roomed d k) (1+A2) (1+A3) (3+A0) (2+A1) (r+1) (1+A2)) fun j=>by rw [hqe,Gn.paint_row])
       clear hqe hH3
       go_wp2
       go_roundw
       case rel=>exact ⟨r+1,by omega,by omega,by go_num,uh hrow⟩
       case measure=>simp [intOf];omega
    ·have hre:r=1+A3+(2+A1):=by omega
     have hrx:Gn.rw d k=3+A0:=by rw [uh e0];rfl
     have hrh:Gn.rh d k=2+A1:=by rw [uh e1];rfl
     have hxx:Gn.rx d k=1+A2:=by unfold Gn.rx;rw [hrx,←uh e2]
     have hyy:Gn.ry d k=1+A3:=by unfold Gn.ry;rw [hrh,←uh e3]
     have hmx:1+A2+(3+A0) / 2=Gn.mx d k:=by unfold Gn.mx;rw [hrx,hxx]
     have hmy:1+A3+(2+A1) / 2=Gn.my d k:=by unfold Gn.my;rw [hrh,hyy]
     have hroom:=hide ((uh hH3).congr (c':=Gn.roomed d (k+1)) fun j=>by rw [Gn.roomed,Gn.paint,hrx,hrh,hxx,hyy,hre])
     have hk6:=uh HL
     have q1:=(uh hH3).xs.cell hk6
     have q2:=(uh hH3).ys.cell hk6
     have q3:=(uh hH3).xs.free k
     have q4:=(uh hH3).ys.free k
     have hmx':=hide hmx
     have hmy':=hide hmy
     have hxy:=(uh hH3).o3
     clear hre hrx hrh hxx hyy hmx hmy hH3 hk6
     go_wp2
     go_roundw
     case rel=>exact ⟨k+1,by have:=uh HL;omega,by go_num,(uh hroom).next _ _ (uh hmx') (uh hmy')⟩
     case measure=>have:=uh HL;simp [intOf];omega
  ·have hge:¬(k:Int)<6:=by omega
   obtain rfl:k=6:=by omega
   have hC:Hid (RefCor w B G X Y d (Gn.dug d 0) wr):=by
    have h:=uh hH1
    refine ⟨h.cells,h.xs.congr fun j hj=>?_,h.ys.congr fun j hj=>?_,h.res,h.grown,h.o0,h.o1,h.o2,h.o3⟩
    ·rw [if_pos hj]
    ·rw [if_pos hj]
   clear hk hlt
   go_wp2_with fail
   exact uh hK0 _ _ (ref_corr s f d (uh hd') (uh hF') h1f h3f w B G X Y wr (uh hC))

end Go.Proofs.YtkcooekhigmioaaGreat
