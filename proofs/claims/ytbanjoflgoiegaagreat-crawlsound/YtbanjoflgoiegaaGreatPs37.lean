import Derived.Test.YtbanjoflgoiegaaGreatPs16
namespace Go.Proofs.YtbanjoflgoiegaaGreat
open Go.RowKit

set_option maxHeartbeats 800000 in
theorem fightTwinBytes_any (b n m cp:Nat) (F:Nat→Value) (w:World) (hn:n≤1000) (hm:m=n*1) (h1:∀c,(F c).oneCell'=true) (hF:∀c,c<m→w.cell? ⟨b,c,none⟩=some (F c)) (hb:b<w.heap.size) :
  Calls Tryz.prog 155 #[.slice (some ⟨b,0,none⟩) n cp] w (Copies w 5 n m F):=by
 have hF':=hide hF
 have h1':=hide h1
 obtain ⟨i0,hi,hz0,hz1,hz2⟩:=info_parts info_byte
 have hsz:(Tryz.prog.info? 5).map (·.size)=some 1:=by rw [hi];simp [hz1]
 clear hF h1
 go_enter Tryz.func155,Tryz.ntmps155
 go_wp2_with (at_make;refine wpList_make_full _ rfl _ _ 25 rfl w.heap.size 5 i0 (.int .u8 0) 1 Tryz.underlying25 hi hz0 hz1 .i64 .i64 _ _ n rfl rfl rfl rfl ?q3 ?q4 ?q5 ?_)
 any_goals (first | (rw [hz2];omega) | (unfold maxLen;omega) | exact Nat.le_refl _)
 intro w1 hown hgrow
 obtain ⟨cur,hg,hcs⟩:∃cur,w1.heap[w.heap.size]?=some (.cells cur 5 (0,0))∧cur.size=n*1:=by
  rcases hown.2 with ⟨h',_⟩ | ⟨g',cap',cur,h',_,hg,_,_,hcs,_⟩
  ·simp at h'
  ·simp only [Value.slice.injEq,Option.some.injEq,Addr.mk.injEq,and_true,true_and] at h'
   obtain ⟨rfl,rfl⟩:=h'
   exact ⟨cur,hg,hcs⟩
 have hg':=hide hg
 have hgrow':=hide hgrow
 have hcs':=hide hcs
 clear hown hg hgrow hcs hi hz0 hz1 hz2
 obtain ⟨w2,hrun,hrow,hgr2⟩:=run_copy_whole 25 25 3 5 Tryz.underlying25 1 hsz w.heap.size n n ⟨b,0,none⟩ cp cur _ (uh hg') (Gd.list m F) ((Gd.list_len m F).trans hm) (Gd.list_src fun c hc=>(gce (uh hgrow') b c hb (by simp)).trans (uh hF' c hc)) (by rw [Gd.list_len,uh hcs',hm]) (Gd.list_one (uh h1'))
 have hfin:=hide (Arr.of_list hrow)
 have hgw:=hide (show w.grownBy w2 none from gow (uh hgrow') hgr2 (fun k e=>by cases e;exact Nat.le_refl _))
 clear hrow hgr2 hb hm hn hsz
 go_wp2
 go_ret
 exact ⟨w.heap.size,rfl,Nat.le_refl _,uh hfin,uh hgw⟩

set_option maxHeartbeats 800000 in
theorem fightTwinEnts_any (b n m cp:Nat) (F:Nat→Value) (w:World) (hn:n≤1000) (hm:m=n*11) (h1:∀c,(F c).oneCell'=true) (hF:∀c,c<m→w.cell? ⟨b,c,none⟩=some (F c)) (hb:b<w.heap.size) :
  Calls Tryz.prog 156 #[.slice (some ⟨b,0,none⟩) n cp] w (Copies w 54 n m F):=by
 have hF':=hide hF
 have h1':=hide h1
 obtain ⟨i0,hi,hz0,hz1,hz2⟩:=info_parts info_ent
 have hsz:(Tryz.prog.info? 54).map (·.size)=some 11:=by rw [hi];simp [hz1]
 clear hF h1
 go_enter Tryz.func156,Tryz.ntmps156
 go_wp2_with (at_make;refine wpList_make_full _ rfl _ _ 26 rfl w.heap.size 54 i0 (.agg #[.int .i64 0,.int .i64 0,.int .i64 0,.int .i64 0,.int .i64 0,.int .i64 0,.int .i64 0,.int .i64 0,.int .i64 0,.int .i64 0,.int .i64 0]) 11 Tryz.underlying26 hi hz0 hz1 .i64 .i64 _ _ n rfl rfl rfl rfl ?q3 ?q4 ?q5 ?_)
 any_goals (first | (rw [hz2];omega) | (unfold maxLen;omega) | exact Nat.le_refl _)
 intro w1 hown hgrow
 obtain ⟨cur,hg,hcs⟩:∃cur,w1.heap[w.heap.size]?=some (.cells cur 54 (0,0))∧cur.size=n*11:=by
  rcases hown.2 with ⟨h',_⟩ | ⟨g',cap',cur,h',_,hg,_,_,hcs,_⟩
  ·simp at h'
  ·simp only [Value.slice.injEq,Option.some.injEq,Addr.mk.injEq,and_true,true_and] at h'
   obtain ⟨rfl,rfl⟩:=h'
   exact ⟨cur,hg,hcs⟩
 have hg':=hide hg
 have hgrow':=hide hgrow
 have hcs':=hide hcs
 clear hown hg hgrow hcs hi hz0 hz1 hz2
 obtain ⟨w2,hrun,hrow,hgr2⟩:=run_copy_whole 26 26 3 54 Tryz.underlying26 11 hsz w.heap.size n n ⟨b,0,none⟩ cp cur _ (uh hg') (Gd.list m F) ((Gd.list_len m F).trans hm) (Gd.list_src fun c hc=>(gce (uh hgrow') b c hb (by simp)).trans (uh hF' c hc)) (by rw [Gd.list_len,uh hcs',hm]) (Gd.list_one (uh h1'))
 have hfin:=hide (Arr.of_list hrow)
 have hgw:=hide (show w.grownBy w2 none from gow (uh hgrow') hgr2 (fun k e=>by cases e;exact Nat.le_refl _))
 clear hrow hgr2 hb hm hn hsz
 go_wp2
 go_ret
 exact ⟨w.heap.size,rfl,Nat.le_refl _,uh hfin,uh hgw⟩

set_option maxHeartbeats 800000 in
theorem fightTwinItems_any (b n m cp:Nat) (F:Nat→Value) (w:World) (hn:n≤1000) (hm:m=n*4) (h1:∀c,(F c).oneCell'=true) (hF:∀c,c<m→w.cell? ⟨b,c,none⟩=some (F c)) (hb:b<w.heap.size) :
  Calls Tryz.prog 157 #[.slice (some ⟨b,0,none⟩) n cp] w (Copies w 62 n m F):=by
 have hF':=hide hF
 have h1':=hide h1
 obtain ⟨i0,hi,hz0,hz1,hz2⟩:=info_parts info_item
 have hsz:(Tryz.prog.info? 62).map (·.size)=some 4:=by rw [hi];simp [hz1]
 clear hF h1
 go_enter Tryz.func157,Tryz.ntmps157
 go_wp2_with (at_make;refine wpList_make_full _ rfl _ _ 27 rfl w.heap.size 62 i0 (.agg #[.int .i64 0,.int .i64 0,.int .i64 0,.int .i64 0]) 4 Tryz.underlying27 hi hz0 hz1 .i64 .i64 _ _ n rfl rfl rfl rfl ?q3 ?q4 ?q5 ?_)
 any_goals (first | (rw [hz2];omega) | (unfold maxLen;omega) | exact Nat.le_refl _)
 intro w1 hown hgrow
 obtain ⟨cur,hg,hcs⟩:∃cur,w1.heap[w.heap.size]?=some (.cells cur 62 (0,0))∧cur.size=n*4:=by
  rcases hown.2 with ⟨h',_⟩ | ⟨g',cap',cur,h',_,hg,_,_,hcs,_⟩
  ·simp at h'
  ·simp only [Value.slice.injEq,Option.some.injEq,Addr.mk.injEq,and_true,true_and] at h'
   obtain ⟨rfl,rfl⟩:=h'
   exact ⟨cur,hg,hcs⟩
 have hg':=hide hg
 have hgrow':=hide hgrow
 have hcs':=hide hcs
 clear hown hg hgrow hcs hi hz0 hz1 hz2
 obtain ⟨w2,hrun,hrow,hgr2⟩:=run_copy_whole 27 27 3 62 Tryz.underlying27 4 hsz w.heap.size n n ⟨b,0,none⟩ cp cur _ (uh hg') (Gd.list m F) ((Gd.list_len m F).trans hm) (Gd.list_src fun c hc=>(gce (uh hgrow') b c hb (by simp)).trans (uh hF' c hc)) (by rw [Gd.list_len,uh hcs',hm]) (Gd.list_one (uh h1'))
 have hfin:=hide (Arr.of_list hrow)
 have hgw:=hide (show w.grownBy w2 none from gow (uh hgrow') hgr2 (fun k e=>by cases e;exact Nat.le_refl _))
 clear hrow hgr2 hb hm hn hsz
 go_wp2
 go_ret
 exact ⟨w.heap.size,rfl,Nat.le_refl _,uh hfin,uh hgw⟩

set_option maxHeartbeats 3200000 in
theorem fightApart_wide (s g c:Nat→Int) (E I:Nat→Nat→Int) (gC gE gI cC cE cI:Nat) (w:World) (hL:Gd.Lists w gC gE gI c E I) :
  Calls Tryz.prog 118 #[.agg (Gd.world s gC gE gI cC cE cI g)] w (Gd.WorldsW w s g c E I):=by
 have hL':=hide hL
 have hbox:=(Arr.world (heap_alloc_new w (.cells (Gd.world s gC gE gI cC cE cI g) 30))).alloc (.cells #[.int .i64 0,.int .i64 0,.int .i64 0,.int .i64 0,.slice none 0 0,.slice none 0 0,.slice none 0 0,.int .i64 0,.int .i64 0,.int .i64 0,.int .i64 0] 30)
 unfold Gd.world at hbox ⊢
 have hres:=Arr.lit (heap_alloc_new (w.alloc (.cells #[.int .i64 (s 0),.int .i64 (s 1),.int .i64 (s 2),.int .i64 (s 3),.slice (some ⟨gC,0,none⟩) 384 cC,.slice (some ⟨gE,0,none⟩) 32 cE,.slice (some ⟨gI,0,none⟩) 40 cI,.int .i64 (g 0),.int .i64 (g 1),.int .i64 (g 2),.int .i64 (g 3)] 30)) (.cells #[.int .i64 0,.int .i64 0,.int .i64 0,.int .i64 0,.slice none 0 0,.slice none 0 0,.slice none 0 0,.int .i64 0,.int .i64 0,.int .i64 0,.int .i64 0] 30))
 have hg0:w.grownBy ((w.alloc (.cells #[.int .i64 (s 0),.int .i64 (s 1),.int .i64 (s 2),.int .i64 (s 3),.slice (some ⟨gC,0,none⟩) 384 cC,.slice (some ⟨gE,0,none⟩) 32 cE,.slice (some ⟨gI,0,none⟩) 40 cI,.int .i64 (g 0),.int .i64 (g 1),.int .i64 (g 2),.int .i64 (g 3)] 30)).alloc (.cells #[.int .i64 0,.int .i64 0,.int .i64 0,.int .i64 0,.slice none 0 0,.slice none 0 0,.slice none 0 0,.int .i64 0,.int .i64 0,.int .i64 0,.int .i64 0] 30)) none:=gal (World.grownBy_alloc _ _ _) _
 rw [show (w.alloc (.cells #[.int .i64 (s 0),.int .i64 (s 1),.int .i64 (s 2),.int .i64 (s 3),.slice (some ⟨gC,0,none⟩) 384 cC,.slice (some ⟨gE,0,none⟩) 32 cE,.slice (some ⟨gI,0,none⟩) 40 cI,.int .i64 (g 0),.int .i64 (g 1),.int .i64 (g 2),.int .i64 (g 3)] 30)).heap.size=w.heap.size+1 by simp] at hres
 clear hL
 go_enter Tryz.func118,Tryz.ntmps118
 go_upto_region 1 with fail
 obtain ⟨w0,hw0⟩:∃w0,(w.alloc (.cells #[.int .i64 (s 0),.int .i64 (s 1),.int .i64 (s 2),.int .i64 (s 3),.slice (some ⟨gC,0,none⟩) 384 cC,.slice (some ⟨gE,0,none⟩) 32 cE,.slice (some ⟨gI,0,none⟩) 40 cI,.int .i64 (g 0),.int .i64 (g 1),.int .i64 (g 2),.int .i64 (g 3)] 30)).alloc (.cells #[.int .i64 0,.int .i64 0,.int .i64 0,.int .i64 0,.slice none 0 0,.slice none 0 0,.slice none 0 0,.int .i64 0,.int .i64 0,.int .i64 0,.int .i64 0] 30)=w0:=⟨_,rfl⟩
 rw [hw0] at hbox hres hg0 ⊢
 obtain ⟨B,hB⟩:∃B,w.heap.size=B:=⟨_,rfl⟩
 rw [hB] at hbox hres ⊢
 have hbox':=hide hbox
 have hres':=hide hres
 have hg0':=hide hg0
 have hB':=hide hB
 have keep:Hid (∀y,Hid (w0.grownBy y none)→(y.cell? ⟨B,4,none⟩=some (.slice (some ⟨gC,0,none⟩) 384 cC)∧y.cell? ⟨B,5,none⟩=some (.slice (some ⟨gE,0,none⟩) 32 cE)∧y.cell? ⟨B,6,none⟩=some (.slice (some ⟨gI,0,none⟩) 40 cI))∧y.frozen? ⟨B,4,none⟩=false∧y.frozen? ⟨B,5,none⟩=false∧y.frozen? ⟨B,6,none⟩=false):=fun y hy=>by
  have h:=(uh hbox').grown (uh hy) (by simp)
  exact ⟨⟨h.cell (i:=4) (by omega),h.cell (i:=5) (by omega),h.cell (i:=6) (by omega)⟩,h.free 4,h.free 5,h.free 6⟩
 have hd:Hid (w0.grownBy w0.drew none):=gd1 (World.grownBy.refl _ _)
 have rd:Hid (∀y,Hid (w0.grownBy y none)→Gd.Lists y gC gE gI c E I):=fun y hy=>(uh hL').on (gtr (uh hg0') (uh hy))
 have c1:Hid (∀y,Hid (w0.grownBy y none)→Calls Tryz.prog 155 #[.slice (some ⟨gC,0,none⟩) 384 cC] y fun e w'=>∃g1,e=.returned (.slice (some ⟨g1,0,none⟩) 384 384)∧Hid (y.heap.size≤g1)∧Hid (Lie w' g1 5 384 (Byts c))∧Hid (y.grownBy w' none)∧Hid (w0.grownBy w' none)):=fun y hy =>
  (fightTwinBytes_any gC 384 384 cC (Byts c) y (by omega) (by omega) (fun _=>rfl) (uh rd y hy).read.1 (uh rd y hy).cells.lt).mono fun e w' ⟨g1,h1,h2,h3,h4⟩=>⟨g1,h1,h2,h3.lie,h4,gtr (uh hy) h4⟩
 have c2:Hid (∀y,Hid (w0.grownBy y none)→Calls Tryz.prog 156 #[.slice (some ⟨gE,0,none⟩) 32 cE] y fun e w'=>∃g1,e=.returned (.slice (some ⟨g1,0,none⟩) 32 32)∧Hid (y.heap.size≤g1)∧Hid (Lie w' g1 54 352 (En.flat E))∧Hid (y.grownBy w' none)∧Hid (w0.grownBy w' none)):=fun y hy =>
  (fightTwinEnts_any gE 32 352 cE (En.flat E) y (by omega) (by omega) (fun _=>rfl) (uh rd y hy).read.2.1 (uh rd y hy).ents.lt).mono fun e w' ⟨g1,h1,h2,h3,h4⟩=>⟨g1,h1,h2,h3.lie,h4,gtr (uh hy) h4⟩
 have c3:Hid (∀y,Hid (w0.grownBy y none)→Calls Tryz.prog 157 #[.slice (some ⟨gI,0,none⟩) 40 cI] y fun e w'=>∃g1,e=.returned (.slice (some ⟨g1,0,none⟩) 40 40)∧Hid (y.heap.size≤g1)∧Hid (Lie w' g1 62 160 (Gd.flat I))∧Hid (y.grownBy w' none)∧Hid (w0.grownBy w' none)):=fun y hy =>
  (fightTwinItems_any gI 40 160 cI (Gd.flat I) y (by omega) (by omega) (fun _=>rfl) (uh rd y hy).read.2.2 (uh rd y hy).items.lt).mono fun e w' ⟨g1,h1,h2,h3,h4⟩=>⟨g1,h1,h2,h3.lie,h4,gtr (uh hy) h4⟩
 obtain ⟨⟨q4,q5,q6⟩,r4,r5,r6⟩:=uh keep w0 (World.grownBy.refl _ _)
 clear hbox hres hg0 hw0 hB
 go_cut [] from 3 (fun wx=>∃g1 g2 g3,Hid (Gd.Hold wx B g1 g2 g3 384 32 40 s g c E I∧B+2≤g1∧B+2≤g2∧B+2≤g3∧Arr wx (B+1) 30 11 (fun j=>#[.int .i64 0,.int .i64 0,.int .i64 0,.int .i64 0,.slice none 0 0,.slice none 0 0,.slice none 0 0,.int .i64 0,.int .i64 0,.int .i64 0,Value.int .i64 0][j]?.getD undef)∧w.grownBy wx none))
 case first =>
  go_region_with (first | (go_at_call 155;refine (uh c1 _ hd).mono ?_;rintro e w1 ⟨g1,rfl,l1,a1,n1,n01⟩;obtain ⟨⟨z4,z5,z6⟩,f4,f5,f6⟩:=uh keep w1 n01) | (go_at_call 156;refine (uh c2 _ n01).mono ?_;rintro e w2 ⟨g2,rfl,l2,a2,n2,n02⟩;obtain ⟨⟨z4,z5,z6⟩,f4,f5,f6⟩:=uh keep w2 n02) | (go_at_call 157;refine (uh c3 _ n02).mono ?_;rintro e w3 ⟨g3,rfl,l3,a3,n3,n03⟩;obtain ⟨⟨z4,z5,z6⟩,f4,f5,f6⟩:=uh keep w3 n03))
  all_goals
   go_wp2_with fail
   go_meet
   exact ⟨g1,g2,g3,Gd.apart_hold (uh hbox') (uh hres') (uh hg0') (uh hB') (uh hd) (uh l1) (uh a1) (uh n1) (uh l2) (uh a2) (uh n2) (uh l3) (uh a3) (uh n3)⟩
 case rest =>
  obtain ⟨g1,g2,g3,hr⟩:=hcut
  clear keep hd rd c1 c2 c3 q4 q5 q6 r4 r5 r6 hbox' hres' hg0' hL'
  obtain ⟨b0,b1,b2,b3,b4,b5,b6,b7,b8,b9,b10⟩:=(uh hr).1.box.eleven
  have fz:=(uh hr).2.2.2.2.1.free
  have zc:=fun j (hj:j<11)=>(uh hr).2.2.2.2.1.cell (i:=j) hj
  have z0:=zc 0 (by omega)
  have z1:=zc 1 (by omega)
  have z2:=zc 2 (by omega)
  have z3:=zc 3 (by omega)
  have z4:=zc 4 (by omega)
  have z5:=zc 5 (by omega)
  have z6:=zc 6 (by omega)
  have z7:=zc 7 (by omega)
  have z8:=zc 8 (by omega)
  have z9:=zc 9 (by omega)
  have z10:=zc 10 (by omega)
  simp only [List.getElem?_toArray,List.getElem?_cons_zero,List.getElem?_cons_succ,Option.getD_some] at z0 z1 z2 z3 z4 z5 z6 z7 z8 z9 z10
  have hfin:Hid (∀vs:List Value,Gd.Lists (wc.setCells (B+1) 0 vs) g1 g2 g3 c E I∧w.grownBy (wc.setCells (B+1) 0 vs) none):=fun vs=>by
   obtain ⟨hH,h1,h2,h3,hA,hg⟩:=uh hr
   have hB:=uh hB'
   have r:=gss (g:=B+1) vs 0 wc (World.grownBy.refl _ _)
   exact ⟨⟨hH.lists.cells.grown r (by simp;omega),hH.lists.ents.grown r (by simp;omega),hH.lists.items.grown r (by simp;omega)⟩,own_sets (by omega) vs 0 wc hg⟩
  clear zc
  go_wp2
  refine bodyPost_ret (v:=.agg (Gd.world s g1 g2 g3 384 32 40 g)) (by simp [results,Tryz.results118,go_sem,Gd.world,z0,z1,z2,z3,z4,z5,z6,z7,z8,z9,z10]) rfl ?_
  obtain ⟨hH,h1,h2,h3,_,_⟩:=uh hr
  have hB:=uh hB'
  exact ⟨g1,g2,g3,384,32,40,rfl,⟨Nat.le_refl _,Nat.le_refl _⟩,by omega,by omega,by omega,hH.cE,hH.cI,hH.eI,(uh hfin [_,_,_,_,_,_,_,_,_,_,_]).1,(uh hfin [_,_,_,_,_,_,_,_,_,_,_]).2⟩

end Go.Proofs.YtbanjoflgoiegaaGreat
