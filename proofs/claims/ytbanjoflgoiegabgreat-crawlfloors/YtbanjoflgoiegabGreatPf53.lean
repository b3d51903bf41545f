import Derived.Test.YtbanjoflgoiegabGreatPf52
namespace Go.Proofs.YtbanjoflgoiegabGreat
open Go.RowKit

theorem Gd.Law.num {w x:World} {T gC gE gI cC cE cI:Nat} {s g c:Nat→Int} {E I:Nat→Nat→Int} (h:Gd.Law w x T gC gE gI cC cE cI s g c E I) (k:Nat) (hk:k<4) (u:Int):Gd.Law w (x.setCell ⟨T,k,none⟩ (.int .i64 u)) T gC gE gI cC cE cI (Cr.num s k u) g c E I:=by
 have hh:=h.hold
 refine ⟨⟨(hh.box.store k (.int .i64 u)).congr fun j hj=>?_,⟨hh.lists.cells.other hh.bC _ _,hh.lists.ents.other hh.bE _ _,hh.lists.items.other hh.bI _ _⟩,hh.bC,hh.bE,hh.bI,hh.cE,hh.cI,hh.eI⟩,h.lT,h.lE,h.lI,h.cap,gsr h.grown ⟨T,k,none⟩ h.lT _⟩
 rcases (show k=0∨k=1∨k=2∨k=3 by omega) with rfl | rfl | rfl | rfl <;> rcases (show j=0∨j=1∨j=2∨j=3∨j=4∨j=5∨j=6∨j=7∨j=8∨j=9∨j=10 by omega) with rfl | rfl | rfl | rfl | rfl | rfl | rfl | rfl | rfl | rfl | rfl <;> rfl

theorem Gd.Law.beside {w x:World} {T gC gE gI cC cE cI B o:Nat} {s g c:Nat→Int} {E I:Nat→Nat→Int} (h:Gd.Law w x T gC gE gI cC cE cI s g c E I) (hB:w.heap.size≤B) (n0:B≠T) (n1:B≠gC) (n2:B≠gE) (n3:B≠gI) (v:Value):Gd.Law w (x.setCell ⟨B,o,none⟩ v) T gC gE gI cC cE cI s g c E I :=
 ⟨⟨h.hold.box.other n0 _ _,⟨h.hold.lists.cells.other n1 _ _,h.hold.lists.ents.other n2 _ _,h.hold.lists.items.other n3 _ _⟩,h.hold.bC,h.hold.bE,h.hold.bI,h.hold.cE,h.hold.cI,h.hold.eI⟩,h.lT,h.lE,h.lI,h.cap,gsr h.grown ⟨B,o,none⟩ hB _⟩

structure Cr.Alone (seed floor:Int) (r:Nat) (S:Cr.W):Prop where
 good:Cr.Good S
 sole:Cr.Sole S.E r 0
 s0:S.s 0=seed
 s1:S.s 1=1
 s2:S.s 2=1+floor % 3
 s3:S.s 3=0
 bag:S.I=fun _ _=>0
 e9:S.E r 9=0
 e10:S.E r 10=0
 rest:∀k,k≠r→S.E k=fun _=>0

set_option maxRecDepth 16000 in
set_option maxHeartbeats 3200000 in
theorem alone_any (seed floor at_:Int) (w:World):Calls Tryz.prog 8 #[.int .i64 seed,.int .i64 floor,.int .i64 at_] w fun e w'=>∃S:Cr.W,Cr.Alone seed floor ((1+3*(at_ % 1000)) % 32).toNat S∧Gd.WorldsW w S.s S.g S.c S.E S.I e w':=by
 obtain ⟨w0,hw0⟩:∃w0,w0=w.alloc (.cells #[.int .i64 0,.int .i64 0,.int .i64 0,.int .i64 0,.slice none 0 0,.slice none 0 0,.slice none 0 0,.int .i64 0,.int .i64 0,.int .i64 0,.int .i64 0] 28):=⟨_,rfl⟩
 have hg0:Hid (w.grownBy w0 none):=by rw [hw0];exact World.grownBy_alloc _ _ _
 obtain ⟨R,hR⟩:∃R,w.heap.size=R:=⟨_,rfl⟩
 have hres:Hid (Lie w0 R 28 11 (fun j=>#[.int .i64 0,.int .i64 0,.int .i64 0,.int .i64 0,.slice none 0 0,.slice none 0 0,.slice none 0 0,.int .i64 0,.int .i64 0,.int .i64 0,Value.int .i64 0][j]?.getD undef)):=by
  rw [hw0,←hR]
  exact (Arr.lit (heap_alloc_new w _)).lie
 have hR':=hide hR
 have cI:=hide (fun wq=>within10_any at_ 1000 wq (by omega) (by omega))
 obtain ⟨m,hm⟩:∃m,at_ % 1000=m:=⟨_,rfl⟩
 have m0:Hid (0≤m∧m<1000):=(show 0≤m∧m<1000 by omega)
 rw [hm] at cI
 have t1:IntKind.i64.wrap (3*m)=3*m:=by rw [IntKind.wrap_i64];omega
 have t2:IntKind.i64.wrap (1+3*m)=1+3*m:=by rw [IntKind.wrap_i64];omega
 have cw:=hide (fun wq=>world_lone seed floor (1+3*m) 0 wq)
 rw [hm]
 clear hm
 obtain ⟨r,hr⟩:∃r,((1+3*m) % 32).toNat=r:=⟨_,rfl⟩
 rw [hr] at cw ⊢
 clear hr
 go_enter Tryz.func8,Tryz.ntmps8
 go_upto_region 1 with fail
 rw [←hw0]
 clear hw0 hR
 go_wp2_with fail
 refine (uh cI _).mono ?_
 rintro e wy ⟨rfl,hy⟩
 subst wy
 clear cI
 go_wp2_with fail
 refine (uh cw _).mono ?_
 rintro e wa ⟨c,kc,hkc,hkw,hG,hSo,gC,gE,gI,cC,cE,cI,rfl,hcap,l1,l2,l3,n1,n2,n3,hL,hg⟩
 have hW:=hide (Gd.law_new (cC:=cC) (cI:=cI) (s:=Gd.head seed (1+floor % 3)) (g:=Gd.give (fun _=>0) 0 (0 % 1000)) (uh hg0) hcap.1 l1 l2 l3 n1 n2 n3 hL hg)
 have hG':=hide hG
 have hSo':=hide hSo
 have hcC:Hid (384≤cC∧w.heap.size≤gC):=⟨hcap.2,Nat.le_trans (uh hg0).size l1⟩
 have hrs:=hide ((uh hres).on (gtr hg (World.grownBy_alloc wa (.cells #[.int .i64 ((Gd.head seed (1+floor % 3)) 0),.int .i64 ((Gd.head seed (1+floor % 3)) 1),.int .i64 ((Gd.head seed (1+floor % 3)) 2),.int .i64 ((Gd.head seed (1+floor % 3)) 3),.slice (some ⟨gC,0,none⟩) 384 cC,.slice (some ⟨gE,0,none⟩) 32 cE,.slice (some ⟨gI,0,none⟩) 40 cI,.int .i64 ((Gd.give (fun _=>0) 0 (0 % 1000)) 0),.int .i64 ((Gd.give (fun _=>0) 0 (0 % 1000)) 1),.int .i64 ((Gd.give (fun _=>0) 0 (0 % 1000)) 2),.int .i64 ((Gd.give (fun _=>0) 0 (0 % 1000)) 3)] 28) none)))
 have hXR:Hid (R<wa.heap.size):=Nat.lt_of_lt_of_le (uh hres).lt hg.size
 clear hcap l1 l2 l3 n1 n2 n3 hL hg hG hSo cw hkw hkc t1 t2 hres hg0
 obtain ⟨vs,hvs⟩:∃vs,Gd.head seed (1+floor % 3)=vs:=⟨_,rfl⟩
 have VS:Hid (vs 0=seed∧vs 1=0∧vs 2=1+floor % 3∧vs 3=0):=by rw [←hvs];exact ⟨rfl,rfl,rfl,rfl⟩
 rw [hvs] at hW hG' hrs ⊢
 clear hvs
 obtain ⟨vg,hvg⟩:∃vg,Gd.give (fun _=>0) 0 (0 % 1000)=vg:=⟨_,rfl⟩
 rw [hvg] at hW hG' hrs ⊢
 clear hvg
 obtain ⟨E,hE⟩:∃E,En.put (fun _ _=>0) r (Gd.folk 0 kc ((1+3*m) % 20))=E:=⟨_,rfl⟩
 have EV:Hid (E r 9=0∧E r 10=0∧∀k,k≠r→E k=fun _=>0):=by rw [←hE,En.put_same];exact ⟨rfl,rfl,fun k hk=>En.put_other hk⟩
 rw [hE] at hW hG' hSo'
 clear hE
 unfold Gd.world at hW ⊢
 go_upto_region 2 with fail
 obtain ⟨X,hXe⟩:∃X,wa.heap.size=X:=⟨_,rfl⟩
 rw [hXe] at hW hXR ⊢
 clear hXe
 generalize wa.alloc (.cells #[.int .i64 (vs 0),.int .i64 (vs 1),.int .i64 (vs 2),.int .i64 (vs 3),.slice (some ⟨gC,0,none⟩) 384 cC,.slice (some ⟨gE,0,none⟩) 32 cE,.slice (some ⟨gI,0,none⟩) 40 cI,.int .i64 (vg 0),.int .i64 (vg 1),.int .i64 (vg 2),.int .i64 (vg 3)] 28)=wv at hW hrs ⊢
 clear wa w0
 have b5:=(uh hW).eleven.2.2.2.2.2.1
 have ch:=hide (refHero7_any gE cE E 0 wv (uh hW).hold.lists.own)
 rw [(uh hSo').hero] at ch
 go_wp2_with fail
 refine (uh ch).mono ?_
 rintro e wh ⟨rfl,hg⟩
 have hX:=hide ((uh hW).on hg)
 have hr2:=hide ((uh hrs).on hg)
 clear hW hg ch b5 hrs
 have b5:=(uh hX).eleven.2.2.2.2.2.1
 have hk':(r:Int)<32:=by have:=(uh hSo').lt;omega
 have r5:=((uh hX).hold.lists.own.ents.row (uh hSo').lt).2.2.2.2.2.1
 have fE:=(uh hX).hold.lists.ents.free
 have hX1:=hide ((uh hX).stat r 5 (by omega) 20)
 have hr3:=hide ((uh hr2).other ((uh hX).hold.lists.ents.type_ne (uh hr2) (by decide)) (r*11+5) (.int .i64 20))
 clear hX hr2
 go_upto_region 4 with fail
 generalize wh.setCell ⟨gE,r*11+5,none⟩ (.int .i64 20)=ws at hX1 hr3 ⊢
 clear r5 fE b5 hk'
 have b1:=(uh hX1).eleven.2.1
 have fX:=(uh hX1).hold.box.free
 have hX2:=hide ((uh hX1).num 1 (by omega) 1)
 have hr4:=hide ((uh hr3).other (Nat.ne_of_gt (uh hXR)) 1 (.int .i64 1))
 clear hX1 hr3
 go_upto_region 5 with fail
 generalize ws.setCell ⟨X,1,none⟩ (.int .i64 1)=wt at hX2 hr4 ⊢
 clear b1 fX ws
 obtain ⟨b0,b1,b2,b3,b4,b5,b6,b7,b8,b9,b10⟩:=(uh hX2).eleven
 have fz:=(uh hr4).free
 obtain ⟨z0,z1,z2,z3,z4,z5,z6,z7,z8,z9,z10⟩:=Gd.res_cells (uh hr4)
 have hfo:Hid (∀l,∃S:Cr.W,Cr.Alone seed floor r S∧Gd.WorldsW w S.s S.g S.c S.E S.I (.returned (.agg (Gd.world (Cr.num vs 1 1) gC gE gI cC cE cI vg))) (wt.setCells R 0 l)):=fun l=>by
  have k:=(uh hSo').whole (uh hG').sane (v:=20) (by omega) (by omega)
  have hh:=(uh hX2).hold
  have q1:=(uh hr4).type_ne hh.lists.cells (by decide)
  have q2:=(uh hr4).type_ne hh.lists.ents (by decide)
  have q3:=(uh hr4).type_ne hh.lists.items (by decide)
  refine ⟨⟨Cr.num vs 1 1,vg,c,Gd.set E r 5 20,fun _ _=>0⟩,⟨⟨k.1,(uh hG').floor,(uh hG').gold,(uh hG').f1,(uh hG').f3,(uh hG').s0,(uh hG').s2⟩,k.2,(uh VS).1,Cr.num_at vs 1 1,(uh VS).2.2.1,(uh VS).2.2.2,rfl,?_,?_,?_⟩,gC,gE,gI,cC,cE,cI,rfl,⟨(uh hX2).cap,(uh hcC).1⟩,(uh hcC).2,(uh hX2).lE,(uh hX2).lI,hh.cE,hh.cI,hh.eI,⟨hh.lists.cells.others q1 _ _,hh.lists.ents.others q2 _ _,hh.lists.items.others q3 _ _⟩,own_sets (by rw [uh hR'];exact Nat.le_refl _) _ 0 wt (uh hX2).grown⟩
  ·show Gd.set E r 5 20 r 9=0
   rw [Gd.set_other (by omega)]
   exact (uh EV).1
  ·show Gd.set E r 5 20 r 10=0
   rw [Gd.set_other (by omega)]
   exact (uh EV).2.1
  ·intro k hk
   show Gd.set E r 5 20 k=_
   rw [Ft.set_row _ _ _ _ _ hk]
   exact (uh EV).2.2 k hk
 clear hX2 hr4 hG' hSo' VS EV hcC hXR hR'
 go_wp2
 refine bodyPost_ret (v:=.agg (Gd.world (Cr.num vs 1 1) gC gE gI cC cE cI vg)) (by simp [results,Tryz.results8,go_sem,Gd.world,z0,z1,z2,z3,z4,z5,z6,z7,z8,z9,z10]) rfl ?_
 exact uh hfo [_,_,_,_,_,_,_,_,_,_,_]

end Go.Proofs.YtbanjoflgoiegabGreat
