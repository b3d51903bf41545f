import Derived.Test.YtbanjoflgoiegabGreatPf16
namespace Go.Proofs.YtbanjoflgoiegabGreat
open Go.RowKit

theorem Gd.ware_hit {I:Nat→Nat→Int} {n k:Nat} (hno:∀j:Nat,j<k→decide (0≤Gd.find I n 4 (j:Int) 0)=false) (hk:0≤Gd.find I n 4 (k:Int) 0) (h3:k<3):Gd.ware I n=Gd.find I n 4 (k:Int) 0:=by
 unfold Gd.ware
 rw [En.first_hit (q:=fun k:Nat=>decide (0≤Gd.find I n 4 (k:Int) 0)) hno (decide_eq_true hk) h3,if_pos (by omega)]

theorem Gd.ware_none {I:Nat→Nat→Int} {n:Nat} (hno:∀j:Nat,j<3→decide (0≤Gd.find I n 4 (j:Int) 0)=false):Gd.ware I n=-1:=by
 unfold Gd.ware
 rw [En.first_none (q:=fun k:Nat=>decide (0≤Gd.find I n 4 (k:Int) 0)) hno,if_neg (by omega)]

structure Gd.Near (x:World) (B gC gE gI cC cI k s:Nat) (X Y G:Int):Prop where
 lB:B<x.heap.size
 lE:gE<x.heap.size
 k32:k<32
 s4:s<4
 b4:x.cell? ⟨B,4,none⟩=some (.slice (some ⟨gC,0,none⟩) 384 cC)
 b6:x.cell? ⟨B,6,none⟩=some (.slice (some ⟨gI,0,none⟩) 40 cI)
 b7:x.cell? ⟨B,7+s,none⟩=some (.int .i64 G)
 e2:x.cell? ⟨gE,k*11+2,none⟩=some (.int .i64 (s:Int))
 e3:x.cell? ⟨gE,k*11+3,none⟩=some (.int .i64 X)
 e4:x.cell? ⟨gE,k*11+4,none⟩=some (.int .i64 Y)

theorem Gd.Near.on {x y:World} {B gC gE gI cC cI k s:Nat} {X Y G:Int} (h:Gd.Near x B gC gE gI cC cI k s X Y G) (hg:x.grownBy y none):Gd.Near y B gC gE gI cC cI k s X Y G :=
 have t:=fun (b i:Nat) (hb:b<x.heap.size)=>gce hg b i hb (by simp)
 { lB:=Nat.lt_of_lt_of_le h.lB hg.size,lE:=Nat.lt_of_lt_of_le h.lE hg.size,k32:=h.k32,s4:=h.s4,b4:=(t _ _ h.lB).trans h.b4,b6:=(t _ _ h.lB).trans h.b6,b7:=(t _ _ h.lB).trans h.b7,e2:=(t _ _ h.lE).trans h.e2,e3:=(t _ _ h.lE).trans h.e3,e4:=(t _ _ h.lE).trans h.e4 }

theorem Gd.Hold.near {x:World} {B gC gE gI cC cE cI:Nat} {s g c:Nat→Int} {E I:Nat→Nat→Int} (h:Gd.Hold x B gC gE gI cC cE cI s g c E I) {k t:Nat} (hk:k<32) (ht:t<4) (he:E k 2=(t:Int)):Gd.Near x B gC gE gI cC cI k t (E k 3) (E k 4) (g t) :=
 have r:=h.lists.own.ents.row hk
 { lB:=h.box.lt,lE:=h.lists.ents.lt,k32:=hk,s4:=ht,b4:=h.box.cell (c:=4) (by omega),b6:=h.box.cell (c:=6) (by omega),b7:=by rw [h.box.cell (c:=7+t) (by omega),Gd.box_gold _ _ _ _ _ _ _ _ t ht],e2:=by rw [←he];exact r.2.2.1,e3:=r.2.2.2.1,e4:=r.2.2.2.2.1 }

set_option maxHeartbeats 1600000 in
theorem ware_not (B gC gE gI cC cI k s:Nat) (X Y G A:Int) (w:World) (hN:Gd.Near w B gC gE gI cC cI k s X Y G) (cA:∀m,Calls Tryz.prog 72 #[.slice (some ⟨gC,0,none⟩) 384 cC,.int .i64 X,.int .i64 Y] (w.drewN m) fun e w'=>e=.returned (.int .i64 A)∧w'=w.drewN m) (hA:¬A=5) :
  Calls Tryz.prog 147 #[.pointer (some ⟨B,0,none⟩),.pointer (some ⟨gE,k*11,none⟩)] w (Says w (.int .i64 (-1))):=by
 obtain ⟨lB,lE,k32,s4,b4,b6,b7,e2,e3,e4⟩:=hN
 have s4':(s:Int)<4:=by omega
 have hA':(A == 5)=false:=by simp [hA]
 have hdr:Hid (∀m,w.grownBy (w.drewN m) none):=fun m=>gdw (World.grownBy.refl _ _) m
 go_enter Tryz.func147,Tryz.ntmps147
 go_wp2_with fail
 go_quiet ((go_at_call 72;exact Calls.quiet_of_same (cA _)))
 go_wp2
 go_ret
 exact ⟨rfl,uh hdr _⟩

set_option maxHeartbeats 1600000 in
theorem ware_poor (B gC gE gI cC cI k s:Nat) (X Y G:Int) (w:World) (hN:Gd.Near w B gC gE gI cC cI k s X Y G) (cA:∀m,Calls Tryz.prog 72 #[.slice (some ⟨gC,0,none⟩) 384 cC,.int .i64 X,.int .i64 Y] (w.drewN m) fun e w'=>e=.returned (.int .i64 5)∧w'=w.drewN m) (hG:G<5) :
  Calls Tryz.prog 147 #[.pointer (some ⟨B,0,none⟩),.pointer (some ⟨gE,k*11,none⟩)] w (Says w (.int .i64 (-1))):=by
 obtain ⟨lB,lE,k32,s4,b4,b6,b7,e2,e3,e4⟩:=hN
 have s4':(s:Int)<4:=by omega
 have hdr:Hid (∀m,w.grownBy (w.drewN m) none):=fun m=>gdw (World.grownBy.refl _ _) m
 go_enter Tryz.func147,Tryz.ntmps147
 go_wp2_with fail
 go_quiet ((go_at_call 72;exact Calls.quiet_of_same (cA _)))
 go_wp2
 go_ret
 exact ⟨rfl,uh hdr _⟩

set_option maxHeartbeats 1600000 in
theorem ware_shop (B gC gE gI cC cI k s:Nat) (X Y G:Int) (w:World) (hN:Gd.Near w B gC gE gI cC cI k s X Y G) (cA:∀m,Calls Tryz.prog 72 #[.slice (some ⟨gC,0,none⟩) 384 cC,.int .i64 X,.int .i64 Y] (w.drewN m) fun e w'=>e=.returned (.int .i64 5)∧w'=w.drewN m) (hG:¬G<5) (I:Nat→Nat→Int) (hI:Its w gI 0 40 I) :
  Calls Tryz.prog 147 #[.pointer (some ⟨B,0,none⟩),.pointer (some ⟨gE,k*11,none⟩)] w (Says w (.int .i64 (Gd.ware I 40))):=by
 have hN':=hide hN
 have hI':=hide hI
 obtain ⟨lB,lE,k32,s4,b4,b6,b7,e2,e3,e4⟩:=hN
 have s4':(s:Int)<4:=by omega
 have hdr:Hid (∀m,w.grownBy (w.drewN m) none):=fun m=>gdw (World.grownBy.refl _ _) m
 clear hI
 go_enter Tryz.func147,Tryz.ntmps147
 go_wp2_with fail
 go_quiet ((go_at_call 72;exact Calls.quiet_of_same (cA _)))
 obtain ⟨wq,hwq⟩:∃wq,w.drewN nq=wq:=⟨_,rfl⟩
 have hgq:=hide (uh hdr nq)
 rw [hwq] at hgq ⊢
 clear b4 b6 b7 e2 e3 e4 cA hdr hwq
 go_wp2_with fail
 go_loopw [33] (fun i wr=>∃j:Nat,j≤3∧i=.int .i64 (j:Int)∧(∀t:Nat,t<j→decide (0≤Gd.find I 40 4 (t:Int) 0)=false)∧w.grownBy wr none) (fun i _=>200 - (intOf i).toNat)
 case atStart=>exact ⟨0,by omega,rfl,fun j hj=>by omega,uh hgq⟩
 case round =>
  obtain ⟨j,hj,rfl,hno,hgr⟩:=hrel
  have hno':=hide hno
  have hgr':=hide hgr
  clear hno hgr
  by_cases hlt:j<3
  ·have hlt':(j:Int)<3:=by omega
   have HL:=hide hlt
   have b6:=((uh hN').on (uh hgr')).b6
   have cat:=hide (goodsAt_any gI 40 cI I 4 (j:Int) 0 wr ((uh hI').on (uh hgr')))
   obtain ⟨f,hf⟩:∃f,Gd.find I 40 4 (j:Int) 0=f:=⟨_,rfl⟩
   rw [hf] at cat
   have hf':=hide hf
   clear hlt hf
   go_wp2_with fail
   refine (uh cat).mono ?_
   rintro e w1 ⟨rfl,hg1⟩
   have hg2:=hide (gtr (uh hgr') hg1)
   clear hg1 cat b6
   by_cases hpos:0≤f
   ·have he:=hide ((Gd.ware_hit (uh hno') (by rw [uh hf'];exact hpos) (uh HL)).trans (uh hf'))
    go_wp2
    go_ret
    exact ⟨rti (uh he).symm,uh hg2⟩
   ·have hq:=hide (show decide (0≤Gd.find I 40 4 (j:Int) 0)=false by rw [uh hf'];exact decide_eq_false hpos)
    have hneg:f<0:=by omega
    go_wp2
    go_roundw
    case rel=>exact ⟨j+1,by have:=uh HL;omega,by go_num,fun t ht=>by
     by_cases e:t=j
     ·rw [e];exact uh hq
     ·exact uh hno' t (by omega),uh hg2⟩
    case measure=>simp [intOf];omega
  ·have hge:¬(j:Int)<3:=by omega
   have he:=hide (Gd.ware_none (I:=I) (n:=40) (fun t ht=>uh hno' t (by omega)))
   go_wp2
   go_ret
   exact ⟨rti (uh he).symm,uh hgr'⟩

def Gd.want (I:Nat→Nat→Int) (s X Y:Int) (shop:Bool) (G input:Int):Int :=
 if input=5 then Gd.find I 40 1 X Y
 else if input=10 then (if shop=true∧5≤G then Gd.ware I 40 else -1)
 else if input=8 then (if 0≤Gd.find I 40 1 X Y then -1 else Gd.car I 40 s (fun k=>Gd.serves k 8))
 else if input=6 then Gd.car I 40 s (fun k=>Gd.serves k 6)
 else if input=7 then Gd.car I 40 s (fun k=>Gd.serves k 7)
 else -1

theorem wareSays_any (B gC gE gI cC cI k s:Nat) (X Y G:Int) (c:Nat→Int) (I:Nat→Nat→Int) (w:World) (hN:Gd.Near w B gC gE gI cC cI k s X Y G) (hC:Vec w.heap.size w (some ⟨gC,0,none⟩) 384 (Byts c)) (hc:∀i,0≤c i∧c i≤255) (hI:Its w gI 0 40 I) :
  Calls Tryz.prog 147 #[.pointer (some ⟨B,0,none⟩),.pointer (some ⟨gE,k*11,none⟩)] w (Says w (.int .i64 (if decide (Gr.at 384 c X Y=5)=true∧5≤G then Gd.ware I 40 else -1))):=by
 have cA:=fun m=>at_any w.heap.size (some ⟨gC,0,none⟩) 384 cC c X Y (w.drewN m) (hC.drew m) hc
 by_cases hA:Gr.at 384 c X Y=5
 ·rw [hA] at cA
  by_cases hG:G<5
  ·rw [if_neg (by omega)]
   exact ware_poor B gC gE gI cC cI k s X Y G w hN cA hG
  ·rw [if_pos ⟨by simp [hA],by omega⟩]
   exact ware_shop B gC gE gI cC cI k s X Y G w hN cA hG I hI
 ·rw [if_neg (by simp [hA])]
  exact ware_not B gC gE gI cC cI k s X Y G _ w hN cA hA


open Go.RowKit

set_option maxHeartbeats 3200000 in
theorem wanted_any (B gC gE gI cC cI k s:Nat) (X Y G input:Int) (c:Nat→Int) (I:Nat→Nat→Int) (w:World) (hN:Gd.Near w B gC gE gI cC cI k s X Y G) (hC:Vec w.heap.size w (some ⟨gC,0,none⟩) 384 (Byts c)) (hc:∀i,0≤c i∧c i≤255) (hI:Its w gI 0 40 I) :
  Calls Tryz.prog 135 #[.pointer (some ⟨B,0,none⟩),.pointer (some ⟨gE,k*11,none⟩),.int .i64 input] w (Says w (.int .i64 (Gd.want I (s:Int) X Y (decide (Gr.at 384 c X Y=5)) G input))):=by
 have hN':=hide hN
 have hI':=hide hI
 have hC':=hide hC
 have hc':=hide hc
 obtain ⟨lB,lE,k32,s4,b4,b6,b7,e2,e3,e4⟩:=hN
 obtain ⟨r,hr⟩:∃r,Gd.want I (s:Int) X Y (decide (Gr.at 384 c X Y=5)) G input=r:=⟨_,rfl⟩
 rw [hr]
 have hr':=hide hr
 obtain ⟨f,hf⟩:∃f,Gd.find I 40 1 X Y=f:=⟨_,rfl⟩
 have hf':=hide hf
 clear hI hC hc hr
 go_enter Tryz.func135,Tryz.ntmps135
 go_wp2_with fail
 refine wp_region_grown (by kernel_rfl) (by kernel_rfl) ?_
 intro St hS W hJ hx
 have c6:∀σ,(W σ).cell? ⟨B,6,none⟩=some (.slice (some ⟨gI,0,none⟩) 40 cI):=fun σ=>(gce (hJ σ) B 6 lB (by simp)).trans b6
 have cu:∀σ,Calls Tryz.prog 140 #[.pointer (some ⟨gE,k*11,none⟩)] (W σ) fun e w''=>e=.returned (.agg #[.int .i64 1,.int .i64 X,.int .i64 Y])∧∃σ',w''=W σ':=fun σ=>calls_class hJ hx (under_any gE (k*11) X Y (W σ) ((uh hN').on (hJ σ)).e3 ((uh hN').on (hJ σ)).e4 ((uh hN').on (hJ σ)).lE)
 have ca:∀σ,Calls Tryz.prog 146 #[.slice (some ⟨gI,0,none⟩) 40 cI,.agg #[.int .i64 1,.int .i64 X,.int .i64 Y]] (W σ) fun e w''=>e=.returned (.int .i64 f)∧∃σ',w''=W σ':=fun σ=>by
  have h:=goodsAt_any gI 40 cI I 1 X Y (W σ) ((uh hI').on (hJ σ))
  rw [hf] at h
  exact calls_class hJ hx h
 have hJ':=hide hJ
 clear hJ hx hf b4 b6 b7 e2 e3 e4
 repeat (go_big_quiet_step (first | (go_at_call 140;exact cu _) | (go_at_call 146;exact ca _)))
 refine wpQuiet_nil ?_
 rintro _ ⟨σ,rfl⟩
 obtain ⟨wq,hwq⟩:∃wq,W σ=wq:=⟨_,rfl⟩
 have hgq:=hide (uh hJ' σ)
 rw [hwq] at hgq ⊢
 clear c6 cu ca hJ' hwq
 clear σ W hS St
 by_cases h5:input=5
 ·have he:=hide (show f=r by rw [←uh hr',Gd.want,if_pos h5,uh hf'])
  subst h5
  go_wp2
  go_ret
  exact ⟨rti (uh he),uh hgq⟩
 ·by_cases h10:input=10
  ·have he:=uh hr'
   rw [Gd.want,if_neg h5,if_pos h10] at he
   have cw:=wareSays_any B gC gE gI cC cI k s X Y G c I wq ((uh hN').on (uh hgq)) (((uh hC').kept (none_below (uh hgq))).mono (uh hgq).size) (uh hc') ((uh hI').on (uh hgq))
   rw [he] at cw
   have cw':=hide cw
   subst h10
   clear h5 he cw
   go_wp2_with fail
   refine (uh cw').mono ?_
   rintro e w1 ⟨rfl,hg1⟩
   have hg2:=hide (gtr (uh hgq) hg1)
   clear hg1 cw'
   go_wp2
   go_ret
   exact ⟨rfl,uh hg2⟩
  ·by_cases h8:input=8
   ·have he:=uh hr'
    rw [Gd.want,if_neg h5,if_neg h10,if_pos h8,uh hf'] at he
    subst h8
    clear h5 h10
    by_cases hp:0≤f
    ·rw [if_pos hp] at he
     have he':=hide he
     clear he
     go_wp2
     go_ret
     exact ⟨rti (uh he'),uh hgq⟩
    ·rw [if_neg hp] at he
     have hp':f<0:=by omega
     have cc:=fun x (hx:wq.grownBy x none)=>carried_any gI 40 cI I (s:Int) 8 x ((uh hI').on (gtr (uh hgq) hx))
     rw [he] at cc
     have b6:=((uh hN').on (uh hgq)).b6
     have e2:=((uh hN').on (uh hgq)).e2
     have lB':=((uh hN').on (uh hgq)).lB
     have lE':=((uh hN').on (uh hgq)).lE
     clear he
     go_wp2_with fail
     refine wp_region_grown (by kernel_rfl) (by kernel_rfl) ?_
     intro St hS W hJ hx
     have c6:∀σ,(W σ).cell? ⟨B,6,none⟩=some (.slice (some ⟨gI,0,none⟩) 40 cI):=fun σ=>(gce (hJ σ) B 6 lB' (by simp)).trans b6
     have c2:∀σ,(W σ).cell? ⟨gE,k*11+2,none⟩=some (.int .i64 (s:Int)):=fun σ=>(gce (hJ σ) gE _ lE' (by simp)).trans e2
     have ca:∀σ,Calls Tryz.prog 148 #[.slice (some ⟨gI,0,none⟩) 40 cI,.int .i64 (s:Int),.int .i64 8] (W σ) fun e w''=>e=.returned (.int .i64 r)∧∃σ',w''=W σ':=fun σ=>calls_class hJ hx (cc (W σ) (hJ σ))
     have hJ':=hide hJ
     clear hJ hx b6 e2 cc
     repeat (go_big_quiet_step ((go_at_call 148;exact ca _)))
     refine wpQuiet_nil ?_
     rintro _ ⟨σ,rfl⟩
     obtain ⟨wz,hwz⟩:∃wz,W σ=wz:=⟨_,rfl⟩
     have hgz:=hide (gtr (uh hgq) (uh hJ' σ))
     rw [hwz] at hgz ⊢
     clear c6 c2 ca hJ' hwz
     clear σ W hS St
     go_wp2
     go_ret
     exact ⟨rfl,uh hgz⟩
   ·by_cases h6:input=6
    ·have he:=uh hr'
     rw [Gd.want,if_neg h5,if_neg h10,if_neg h8,if_pos h6] at he
     subst h6
     clear h5 h10 h8
     have cc:=fun x (hx:wq.grownBy x none)=>carried_any gI 40 cI I (s:Int) 6 x ((uh hI').on (gtr (uh hgq) hx))
     rw [he] at cc
     have b6:=((uh hN').on (uh hgq)).b6
     have e2:=((uh hN').on (uh hgq)).e2
     have lB':=((uh hN').on (uh hgq)).lB
     have lE':=((uh hN').on (uh hgq)).lE
     clear he
     go_wp2_with fail
     refine wp_region_grown (by kernel_rfl) (by kernel_rfl) ?_
     intro St hS W hJ hx
     have c6:∀σ,(W σ).cell? ⟨B,6,none⟩=some (.slice (some ⟨gI,0,none⟩) 40 cI):=fun σ=>(gce (hJ σ) B 6 lB' (by simp)).trans b6
     have c2:∀σ,(W σ).cell? ⟨gE,k*11+2,none⟩=some (.int .i64 (s:Int)):=fun σ=>(gce (hJ σ) gE _ lE' (by simp)).trans e2
     have ca:∀σ,Calls Tryz.prog 148 #[.slice (some ⟨gI,0,none⟩) 40 cI,.int .i64 (s:Int),.int .i64 6] (W σ) fun e w''=>e=.returned (.int .i64 r)∧∃σ',w''=W σ':=fun σ=>calls_class hJ hx (cc (W σ) (hJ σ))
     have hJ':=hide hJ
     clear hJ hx b6 e2 cc
     repeat (go_big_quiet_step ((go_at_call 148;exact ca _)))
     refine wpQuiet_nil ?_
     rintro _ ⟨σ,rfl⟩
     obtain ⟨wz,hwz⟩:∃wz,W σ=wz:=⟨_,rfl⟩
     have hgz:=hide (gtr (uh hgq) (uh hJ' σ))
     rw [hwz] at hgz ⊢
     clear c6 c2 ca hJ' hwz
     clear σ W hS St
     go_wp2
     go_ret
     exact ⟨rfl,uh hgz⟩
    ·by_cases h7:input=7
     ·have he:=uh hr'
      rw [Gd.want,if_neg h5,if_neg h10,if_neg h8,if_neg h6,if_pos h7] at he
      subst h7
      clear h5 h10 h8 h6
      have cc:=fun x (hx:wq.grownBy x none)=>carried_any gI 40 cI I (s:Int) 7 x ((uh hI').on (gtr (uh hgq) hx))
      rw [he] at cc
      have b6:=((uh hN').on (uh hgq)).b6
      have e2:=((uh hN').on (uh hgq)).e2
      have lB':=((uh hN').on (uh hgq)).lB
      have lE':=((uh hN').on (uh hgq)).lE
      clear he
      go_wp2_with fail
      refine wp_region_grown (by kernel_rfl) (by kernel_rfl) ?_
      intro St hS W hJ hx
      have c6:∀σ,(W σ).cell? ⟨B,6,none⟩=some (.slice (some ⟨gI,0,none⟩) 40 cI):=fun σ=>(gce (hJ σ) B 6 lB' (by simp)).trans b6
      have c2:∀σ,(W σ).cell? ⟨gE,k*11+2,none⟩=some (.int .i64 (s:Int)):=fun σ=>(gce (hJ σ) gE _ lE' (by simp)).trans e2
      have ca:∀σ,Calls Tryz.prog 148 #[.slice (some ⟨gI,0,none⟩) 40 cI,.int .i64 (s:Int),.int .i64 7] (W σ) fun e w''=>e=.returned (.int .i64 r)∧∃σ',w''=W σ':=fun σ=>calls_class hJ hx (cc (W σ) (hJ σ))
      have hJ':=hide hJ
      clear hJ hx b6 e2 cc
      repeat (go_big_quiet_step ((go_at_call 148;exact ca _)))
      refine wpQuiet_nil ?_
      rintro _ ⟨σ,rfl⟩
      obtain ⟨wz,hwz⟩:∃wz,W σ=wz:=⟨_,rfl⟩
      have hgz:=hide (gtr (uh hgq) (uh hJ' σ))
      rw [hwz] at hgz ⊢
      clear c6 c2 ca hJ' hwz
      clear σ W hS St
      go_wp2
      go_ret
      exact ⟨rfl,uh hgz⟩
     ·have he:=uh hr'
      rw [Gd.want,if_neg h5,if_neg h10,if_neg h8,if_neg h6,if_neg h7] at he
      have he':=hide he
      clear he
      go_wp2
      go_ret
      exact ⟨rti (uh he'),uh hgq⟩


open Go.RowKit

set_option maxHeartbeats 800000 in
theorem refIn7_same (b n c:Nat) (I:Nat→Nat→Int) (p a q:Int) (w:World) (hI:Its w b 0 n I) :
  Calls Tryz.prog 34 #[.slice (some ⟨b,0,none⟩) n c,.int .i64 p,.int .i64 a,.int .i64 q] w fun e w'=>e=.returned (.int .i64 (Gd.find I n p a q))∧w'=w:=by
 have hn:=hI.1
 have hI':=hide hI
 clear hI
 go_enter Tryz.func34,Tryz.ntmps34
 go_wp2_with fail
 go_loop [9] (fun i=>∃k:Nat,k≤n∧i=.int .i64 (k:Int)∧∀j,j<k→Gd.inQ I p a q j=false) (fun i=>200 - (intOf i).toNat)
 case atStart=>exact ⟨0,by omega,rfl,fun j hj=>by omega⟩
 case round =>
  obtain ⟨k,hk,rfl,hno⟩:=hrel
  have hno':=hide hno
  clear hno
  by_cases hlt:k<n
  ·obtain ⟨_,u1,u2,u3⟩:=(uh hI').row hlt
   have hlt':(k:Int)<(n:Int):=by omega
   have HL:=hide hlt
   clear hlt
   by_cases h1:I k 1=p
   ·by_cases h2:I k 2=a
    ·by_cases h3:I k 3=q
     ·have he:=hide (En.first_hit (uh hno') (Gd.inQ_yes h1 h2 h3) (uh HL))
      go_wp2
      go_ret
      exact ⟨rti (uh he).symm,rfl⟩
     ·have hq:=hide (Gd.inQ_no (I:=I) (p:=p) (a:=a) (q:=q) (k:=k) (fun h=>h3 h.2.2))
      have h3':(I k 3 == q)=false:=by simp [h3]
      go_wp2
      go_round
      case rel=>exact ⟨k+1,by have:=uh HL;omega,by go_num,fun j hj=>by
       by_cases e:j=k
       ·rw [e];exact uh hq
       ·exact uh hno' j (by omega)⟩
      case measure=>simp [intOf];omega
    ·have hq:=hide (Gd.inQ_no (I:=I) (p:=p) (a:=a) (q:=q) (k:=k) (fun h=>h2 h.2.1))
     have h2':(I k 2 == a)=false:=by simp [h2]
     go_wp2
     go_round
     case rel=>exact ⟨k+1,by have:=uh HL;omega,by go_num,fun j hj=>by
      by_cases e:j=k
      ·rw [e];exact uh hq
      ·exact uh hno' j (by omega)⟩
     case measure=>simp [intOf];omega
   ·have hq:=hide (Gd.inQ_no (I:=I) (p:=p) (a:=a) (q:=q) (k:=k) (fun h=>h1 h.1))
    have h1':(I k 1 == p)=false:=by simp [h1]
    go_wp2
    go_round
    case rel=>exact ⟨k+1,by have:=uh HL;omega,by go_num,fun j hj=>by
     by_cases e:j=k
     ·rw [e];exact uh hq
     ·exact uh hno' j (by omega)⟩
    case measure=>simp [intOf];omega
  ·have hge:¬(k:Int)<(n:Int):=by omega
   have he:=hide (En.first_none (n:=n) (fun j hj=>uh hno' j (by omega)))
   go_wp2
   go_ret
   exact ⟨rti (uh he).symm,rfl⟩

end Go.Proofs.YtbanjoflgoiegabGreat
