import Derived.Test.YtapgkgbpekkdjabGreatPart30
import Derived.Test.YtapgkgbpekkdjabGreatPart32
namespace Go.Proofs.YtapgkgbpekkdjabGreat
open Go.RowKit

set_option maxHeartbeats 3200000 in
theorem snTwin_wide (s g c:Nat→Int) (E I:Nat→Nat→Int) (gC gE gI cC cE cI:Nat) (w:World) (hL:Gd.Lists w gC gE gI c E I) :
  Calls Tryz.prog 6 #[.agg (Gd.world s gC gE gI cC cE cI g)] w (Gd.WorldsW w s g c E I):=by
 have hL':=hide hL
 have hbox:=(Arr.world (heap_alloc_new w (.cells (Gd.world s gC gE gI cC cE cI g) 31))).alloc (.cells #[.int .i64 0,.int .i64 0,.int .i64 0,.int .i64 0,.slice none 0 0,.slice none 0 0,.slice none 0 0,.int .i64 0,.int .i64 0,.int .i64 0,.int .i64 0] 31)
 unfold Gd.world at hbox ⊢
 have hres:=Arr.lit (heap_alloc_new (w.alloc (.cells #[.int .i64 (s 0),.int .i64 (s 1),.int .i64 (s 2),.int .i64 (s 3),.slice (some ⟨gC,0,none⟩) 384 cC,.slice (some ⟨gE,0,none⟩) 32 cE,.slice (some ⟨gI,0,none⟩) 40 cI,.int .i64 (g 0),.int .i64 (g 1),.int .i64 (g 2),.int .i64 (g 3)] 31)) (.cells #[.int .i64 0,.int .i64 0,.int .i64 0,.int .i64 0,.slice none 0 0,.slice none 0 0,.slice none 0 0,.int .i64 0,.int .i64 0,.int .i64 0,.int .i64 0] 31))
 have hg0:w.grownBy ((w.alloc (.cells #[.int .i64 (s 0),.int .i64 (s 1),.int .i64 (s 2),.int .i64 (s 3),.slice (some ⟨gC,0,none⟩) 384 cC,.slice (some ⟨gE,0,none⟩) 32 cE,.slice (some ⟨gI,0,none⟩) 40 cI,.int .i64 (g 0),.int .i64 (g 1),.int .i64 (g 2),.int .i64 (g 3)] 31)).alloc (.cells #[.int .i64 0,.int .i64 0,.int .i64 0,.int .i64 0,.slice none 0 0,.slice none 0 0,.slice none 0 0,.int .i64 0,.int .i64 0,.int .i64 0,.int .i64 0] 31)) none:=gal (World.grownBy_alloc _ _ _) _
 rw [show (w.alloc (.cells #[.int .i64 (s 0),.int .i64 (s 1),.int .i64 (s 2),.int .i64 (s 3),.slice (some ⟨gC,0,none⟩) 384 cC,.slice (some ⟨gE,0,none⟩) 32 cE,.slice (some ⟨gI,0,none⟩) 40 cI,.int .i64 (g 0),.int .i64 (g 1),.int .i64 (g 2),.int .i64 (g 3)] 31)).heap.size=w.heap.size+1 by simp] at hres
 clear hL
 go_enter Tryz.func6,Tryz.ntmps6
 go_upto_region 1 with fail
 obtain ⟨w0,hw0⟩:∃w0,(w.alloc (.cells #[.int .i64 (s 0),.int .i64 (s 1),.int .i64 (s 2),.int .i64 (s 3),.slice (some ⟨gC,0,none⟩) 384 cC,.slice (some ⟨gE,0,none⟩) 32 cE,.slice (some ⟨gI,0,none⟩) 40 cI,.int .i64 (g 0),.int .i64 (g 1),.int .i64 (g 2),.int .i64 (g 3)] 31)).alloc (.cells #[.int .i64 0,.int .i64 0,.int .i64 0,.int .i64 0,.slice none 0 0,.slice none 0 0,.slice none 0 0,.int .i64 0,.int .i64 0,.int .i64 0,.int .i64 0] 31)=w0:=⟨_,rfl⟩
 rw [hw0] at hbox hres hg0 ⊢
 obtain ⟨B,hB⟩:∃B,w.heap.size=B:=⟨_,rfl⟩
 rw [hB] at hbox hres ⊢
 have hbox':=hide hbox
 have hres':=hide hres
 have hg0':=hide hg0
 have hB':=hide hB
 have keep:Hid (∀y,Hid (w0.grownBy y none)→(y.cell? ⟨B,4,none⟩=some (.slice (some ⟨gC,0,none⟩) 384 cC)∧y.cell? ⟨B,5,none⟩=some (.slice (some ⟨gE,0,none⟩) 32 cE)∧y.cell? ⟨B,6,none⟩=some (.slice (some ⟨gI,0,none⟩) 40 cI))∧y.frozen? ⟨B,4,none⟩=false∧y.frozen? ⟨B,5,none⟩=false∧y.frozen? ⟨B,6,none⟩=false):=fun y hy=>by
  have h:=(uh hbox').grown (uh hy) (by simp)
  exact ⟨⟨h.cell (i:=4) (by omega),h.cell (i:=5) (by omega),h.cell (i:=6) (by omega)⟩,h.free 4,h.free 5,h.free 6⟩
 have hd:Hid (w0.grownBy w0.drew none):=gd1 (World.grownBy.refl _ _)
 have rd:Hid (∀y,Hid (w0.grownBy y none)→Gd.Lists y gC gE gI c E I):=fun y hy=>(uh hL').on (gtr (uh hg0') (uh hy))
 have c1:Hid (∀y,Hid (w0.grownBy y none)→Calls Tryz.prog 16 #[.slice (some ⟨gC,0,none⟩) 384 cC] y fun e w'=>∃g1,e=.returned (.slice (some ⟨g1,0,none⟩) 384 384)∧Hid (y.heap.size≤g1)∧Hid (Lie w' g1 5 384 (Byts c))∧Hid (y.grownBy w' none)∧Hid (w0.grownBy w' none)):=fun y hy =>
  (snTwinB_any gC 0 384 384 cC (Byts c) y (by omega) (by omega) (fun _=>rfl) (fun j hj=>by rw [Nat.zero_add];exact (uh rd y hy).read.1 j hj) (uh rd y hy).cells.lt).mono fun e w' ⟨g1,h1,h2,h3,h4⟩=>⟨g1,h1,h2,h3.lie,h4,gtr (uh hy) h4⟩
 have c2:Hid (∀y,Hid (w0.grownBy y none)→Calls Tryz.prog 17 #[.slice (some ⟨gE,0,none⟩) 32 cE] y fun e w'=>∃g1,e=.returned (.slice (some ⟨g1,0,none⟩) 32 32)∧Hid (y.heap.size≤g1)∧Hid (Lie w' g1 38 352 (En.flat E))∧Hid (y.grownBy w' none)∧Hid (w0.grownBy w' none)):=fun y hy =>
  (snTwinE_any gE 0 32 352 cE (En.flat E) y (by omega) (by omega) (fun _=>rfl) (fun j hj=>by rw [Nat.zero_add];exact (uh rd y hy).read.2.1 j hj) (uh rd y hy).ents.lt).mono fun e w' ⟨g1,h1,h2,h3,h4⟩=>⟨g1,h1,h2,h3.lie,h4,gtr (uh hy) h4⟩
 have c3:Hid (∀y,Hid (w0.grownBy y none)→Calls Tryz.prog 18 #[.slice (some ⟨gI,0,none⟩) 40 cI] y fun e w'=>∃g1,e=.returned (.slice (some ⟨g1,0,none⟩) 40 40)∧Hid (y.heap.size≤g1)∧Hid (Lie w' g1 40 160 (Gd.flat I))∧Hid (y.grownBy w' none)∧Hid (w0.grownBy w' none)):=fun y hy =>
  (snTwinI_any gI 0 40 160 cI (Gd.flat I) y (by omega) (by omega) (fun _=>rfl) (fun j hj=>by rw [Nat.zero_add];exact (uh rd y hy).read.2.2 j hj) (uh rd y hy).items.lt).mono fun e w' ⟨g1,h1,h2,h3,h4⟩=>⟨g1,h1,h2,h3.lie,h4,gtr (uh hy) h4⟩
 obtain ⟨⟨q4,q5,q6⟩,r4,r5,r6⟩:=uh keep w0 (World.grownBy.refl _ _)
 clear hbox hres hg0 hw0 hB
 go_cut [] from 3 (fun wx=>∃g1 g2 g3,Hid (Gd.Hold wx B g1 g2 g3 384 32 40 s g c E I∧B+2≤g1∧B+2≤g2∧B+2≤g3∧Arr wx (B+1) 31 11 (fun j=>#[.int .i64 0,.int .i64 0,.int .i64 0,.int .i64 0,.slice none 0 0,.slice none 0 0,.slice none 0 0,.int .i64 0,.int .i64 0,.int .i64 0,Value.int .i64 0][j]?.getD undef)∧w.grownBy wx none))
 case first =>
  go_region_with (first | (go_at_call 16;refine (uh c1 _ hd).mono ?_;rintro e w1 ⟨g1,rfl,l1,a1,n1,n01⟩;obtain ⟨⟨z4,z5,z6⟩,f4,f5,f6⟩:=uh keep w1 n01) | (go_at_call 17;refine (uh c2 _ n01).mono ?_;rintro e w2 ⟨g2,rfl,l2,a2,n2,n02⟩;obtain ⟨⟨z4,z5,z6⟩,f4,f5,f6⟩:=uh keep w2 n02) | (go_at_call 18;refine (uh c3 _ n02).mono ?_;rintro e w3 ⟨g3,rfl,l3,a3,n3,n03⟩;obtain ⟨⟨z4,z5,z6⟩,f4,f5,f6⟩:=uh keep w3 n03))
  all_goals
   go_wp2_with fail
   go_meet
   exact ⟨g1,g2,g3,Gd.apart_hold (uh hbox') (uh hres') (uh hg0') (uh hB') (uh hd) (uh l1) (uh a1) (uh n1) (uh l2) (uh a2) (uh n2) (uh l3) (uh a3) (uh n3)⟩
 case rest =>
  obtain ⟨g1,g2,g3,hr⟩:=hcut
  clear keep hd rd c1 c2 c3 q4 q5 q6 r4 r5 r6 hbox' hres' hg0' hL'
  obtain ⟨b0,b1,b2,b3,b4,b5,b6,b7,b8,b9,b10⟩:=(uh hr).1.box.eleven
  have fz:=(uh hr).2.2.2.2.1.free
  have zc:=fun j (hj:j<11)=>(uh hr).2.2.2.2.1.cell (i:=j) hj
  have z0:=zc 0 (by omega)
  have z1:=zc 1 (by omega)
  have z2:=zc 2 (by omega)
  have z3:=zc 3 (by omega)
  have z4:=zc 4 (by omega)
  have z5:=zc 5 (by omega)
  have z6:=zc 6 (by omega)
  have z7:=zc 7 (by omega)
  have z8:=zc 8 (by omega)
  have z9:=zc 9 (by omega)
  have z10:=zc 10 (by omega)
  simp only [List.getElem?_toArray,List.getElem?_cons_zero,List.getElem?_cons_succ,Option.getD_some] at z0 z1 z2 z3 z4 z5 z6 z7 z8 z9 z10
  have hfin:Hid (∀vs:List Value,Gd.Lists (wc.setCells (B+1) 0 vs) g1 g2 g3 c E I∧w.grownBy (wc.setCells (B+1) 0 vs) none):=fun vs=>by
   obtain ⟨hH,h1,h2,h3,hA,hg⟩:=uh hr
   have hB:=uh hB'
   have r:=gss (g:=B+1) vs 0 wc (World.grownBy.refl _ _)
   exact ⟨⟨hH.lists.cells.grown r (by simp;omega),hH.lists.ents.grown r (by simp;omega),hH.lists.items.grown r (by simp;omega)⟩,own_sets (by omega) vs 0 wc hg⟩
  clear zc
  go_wp2
  refine bodyPost_ret (v:=.agg (Gd.world s g1 g2 g3 384 32 40 g)) (by simp [results,Tryz.results6,go_sem,Gd.world,z0,z1,z2,z3,z4,z5,z6,z7,z8,z9,z10]) rfl ?_
  obtain ⟨hH,h1,h2,h3,_,_⟩:=uh hr
  have hB:=uh hB'
  exact ⟨g1,g2,g3,384,32,40,rfl,⟨Nat.le_refl _,Nat.le_refl _⟩,by omega,by omega,by omega,hH.cE,hH.cI,hH.eI,(uh hfin [_,_,_,_,_,_,_,_,_,_,_]).1,(uh hfin [_,_,_,_,_,_,_,_,_,_,_]).2⟩

theorem snTwin_any (s g c:Nat→Int) (E I:Nat→Nat→Int) (gC gE gI cC cE cI:Nat) (w:World) (hL:Gd.Lists w gC gE gI c E I) :
  Calls Tryz.prog 6 #[.agg (Gd.world s gC gE gI cC cE cI g)] w (Gd.Worlds w s g c E I) :=
 (snTwin_wide s g c E I gC gE gI cC cE cI w hL).mono fun _ _ h=>h.weak


open Go.RowKit

def Sn.allB (q:Nat→Bool):Nat→Bool
 | 0=>true
 | n+1=>Sn.allB q n && q n

theorem Sn.allB_yes {q:Nat→Bool}:∀{n:Nat},(∀k,k<n→q k=true)→Sn.allB q n=true
 | 0,_=>rfl
 | n+1,h=>by
  show (Sn.allB q n && q n)=true
  rw [Sn.allB_yes (fun k hk=>h k (by omega)),h n (by omega)]
  rfl

theorem Sn.allB_no {q:Nat→Bool} {k:Nat} (hk:q k=false):∀{n:Nat},k<n→Sn.allB q n=false
 | 0,h=>absurd h (by omega)
 | n+1,h=>by
  show (Sn.allB q n && q n)=false
  by_cases e:k=n
  ·rw [←e,hk,Bool.and_false]
  ·rw [Sn.allB_no hk (by omega),Bool.false_and]

set_option maxRecDepth 8000 in
set_option maxHeartbeats 3200000 in
theorem snEqualB_any (G H cap cap':Nat) (c d:Nat→Int) (w:World) (h1:Lie w G 5 384 (Byts c)) (h2:Lie w H 5 384 (Byts d)) :
  Calls Tryz.prog 20 #[.slice (some ⟨G,0,none⟩) 384 cap,.slice (some ⟨H,0,none⟩) 384 cap'] w (Says w (.bool (Sn.allB (fun i=>c i == d i) 384))):=by
 have h1':=hide h1
 have h2':=hide h2
 obtain ⟨A,hA⟩:∃A,Sn.allB (fun i=>c i == d i) 384=A:=⟨_,rfl⟩
 have hno:Hid (∀k,k<384→(fun i=>c i == d i) k=false→false=A):=fun k hk h=>by rw [←hA,Sn.allB_no h hk]
 have hyes:Hid ((∀k,k<384→(fun i=>c i == d i) k=true)→true=A):=fun h=>by rw [←hA,Sn.allB_yes h]
 rw [hA]
 clear h1 h2 hA
 go_enter Tryz.func20,Tryz.ntmps20
 go_wp2_with fail
 go_loopw [5,13] (fun v5 v13 wr=>∃k:Nat,k≤384∧v13=.int .i64 (k:Int)∧Hid (∀j,j<k→(fun i=>c i == d i) j=true)∧Hid (w.grownBy wr none)) (fun _ v13 _=>400 - (intOf v13).toNat)
 case atStart=>exact ⟨0,by omega,rfl,fun j hj=>absurd hj (by omega),World.grownBy.refl _ _⟩
 case round =>
  obtain ⟨k,hk,rfl,hall,hg⟩:=hrel
  by_cases hlt:k<384
  ·have hlt':(k:Int)<384:=by omega
   have HL:=hide hlt
   clear hlt hk
   have u0:wr.cell? ⟨G,k,none⟩=some (.int .u8 (c k)):=((uh h1').on (uh hg)).cell (uh HL)
   have v0:wr.cell? ⟨H,k,none⟩=some (.int .u8 (d k)):=((uh h2').on (uh hg)).cell (uh HL)
   obtain ⟨p,hpe⟩:∃p,(c k == d k)=p:=⟨_,rfl⟩
   have hq:Hid ((fun i=>c i == d i) k=p):=hpe
   have hp:(c k != d k)=!p:=by rw [←hpe];rfl
   clear hpe
   have hdr:Hid (∀m,w.grownBy (wr.drewN m) none):=fun m=>gdw (uh hg) m
   cases p with
   | true =>
    go_wp2_with fail
    go_quiet (fail)
    go_wp2
    go_roundw
    case rel=>exact ⟨k+1,by have:=uh HL;omega,by go_num,fun j hj=>by
     by_cases e:j=k
     ·rw [e];exact uh hq
     ·exact uh hall j (by omega),uh hdr _⟩
    case measure=>simp [intOf];have:=uh HL;omega
   | false =>
    have hf:=hide (uh hno k (uh HL) (uh hq))
    go_wp2_with fail
    go_quiet (fail)
    have hgf:=hide (uh hdr nq)
    go_wp2
    go_ret
    exact ⟨ret_bool (uh hf),uh hgf⟩
  ·have hge:¬(k:Int)<384:=by omega
   have hf:=hide (uh hyes (fun j hj=>uh hall j (by omega)))
   clear hlt hk
   go_wp2
   go_ret
   exact ⟨ret_bool (uh hf),uh hg⟩

set_option maxRecDepth 8000 in
set_option maxHeartbeats 3200000 in
theorem snEqualE_any (G H cap cap':Nat) (c d:Nat→Nat→Int) (w:World) (h1:Lie w G 38 352 (En.flat c)) (h2:Lie w H 38 352 (En.flat d)) :
  Calls Tryz.prog 21 #[.slice (some ⟨G,0,none⟩) 32 cap,.slice (some ⟨H,0,none⟩) 32 cap'] w (Says w (.bool (Sn.allB (fun i=>Sn.sameE (c i) (d i)) 32))):=by
 have h1':=hide h1
 have h2':=hide h2
 obtain ⟨A,hA⟩:∃A,Sn.allB (fun i=>Sn.sameE (c i) (d i)) 32=A:=⟨_,rfl⟩
 have hno:Hid (∀k,k<32→(fun i=>Sn.sameE (c i) (d i)) k=false→false=A):=fun k hk h=>by rw [←hA,Sn.allB_no h hk]
 have hyes:Hid ((∀k,k<32→(fun i=>Sn.sameE (c i) (d i)) k=true)→true=A):=fun h=>by rw [←hA,Sn.allB_yes h]
 rw [hA]
 clear h1 h2 hA
 go_enter Tryz.func21,Tryz.ntmps21
 go_wp2_with fail
 go_loopw [5,13] (fun v5 v13 wr=>∃k:Nat,k≤32∧v13=.int .i64 (k:Int)∧Hid (∀j,j<k→(fun i=>Sn.sameE (c i) (d i)) j=true)∧Hid (w.grownBy wr none)) (fun _ v13 _=>400 - (intOf v13).toNat)
 case atStart=>exact ⟨0,by omega,rfl,fun j hj=>absurd hj (by omega),World.grownBy.refl _ _⟩
 case round =>
  obtain ⟨k,hk,rfl,hall,hg⟩:=hrel
  by_cases hlt:k<32
  ·have hlt':(k:Int)<32:=by omega
   have HL:=hide hlt
   clear hlt hk
   obtain ⟨u0,u1,u2,u3,u4,u5,u6,u7,u8,u9,u10⟩:=(((uh h1').on (uh hg)).own (n:=32) (by omega) (by omega)).ents.row (uh HL)
   obtain ⟨v0,v1,v2,v3,v4,v5,v6,v7,v8,v9,v10⟩:=(((uh h2').on (uh hg)).own (n:=32) (by omega) (by omega)).ents.row (uh HL)
   have hcmp:=fun wx=>run_ne_ent (c k) (d k) wx
   obtain ⟨p,hpe⟩:∃p,Sn.sameE (c k) (d k)=p:=⟨_,rfl⟩
   have hq:Hid ((fun i=>Sn.sameE (c i) (d i)) k=p):=hpe
   rw [hpe] at hcmp
   clear hpe
   have hdr:Hid (∀m,w.grownBy (wr.drewN m) none):=fun m=>gdw (uh hg) m
   cases p with
   | true =>
    go_wp2_with fail
    go_quiet (fail)
    go_wp2
    go_roundw
    case rel=>exact ⟨k+1,by have:=uh HL;omega,by go_num,fun j hj=>by
     by_cases e:j=k
     ·rw [e];exact uh hq
     ·exact uh hall j (by omega),uh hdr _⟩
    case measure=>simp [intOf];have:=uh HL;omega
   | false =>
    have hf:=hide (uh hno k (uh HL) (uh hq))
    go_wp2_with fail
    go_quiet (fail)
    have hgf:=hide (uh hdr nq)
    go_wp2
    go_ret
    exact ⟨ret_bool (uh hf),uh hgf⟩
  ·have hge:¬(k:Int)<32:=by omega
   have hf:=hide (uh hyes (fun j hj=>uh hall j (by omega)))
   clear hlt hk
   go_wp2
   go_ret
   exact ⟨ret_bool (uh hf),uh hg⟩

set_option maxRecDepth 8000 in
set_option maxHeartbeats 3200000 in
theorem snEqualI_any (G H cap cap':Nat) (c d:Nat→Nat→Int) (w:World) (h1:Lie w G 40 160 (Gd.flat c)) (h2:Lie w H 40 160 (Gd.flat d)) :
  Calls Tryz.prog 22 #[.slice (some ⟨G,0,none⟩) 40 cap,.slice (some ⟨H,0,none⟩) 40 cap'] w (Says w (.bool (Sn.allB (fun i=>Sn.sameI (c i) (d i)) 40))):=by
 have h1':=hide h1
 have h2':=hide h2
 obtain ⟨A,hA⟩:∃A,Sn.allB (fun i=>Sn.sameI (c i) (d i)) 40=A:=⟨_,rfl⟩
 have hno:Hid (∀k,k<40→(fun i=>Sn.sameI (c i) (d i)) k=false→false=A):=fun k hk h=>by rw [←hA,Sn.allB_no h hk]
 have hyes:Hid ((∀k,k<40→(fun i=>Sn.sameI (c i) (d i)) k=true)→true=A):=fun h=>by rw [←hA,Sn.allB_yes h]
 rw [hA]
 clear h1 h2 hA
 go_enter Tryz.func22,Tryz.ntmps22
 go_wp2_with fail
 go_loopw [5,13] (fun v5 v13 wr=>∃k:Nat,k≤40∧v13=.int .i64 (k:Int)∧Hid (∀j,j<k→(fun i=>Sn.sameI (c i) (d i)) j=true)∧Hid (w.grownBy wr none)) (fun _ v13 _=>400 - (intOf v13).toNat)
 case atStart=>exact ⟨0,by omega,rfl,fun j hj=>absurd hj (by omega),World.grownBy.refl _ _⟩
 case round =>
  obtain ⟨k,hk,rfl,hall,hg⟩:=hrel
  by_cases hlt:k<40
  ·have hlt':(k:Int)<40:=by omega
   have HL:=hide hlt
   clear hlt hk
   obtain ⟨u0,u1,u2,u3⟩:=(((uh h1').on (uh hg)).its (n:=40) (by omega) (by omega)).row (uh HL)
   obtain ⟨v0,v1,v2,v3⟩:=(((uh h2').on (uh hg)).its (n:=40) (by omega) (by omega)).row (uh HL)
   have hcmp:=fun wx=>run_ne_item (c k 0) (c k 1) (c k 2) (c k 3) (d k 0) (d k 1) (d k 2) (d k 3) wx
   obtain ⟨p,hpe⟩:∃p,Sn.sameI (c k) (d k)=p:=⟨_,rfl⟩
   have hq:Hid ((fun i=>Sn.sameI (c i) (d i)) k=p):=hpe
   have hpe':(decide (c k 0=d k 0) && (decide (c k 1=d k 1) && (decide (c k 2=d k 2) && decide (c k 3=d k 3))))=p:=hpe
   rw [hpe'] at hcmp
   clear hpe hpe'
   have hdr:Hid (∀m,w.grownBy (wr.drewN m) none):=fun m=>gdw (uh hg) m
   cases p with
   | true =>
    go_wp2_with fail
    go_quiet (fail)
    go_wp2
    go_roundw
    case rel=>exact ⟨k+1,by have:=uh HL;omega,by go_num,fun j hj=>by
     by_cases e:j=k
     ·rw [e];exact uh hq
     ·exact uh hall j (by omega),uh hdr _⟩
    case measure=>simp [intOf];have:=uh HL;omega
   | false =>
    have hf:=hide (uh hno k (uh HL) (uh hq))
    go_wp2_with fail
    go_quiet (fail)
    have hgf:=hide (uh hdr nq)
    go_wp2
    go_ret
    exact ⟨ret_bool (uh hf),uh hgf⟩
  ·have hge:¬(k:Int)<40:=by omega
   have hf:=hide (uh hyes (fun j hj=>uh hall j (by omega)))
   clear hlt hk
   go_wp2
   go_ret
   exact ⟨ret_bool (uh hf),uh hg⟩


open Go.RowKit

def Sn.sameG (g h:Nat→Int):Bool:=decide (g 0=h 0) && (decide (g 1=h 1) && (decide (g 2=h 2) && decide (g 3=h 3)))
def Sn.sameH (s t g h:Nat→Int):Bool:=decide (s 0=t 0) && (decide (s 1=t 1) && (decide (s 2=t 2) && (decide (s 3=t 3) && Sn.sameG g h)))

theorem Sn.sameG_iff (g h:Nat→Int):Sn.sameG g h=true↔∀j,j<4→g j=h j:=by
 unfold Sn.sameG
 simp only [Bool.and_eq_true,decide_eq_true_eq]
 constructor
 ·rintro ⟨h0,h1,h2,h3⟩ j hj
  rcases (show j=0∨j=1∨j=2∨j=3 by omega) with rfl | rfl | rfl | rfl <;> assumption
 ·intro h
  exact ⟨h 0 (by omega),h 1 (by omega),h 2 (by omega),h 3 (by omega)⟩

theorem Sn.sameH_iff (s t g h:Nat→Int):Sn.sameH s t g h=true↔(∀j,j<4→s j=t j)∧∀j,j<4→g j=h j:=by
 unfold Sn.sameH
 simp only [Bool.and_eq_true,decide_eq_true_eq,Sn.sameG_iff]
 constructor
 ·rintro ⟨h0,h1,h2,h3,h4⟩
  refine ⟨fun j hj=>?_,h4⟩
  rcases (show j=0∨j=1∨j=2∨j=3 by omega) with rfl | rfl | rfl | rfl <;> assumption
 ·rintro ⟨h,k⟩
  exact ⟨h 0 (by omega),h 1 (by omega),h 2 (by omega),h 3 (by omega),k⟩

theorem run_equal_gold (d:Nat) (g h:Nat→Int) (w:World):(Op.equalIn (d+2) 29 (.agg #[.int .i64 (g 0),.int .i64 (g 1),.int .i64 (g 2),.int .i64 (g 3)]) (.agg #[.int .i64 (h 0),.int .i64 (h 1),.int .i64 (h 2),.int .i64 (h 3)])).run Tryz.prog w=.ok (Sn.sameG g h) w:=by
 obtain ⟨i0,hi,_,_,_⟩:=info_parts info_int
 have hc:Tryz.prog.cellsOf 3=1:=by kernel_rfl
 have hh:=run_equalIn_array (P:=Tryz.prog) (w:=w) (d+1) #[.int .i64 (g 0),.int .i64 (g 1),.int .i64 (g 2),.int .i64 (g 3)] #[.int .i64 (h 0),.int .i64 (h 1),.int .i64 (h 2),.int .i64 (h 3)] Tryz.underlying29 hi
 have hr:(Op.eqItems (d+1) 3 (Tryz.prog.cellsOf 3) #[Value.int .i64 (g 0),.int .i64 (g 1),.int .i64 (g 2),.int .i64 (g 3)] #[.int .i64 (h 0),.int .i64 (h 1),.int .i64 (h 2),.int .i64 (h 3)] (List.range 4)).run Tryz.prog w=.ok (Sn.sameG g h) w:=by
  rw [hc]
  unfold Sn.sameG
  by_cases h0:g 0=h 0
  ·by_cases h1:g 1=h 1
   ·by_cases h2:g 2=h 2
    ·by_cases h3:g 3=h 3 <;> simp [List.range,List.range.loop,Op.eqItems,go_sem,h0,h1,h2,h3]
    ·simp [List.range,List.range.loop,Op.eqItems,go_sem,h0,h1,h2]
   ·simp [List.range,List.range.loop,Op.eqItems,go_sem,h0,h1]
  ·simp [List.range,List.range.loop,Op.eqItems,go_sem,h0]
 rw [hr] at hh
 exact hh

def Sn.hd (s g:Nat→Int):Array Value:=#[.int .i64 (s 0),.int .i64 (s 1),.int .i64 (s 2),.int .i64 (s 3),.int .i64 (g 0),.int .i64 (g 1),.int .i64 (g 2),.int .i64 (g 3)]

theorem run_eq_head (s t g h:Nat→Int) (w:World):(binOp .eql 58 (.agg (Sn.hd s g)) (.agg (Sn.hd t h))).run Tryz.prog w=.ok (.bool (Sn.sameH s t g h)) w:=by
 have hg:=fun d w=>run_equal_gold d g h w
 unfold Sn.sameH Sn.hd
 generalize Sn.sameG g h=q at hg ⊢
 by_cases h0:s 0=t 0
 ·by_cases h1:s 1=t 1
  ·by_cases h2:s 2=t 2
   ·by_cases h3:s 3=t 3
    ·simp [go_sem,h0,h1,h2,h3,hg]
     cases q <;> rfl
    ·simp [go_sem,h0,h1,h2,h3]
   ·simp [go_sem,h0,h1,h2]
  ·simp [go_sem,h0,h1]
 ·simp [go_sem,h0]

set_option maxRecDepth 8000 in
set_option maxHeartbeats 1600000 in
theorem headOf_any (s g:Nat→Int) (nC nE nI cC cE cI:Nat) (aC aE aI:Option Addr) (w:World) :
  Calls Tryz.prog 19 #[.agg #[.int .i64 (s 0),.int .i64 (s 1),.int .i64 (s 2),.int .i64 (s 3),.slice aC nC cC,.slice aE nE cE,.slice aI nI cI,.int .i64 (g 0),.int .i64 (g 1),.int .i64 (g 2),.int .i64 (g 3)]] w (Says w (.agg #[.int .i64 (s 0),.int .i64 (s 1),.int .i64 (s 2),.int .i64 (s 3),.int .i64 (g 0),.int .i64 (g 1),.int .i64 (g 2),.int .i64 (g 3)])):=by
 obtain ⟨w0,hw0⟩:∃w0,w0=(w.alloc (.cells #[.int .i64 (s 0),.int .i64 (s 1),.int .i64 (s 2),.int .i64 (s 3),.slice aC nC cC,.slice aE nE cE,.slice aI nI cI,.int .i64 (g 0),.int .i64 (g 1),.int .i64 (g 2),.int .i64 (g 3)] 31)).alloc (.cells #[.int .i64 0,.int .i64 0,.int .i64 0,.int .i64 0,.int .i64 0,.int .i64 0,.int .i64 0,.int .i64 0] 58):=⟨_,rfl⟩
 have hg0:w.grownBy w0 none:=by rw [hw0];exact gal (World.grownBy_alloc _ _ _) _
 obtain ⟨B,hBe⟩:∃B,w.heap.size=B:=⟨_,rfl⟩
 have hB:Lie w0 B 31 11 (fun j=>#[Value.int .i64 (s 0),.int .i64 (s 1),.int .i64 (s 2),.int .i64 (s 3),.slice aC nC cC,.slice aE nE cE,.slice aI nI cI,.int .i64 (g 0),.int .i64 (g 1),.int .i64 (g 2),.int .i64 (g 3)][j]?.getD undef):=by
  rw [hw0,←hBe]
  exact ((Arr.lit (heap_alloc_new w _)).alloc _).lie
 have hR:Lie w0 (B+1) 58 8 (fun j=>#[Value.int .i64 0,.int .i64 0,.int .i64 0,.int .i64 0,.int .i64 0,.int .i64 0,.int .i64 0,.int .i64 0][j]?.getD undef):=by
  rw [hw0,←hBe]
  have h:=heap_alloc_new (w.alloc (.cells #[.int .i64 (s 0),.int .i64 (s 1),.int .i64 (s 2),.int .i64 (s 3),.slice aC nC cC,.slice aE nE cE,.slice aI nI cI,.int .i64 (g 0),.int .i64 (g 1),.int .i64 (g 2),.int .i64 (g 3)] 31)) (.cells #[.int .i64 0,.int .i64 0,.int .i64 0,.int .i64 0,.int .i64 0,.int .i64 0,.int .i64 0,.int .i64 0] 58)
  rw [show (w.alloc (.cells #[.int .i64 (s 0),.int .i64 (s 1),.int .i64 (s 2),.int .i64 (s 3),.slice aC nC cC,.slice aE nE cE,.slice aI nI cI,.int .i64 (g 0),.int .i64 (g 1),.int .i64 (g 2),.int .i64 (g 3)] 31)).heap.size=w.heap.size+1 by simp] at h
  exact (Arr.lit h).lie
 have hgo:Hid (∀l,w.grownBy (w0.setCells (B+1) 0 l) none):=fun l=>own_sets (by omega) l 0 w0 hg0
 have fR:=hR.free
 have b0:w0.cell? ⟨B,0,none⟩=some (.int .i64 (s 0)):=hB.cell (c:=0) (by omega)
 have b1:w0.cell? ⟨B,1,none⟩=some (.int .i64 (s 1)):=hB.cell (c:=1) (by omega)
 have b2:w0.cell? ⟨B,2,none⟩=some (.int .i64 (s 2)):=hB.cell (c:=2) (by omega)
 have b3:w0.cell? ⟨B,3,none⟩=some (.int .i64 (s 3)):=hB.cell (c:=3) (by omega)
 have b7:w0.cell? ⟨B,7,none⟩=some (.int .i64 (g 0)):=hB.cell (c:=7) (by omega)
 have b8:w0.cell? ⟨B,8,none⟩=some (.int .i64 (g 1)):=hB.cell (c:=8) (by omega)
 have b9:w0.cell? ⟨B,9,none⟩=some (.int .i64 (g 2)):=hB.cell (c:=9) (by omega)
 have b10:w0.cell? ⟨B,10,none⟩=some (.int .i64 (g 3)):=hB.cell (c:=10) (by omega)
 have z0:w0.cell? ⟨B+1,0,none⟩=some (.int .i64 0):=hR.cell (c:=0) (by omega)
 have z1:w0.cell? ⟨B+1,1,none⟩=some (.int .i64 0):=hR.cell (c:=1) (by omega)
 have z2:w0.cell? ⟨B+1,2,none⟩=some (.int .i64 0):=hR.cell (c:=2) (by omega)
 have z3:w0.cell? ⟨B+1,3,none⟩=some (.int .i64 0):=hR.cell (c:=3) (by omega)
 have z4:w0.cell? ⟨B+1,4,none⟩=some (.int .i64 0):=hR.cell (c:=4) (by omega)
 have z5:w0.cell? ⟨B+1,5,none⟩=some (.int .i64 0):=hR.cell (c:=5) (by omega)
 have z6:w0.cell? ⟨B+1,6,none⟩=some (.int .i64 0):=hR.cell (c:=6) (by omega)
 have z7:w0.cell? ⟨B+1,7,none⟩=some (.int .i64 0):=hR.cell (c:=7) (by omega)
 have HBe:=hide hBe
 clear hB hR hg0 hBe
 go_enter Tryz.func19,Tryz.ntmps19
 go_upto_region 1 with fail
 rw [←hw0,uh HBe]
 clear hw0 HBe
 go_wp2
 refine bodyPost_ret (v:=.agg #[.int .i64 (s 0),.int .i64 (s 1),.int .i64 (s 2),.int .i64 (s 3),.int .i64 (g 0),.int .i64 (g 1),.int .i64 (g 2),.int .i64 (g 3)]) (by simp [results,Tryz.results19,go_sem,z0,z1,z2,z3,z4,z5,z6,z7]) rfl ?_
 exact ⟨rfl,uh hgo [_,_,_,_,_,_,_,_]⟩


open Go.RowKit

def Sn.sameW (s t g h c d:Nat→Int) (E F I J:Nat→Nat→Int):Bool :=
 Sn.sameH s t g h && (Sn.allB (fun i=>c i == d i) 384 && (Sn.allB (fun i=>Sn.sameE (E i) (F i)) 32 && Sn.allB (fun i=>Sn.sameI (I i) (J i)) 40))

set_option maxRecDepth 8000 in
set_option maxHeartbeats 12800000 in
theorem snSame_any (s t g h c d:Nat→Int) (E F I J:Nat→Nat→Int) (gC gE gI cC cE cI jC jE jI dC dE dI:Nat) (w:World) (hL:Gd.Lists w gC gE gI c E I) (hL2:Gd.Lists w jC jE jI d F J) :
  Calls Tryz.prog 7 #[.agg (Gd.world s gC gE gI cC cE cI g),.agg (Gd.world t jC jE jI dC dE dI h)] w (Says w (.bool (Sn.sameW s t g h c d E F I J))):=by
 obtain ⟨W0,hW⟩:∃W,W=(w.alloc (.cells (Gd.world s gC gE gI cC cE cI g) 31)).alloc (.cells (Gd.world t jC jE jI dC dE dI h) 31):=⟨_,rfl⟩
 have hg:w.grownBy W0 none:=by rw [hW];exact gal (World.grownBy_alloc _ _ _) _
 have x1:Lie W0 w.heap.size 31 11 (Gd.box s gC gE gI cC cE cI g):=by
  rw [hW]
  exact ((Arr.world (heap_alloc_new w _)).alloc _).lie
 have x2:Lie W0 (w.heap.size+1) 31 11 (Gd.box t jC jE jI dC dE dI h):=by
  rw [hW]
  have hh:=heap_alloc_new (w.alloc (.cells (Gd.world s gC gE gI cC cE cI g) 31)) (.cells (Gd.world t jC jE jI dC dE dI h) 31)
  rw [show (w.alloc (.cells (Gd.world s gC gE gI cC cE cI g) 31)).heap.size=w.heap.size+1 by simp] at hh
  exact (Arr.world hh).lie
 obtain ⟨B,hB⟩:∃B,w.heap.size=B:=⟨_,rfl⟩
 rw [hB] at x1 x2
 have x1':=hide x1
 have x2':=hide x2
 have hL':=hide (hL.on hg)
 have hL2':=hide (hL2.on hg)
 have hg':=hide hg
 have hcmp:=fun wx=>run_eq_head s t g h wx
 have hd:Hid (Sn.sameW s t g h c d E F I J=(Sn.sameH s t g h && (Sn.allB (fun i=>c i == d i) 384 && (Sn.allB (fun i=>Sn.sameE (E i) (F i)) 32 && Sn.allB (fun i=>Sn.sameI (I i) (J i)) 40)))):=rfl
 have c1:=hide (fun z (h1:Gd.Lists z gC gE gI c E I) (h2:Gd.Lists z jC jE jI d F J)=>snEqualB_any gC jC cC dC c d z h1.cells h2.cells)
 have c2:=hide (fun z (h1:Gd.Lists z gC gE gI c E I) (h2:Gd.Lists z jC jE jI d F J)=>snEqualE_any gE jE cE dE E F z h1.ents h2.ents)
 have c3:=hide (fun z (h1:Gd.Lists z gC gE gI c E I) (h2:Gd.Lists z jC jE jI d F J)=>snEqualI_any gI jI cI dI I J z h1.items h2.items)
 obtain ⟨k0,e0⟩:∃k,Sn.sameH s t g h=k:=⟨_,rfl⟩
 obtain ⟨k1,e1⟩:∃k,Sn.allB (fun i=>c i == d i) 384=k:=⟨_,rfl⟩
 obtain ⟨k2,e2⟩:∃k,Sn.allB (fun i=>Sn.sameE (E i) (F i)) 32=k:=⟨_,rfl⟩
 obtain ⟨k3,e3⟩:∃k,Sn.allB (fun i=>Sn.sameI (I i) (J i)) 40=k:=⟨_,rfl⟩
 rw [e0,e1,e2,e3] at hd
 rw [e0] at hcmp
 rw [e1] at c1
 rw [e2] at c2
 rw [e3] at c3
 obtain ⟨A,hA⟩:∃A,Sn.sameW s t g h c d E F I J=A:=⟨_,rfl⟩
 rw [hA] at hd ⊢
 clear hL hL2 hg x1 x2 e0 e1 e2 e3 hA
 unfold Gd.world at hW ⊢
 unfold Sn.hd at hcmp
 go_enter Tryz.func7,Tryz.ntmps7
 go_upto_region 1 with fail
 rw [←hW]
 clear hW hB
 refine wp_region_grown (by kernel_rfl) (by kernel_rfl) ?_
 intro St hN W hI hx
 have p0:∀σ,(W σ).cell? ⟨B,0,none⟩=some (.int .i64 (s 0)):=fun σ=>((uh x1').on (hI σ)).eleven.1
 have q0:∀σ,(W σ).cell? ⟨B+1,0,none⟩=some (.int .i64 (t 0)):=fun σ=>((uh x2').on (hI σ)).eleven.1
 have p1:∀σ,(W σ).cell? ⟨B,1,none⟩=some (.int .i64 (s 1)):=fun σ=>((uh x1').on (hI σ)).eleven.2.1
 have q1:∀σ,(W σ).cell? ⟨B+1,1,none⟩=some (.int .i64 (t 1)):=fun σ=>((uh x2').on (hI σ)).eleven.2.1
 have p2:∀σ,(W σ).cell? ⟨B,2,none⟩=some (.int .i64 (s 2)):=fun σ=>((uh x1').on (hI σ)).eleven.2.2.1
 have q2:∀σ,(W σ).cell? ⟨B+1,2,none⟩=some (.int .i64 (t 2)):=fun σ=>((uh x2').on (hI σ)).eleven.2.2.1
 have p3:∀σ,(W σ).cell? ⟨B,3,none⟩=some (.int .i64 (s 3)):=fun σ=>((uh x1').on (hI σ)).eleven.2.2.2.1
 have q3:∀σ,(W σ).cell? ⟨B+1,3,none⟩=some (.int .i64 (t 3)):=fun σ=>((uh x2').on (hI σ)).eleven.2.2.2.1
 have p4:∀σ,(W σ).cell? ⟨B,4,none⟩=some (.slice (some ⟨gC,0,none⟩) 384 cC):=fun σ=>((uh x1').on (hI σ)).eleven.2.2.2.2.1
 have q4:∀σ,(W σ).cell? ⟨B+1,4,none⟩=some (.slice (some ⟨jC,0,none⟩) 384 dC):=fun σ=>((uh x2').on (hI σ)).eleven.2.2.2.2.1
 have p5:∀σ,(W σ).cell? ⟨B,5,none⟩=some (.slice (some ⟨gE,0,none⟩) 32 cE):=fun σ=>((uh x1').on (hI σ)).eleven.2.2.2.2.2.1
 have q5:∀σ,(W σ).cell? ⟨B+1,5,none⟩=some (.slice (some ⟨jE,0,none⟩) 32 dE):=fun σ=>((uh x2').on (hI σ)).eleven.2.2.2.2.2.1
 have p6:∀σ,(W σ).cell? ⟨B,6,none⟩=some (.slice (some ⟨gI,0,none⟩) 40 cI):=fun σ=>((uh x1').on (hI σ)).eleven.2.2.2.2.2.2.1
 have q6:∀σ,(W σ).cell? ⟨B+1,6,none⟩=some (.slice (some ⟨jI,0,none⟩) 40 dI):=fun σ=>((uh x2').on (hI σ)).eleven.2.2.2.2.2.2.1
 have p7:∀σ,(W σ).cell? ⟨B,7,none⟩=some (.int .i64 (g 0)):=fun σ=>((uh x1').on (hI σ)).eleven.2.2.2.2.2.2.2.1
 have q7:∀σ,(W σ).cell? ⟨B+1,7,none⟩=some (.int .i64 (h 0)):=fun σ=>((uh x2').on (hI σ)).eleven.2.2.2.2.2.2.2.1
 have p8:∀σ,(W σ).cell? ⟨B,8,none⟩=some (.int .i64 (g 1)):=fun σ=>((uh x1').on (hI σ)).eleven.2.2.2.2.2.2.2.2.1
 have q8:∀σ,(W σ).cell? ⟨B+1,8,none⟩=some (.int .i64 (h 1)):=fun σ=>((uh x2').on (hI σ)).eleven.2.2.2.2.2.2.2.2.1
 have p9:∀σ,(W σ).cell? ⟨B,9,none⟩=some (.int .i64 (g 2)):=fun σ=>((uh x1').on (hI σ)).eleven.2.2.2.2.2.2.2.2.2.1
 have q9:∀σ,(W σ).cell? ⟨B+1,9,none⟩=some (.int .i64 (h 2)):=fun σ=>((uh x2').on (hI σ)).eleven.2.2.2.2.2.2.2.2.2.1
 have p10:∀σ,(W σ).cell? ⟨B,10,none⟩=some (.int .i64 (g 3)):=fun σ=>((uh x1').on (hI σ)).eleven.2.2.2.2.2.2.2.2.2.2
 have q10:∀σ,(W σ).cell? ⟨B+1,10,none⟩=some (.int .i64 (h 3)):=fun σ=>((uh x2').on (hI σ)).eleven.2.2.2.2.2.2.2.2.2.2
 have f0:∀(s g:Nat→Int) (nC nE nI cC cE cI:Nat) (aC aE aI:Option Addr) σ,Calls Tryz.prog 19 #[.agg #[.int .i64 (s 0),.int .i64 (s 1),.int .i64 (s 2),.int .i64 (s 3),.slice aC nC cC,.slice aE nE cE,.slice aI nI cI,.int .i64 (g 0),.int .i64 (g 1),.int .i64 (g 2),.int .i64 (g 3)]] (W σ) fun e w''=>e=.returned (.agg #[.int .i64 (s 0),.int .i64 (s 1),.int .i64 (s 2),.int .i64 (s 3),.int .i64 (g 0),.int .i64 (g 1),.int .i64 (g 2),.int .i64 (g 3)])∧∃σ',w''=W σ':=fun s g nC nE nI cC cE cI aC aE aI σ=>calls_class hI hx (headOf_any s g nC nE nI cC cE cI aC aE aI _)
 have f1:∀σ,Calls Tryz.prog 20 #[.slice (some ⟨gC,0,none⟩) 384 cC,.slice (some ⟨jC,0,none⟩) 384 dC] (W σ) fun e w''=>e=.returned (.bool k1)∧∃σ',w''=W σ':=fun σ=>calls_class hI hx (uh c1 _ ((uh hL').on (hI σ)) ((uh hL2').on (hI σ)))
 have f2:∀σ,Calls Tryz.prog 21 #[.slice (some ⟨gE,0,none⟩) 32 cE,.slice (some ⟨jE,0,none⟩) 32 dE] (W σ) fun e w''=>e=.returned (.bool k2)∧∃σ',w''=W σ':=fun σ=>calls_class hI hx (uh c2 _ ((uh hL').on (hI σ)) ((uh hL2').on (hI σ)))
 have f3:∀σ,Calls Tryz.prog 22 #[.slice (some ⟨gI,0,none⟩) 40 cI,.slice (some ⟨jI,0,none⟩) 40 dI] (W σ) fun e w''=>e=.returned (.bool k3)∧∃σ',w''=W σ':=fun σ=>calls_class hI hx (uh c3 _ ((uh hL').on (hI σ)) ((uh hL2').on (hI σ)))
 have hI2:=hide hI
 clear hx hI c1 c2 c3 x1' x2' hL' hL2'
 cases k0 with
 | false =>
  have hf:Hid (false=A):=(uh hd).symm
  repeat (go_big_quiet_step (first | (go_at_call 19;exact f0 _ _ _ _ _ _ _ _ _ _ _ _) | (go_at_call 20;exact f1 _) | (go_at_call 21;exact f2 _) | (go_at_call 22;exact f3 _)))
  refine wpQuiet_nil ?_
  rintro _ ⟨σ,rfl⟩
  obtain ⟨wq,hwq⟩:∃wq,W σ=wq:=⟨_,rfl⟩
  have hgq:=hide (gtr (uh hg') (uh hI2 σ))
  rw [hwq] at hgq ⊢
  clear p0 p1 p2 p3 p4 p5 p6 p7 p8 p9 p10 q0 q1 q2 q3 q4 q5 q6 q7 q8 q9 q10 f0 f1 f2 f3 hcmp hI2 hwq
  clear σ W hN St
  go_wp2
  go_ret
  exact ⟨ret_bool (uh hf),uh hgq⟩
 | true =>
 cases k1 with
 | false =>
  have hf:Hid (false=A):=(uh hd).symm
  repeat (go_big_quiet_step (first | (go_at_call 19;exact f0 _ _ _ _ _ _ _ _ _ _ _ _) | (go_at_call 20;exact f1 _) | (go_at_call 21;exact f2 _) | (go_at_call 22;exact f3 _)))
  refine wpQuiet_nil ?_
  rintro _ ⟨σ,rfl⟩
  obtain ⟨wq,hwq⟩:∃wq,W σ=wq:=⟨_,rfl⟩
  have hgq:=hide (gtr (uh hg') (uh hI2 σ))
  rw [hwq] at hgq ⊢
  clear p0 p1 p2 p3 p4 p5 p6 p7 p8 p9 p10 q0 q1 q2 q3 q4 q5 q6 q7 q8 q9 q10 f0 f1 f2 f3 hcmp hI2 hwq
  clear σ W hN St
  go_wp2
  go_ret
  exact ⟨ret_bool (uh hf),uh hgq⟩
 | true =>
 cases k2 with
 | false =>
  have hf:Hid (false=A):=(uh hd).symm
  repeat (go_big_quiet_step (first | (go_at_call 19;exact f0 _ _ _ _ _ _ _ _ _ _ _ _) | (go_at_call 20;exact f1 _) | (go_at_call 21;exact f2 _) | (go_at_call 22;exact f3 _)))
  refine wpQuiet_nil ?_
  rintro _ ⟨σ,rfl⟩
  obtain ⟨wq,hwq⟩:∃wq,W σ=wq:=⟨_,rfl⟩
  have hgq:=hide (gtr (uh hg') (uh hI2 σ))
  rw [hwq] at hgq ⊢
  clear p0 p1 p2 p3 p4 p5 p6 p7 p8 p9 p10 q0 q1 q2 q3 q4 q5 q6 q7 q8 q9 q10 f0 f1 f2 f3 hcmp hI2 hwq
  clear σ W hN St
  go_wp2
  go_ret
  exact ⟨ret_bool (uh hf),uh hgq⟩
 | true =>
 cases k3 with
 | false =>
  have hf:Hid (false=A):=(uh hd).symm
  repeat (go_big_quiet_step (first | (go_at_call 19;exact f0 _ _ _ _ _ _ _ _ _ _ _ _) | (go_at_call 20;exact f1 _) | (go_at_call 21;exact f2 _) | (go_at_call 22;exact f3 _)))
  refine wpQuiet_nil ?_
  rintro _ ⟨σ,rfl⟩
  obtain ⟨wq,hwq⟩:∃wq,W σ=wq:=⟨_,rfl⟩
  have hgq:=hide (gtr (uh hg') (uh hI2 σ))
  rw [hwq] at hgq ⊢
  clear p0 p1 p2 p3 p4 p5 p6 p7 p8 p9 p10 q0 q1 q2 q3 q4 q5 q6 q7 q8 q9 q10 f0 f1 f2 f3 hcmp hI2 hwq
  clear σ W hN St
  go_wp2
  go_ret
  exact ⟨ret_bool (uh hf),uh hgq⟩
 | true =>
  have hf:Hid (true=A):=(uh hd).symm
  repeat (go_big_quiet_step (first | (go_at_call 19;exact f0 _ _ _ _ _ _ _ _ _ _ _ _) | (go_at_call 20;exact f1 _) | (go_at_call 21;exact f2 _) | (go_at_call 22;exact f3 _)))
  refine wpQuiet_nil ?_
  rintro _ ⟨σ,rfl⟩
  obtain ⟨wq,hwq⟩:∃wq,W σ=wq:=⟨_,rfl⟩
  have hgq:=hide (gtr (uh hg') (uh hI2 σ))
  rw [hwq] at hgq ⊢
  clear p0 p1 p2 p3 p4 p5 p6 p7 p8 p9 p10 q0 q1 q2 q3 q4 q5 q6 q7 q8 q9 q10 f0 f1 f2 f3 hcmp hI2 hwq
  clear σ W hN St
  go_wp2
  go_ret
  exact ⟨ret_bool (uh hf),uh hgq⟩


open Go.RowKit

structure Sn.Two (w x:World) (b T gC gE gI cC cE cI V jC jE jI dC dE dI:Nat) (s g c:Nat→Int) (E I:Nat→Nat→Int) (h:Nat→Int):Prop where
 a:Lie x T 31 11 (Gd.box s gC gE gI cC cE cI g)
 la:Gd.Lists x gC gE gI c E I
 v:Lie x V 31 11 (Gd.box s jC jE jI dC dE dI h)
 lv:Gd.Lists x jC jE jI c E I
 lT:T<b
 lC:gC<b
 lE:gE<b
 lI:gI<b
 mV:b≤V
 mC:b≤jC
 mE:b≤jE
 mI:b≤jI
 wb:w.heap.size≤b
 grown:w.grownBy x none

theorem Sn.Two.on {w x y:World} {b T gC gE gI cC cE cI V jC jE jI dC dE dI:Nat} {s g c:Nat→Int} {E I:Nat→Nat→Int} {h:Nat→Int} (H:Sn.Two w x b T gC gE gI cC cE cI V jC jE jI dC dE dI s g c E I h) (hg:x.grownBy y none):Sn.Two w y b T gC gE gI cC cE cI V jC jE jI dC dE dI s g c E I h :=
 { H with a:=H.a.on hg,la:=H.la.on hg,v:=H.v.on hg,lv:=H.lv.on hg,grown:=gtr H.grown hg }

theorem Gd.Lists.aside {x:World} {gC gE gI:Nat} {c:Nat→Int} {E I:Nat→Nat→Int} (h:Gd.Lists x gC gE gI c E I) {G:Nat} (n1:G≠gC) (n2:G≠gE) (n3:G≠gI) (i:Nat) (u:Value):Gd.Lists (x.setCell ⟨G,i,none⟩ u) gC gE gI c E I :=
 ⟨h.cells.other n1 i u,h.ents.other n2 i u,h.items.other n3 i u⟩

theorem Sn.box_gold (s g:Nat→Int) (gC gE gI cC cE cI k:Nat) (u:Int) (hk:k<4):∀j,j<11→(if j=7+k then Value.int .i64 u else Gd.box s gC gE gI cC cE cI g j)=Gd.box s gC gE gI cC cE cI (Cr.num g k u) j:=by
 intro j hj
 rcases (show k=0∨k=1∨k=2∨k=3 by omega) with rfl | rfl | rfl | rfl <;> rcases (show j=0∨j=1∨j=2∨j=3∨j=4∨j=5∨j=6∨j=7∨j=8∨j=9∨j=10 by omega) with rfl | rfl | rfl | rfl | rfl | rfl | rfl | rfl | rfl | rfl | rfl <;> rfl

structure Sn.Ends (w x:World) (T gC gE gI cC cE cI U kC kE kI eC eE eI:Nat) (s g c:Nat→Int) (E I:Nat→Nat→Int):Prop where
 a:Lie x T 31 11 (Gd.box s gC gE gI cC cE cI g)
 la:Gd.Lists x gC gE gI c E I
 u:Lie x U 31 11 (Gd.box s kC kE kI eC eE eI g)
 lu:Gd.Lists x kC kE kI c E I
 grown:w.grownBy x none

theorem Sn.Ends.on {w x y:World} {T gC gE gI cC cE cI U kC kE kI eC eE eI:Nat} {s g c:Nat→Int} {E I:Nat→Nat→Int} (H:Sn.Ends w x T gC gE gI cC cE cI U kC kE kI eC eE eI s g c E I) (hg:x.grownBy y none):Sn.Ends w y T gC gE gI cC cE cI U kC kE kI eC eE eI s g c E I :=
 ⟨H.a.on hg,H.la.on hg,H.u.on hg,H.lu.on hg,gtr H.grown hg⟩

theorem Sn.Ends.put {w x:World} {b d G T gC gE gI cC cE cI U kC kE kI eC eE eI:Nat} {s g c:Nat→Int} {E I:Nat→Nat→Int} (H:Sn.Ends w x T gC gE gI cC cE cI U kC kE kI eC eE eI s g c E I) (h1:T<b∧gC<b∧gE<b∧gI<b) (h2:d≤U∧d≤kC∧d≤kE∧d≤kI) (h3:b≤G∧G<d) (hw:w.heap.size≤b) (i:Nat) (v:Value):Sn.Ends w (x.setCell ⟨G,i,none⟩ v) T gC gE gI cC cE cI U kC kE kI eC eE eI s g c E I:=by
 obtain ⟨h11,h12,h13,h14⟩:=h1
 obtain ⟨h21,h22,h23,h24⟩:=h2
 exact ⟨H.a.other (by omega) _ _,H.la.aside (by omega) (by omega) (by omega) _ _,H.u.other (by omega) _ _,H.lu.aside (by omega) (by omega) (by omega) _ _,gsr H.grown ⟨G,i,none⟩ (by show w.heap.size≤G;omega) v⟩


open Go.RowKit

structure Sn.Left (x:World) (V jC jE jI dC dE dI:Nat) (t h d:Nat→Int) (F J:Nat→Nat→Int):Prop where
 v:Lie x V 31 11 (Gd.box t jC jE jI dC dE dI h)
 lv:Gd.Lists x jC jE jI d F J

theorem Sn.Left.on {x y:World} {V jC jE jI dC dE dI:Nat} {t h d:Nat→Int} {F J:Nat→Nat→Int} (H:Sn.Left x V jC jE jI dC dE dI t h d F J) (hg:x.grownBy y none):Sn.Left y V jC jE jI dC dE dI t h d F J :=
 ⟨H.v.on hg,H.lv.on hg⟩

theorem Sn.Left.gold {x:World} {V jC jE jI dC dE dI:Nat} {t h d:Nat→Int} {F J:Nat→Nat→Int} (H:Sn.Left x V jC jE jI dC dE dI t h d F J) {k:Nat} (hk:k<4) (u:Int):Sn.Left (x.setCell ⟨V,7+k,none⟩ (.int .i64 u)) V jC jE jI dC dE dI t (Cr.num h k u) d F J :=
 ⟨(H.v.store (7+k) (.int .i64 u)).congr (Sn.box_gold t h jC jE jI dC dE dI k u hk),H.lv.aside (H.lv.cells.type7 H.v (by decide)).symm (H.lv.ents.type7 H.v (by decide)).symm (H.lv.items.type7 H.v (by decide)).symm _ _⟩

theorem Sn.Left.cell {x:World} {V jC jE jI dC dE dI:Nat} {t h d:Nat→Int} {F J:Nat→Nat→Int} (H:Sn.Left x V jC jE jI dC dE dI t h d F J) (k:Nat) (u:Int):Sn.Left (x.setCell ⟨jC,k,none⟩ (.int .u8 u)) V jC jE jI dC dE dI t h (Gr.upd d k u) F J :=
 ⟨H.v.other (H.lv.cells.type7 H.v (by decide)) _ _,⟨(H.lv.cells.store k (.int .u8 u)).congr fun j _=>by unfold Byts Gr.upd;split <;> rfl,H.lv.ents.other (H.lv.cells.type7 H.lv.ents (by decide)) _ _,H.lv.items.other (H.lv.cells.type7 H.lv.items (by decide)) _ _⟩⟩

theorem Sn.Left.ent {x:World} {V jC jE jI dC dE dI:Nat} {t h d:Nat→Int} {F J:Nat→Nat→Int} (H:Sn.Left x V jC jE jI dC dE dI t h d F J) (k i:Nat) (hi:i<11) (u:Int):Sn.Left (x.setCell ⟨jE,k*11+i,none⟩ (.int .i64 u)) V jC jE jI dC dE dI t h d (Gd.set F k i u) J :=
 ⟨H.v.other (H.lv.ents.type7 H.v (by decide)) _ _,⟨H.lv.cells.other (H.lv.ents.type7 H.lv.cells (by decide)) _ _,H.lv.ents.stat k i hi u,H.lv.items.other (H.lv.ents.type7 H.lv.items (by decide)) _ _⟩⟩

theorem Sn.Left.item {x:World} {V jC jE jI dC dE dI:Nat} {t h d:Nat→Int} {F J:Nat→Nat→Int} (H:Sn.Left x V jC jE jI dC dE dI t h d F J) (k i:Nat) (hi:i<4) (u:Int):Sn.Left (x.setCell ⟨jI,k*4+i,none⟩ (.int .i64 u)) V jC jE jI dC dE dI t h d F (Gd.set J k i u) :=
 ⟨H.v.other (H.lv.items.type7 H.v (by decide)) _ _,⟨H.lv.cells.other (H.lv.items.type7 H.lv.cells (by decide)) _ _,H.lv.ents.other (H.lv.items.type7 H.lv.ents (by decide)) _ _,H.lv.items.field k i hi u⟩⟩

end Go.Proofs.YtapgkgbpekkdjabGreat
