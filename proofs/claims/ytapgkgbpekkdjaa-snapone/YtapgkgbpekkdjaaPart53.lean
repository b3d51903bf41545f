import Derived.Test.YtapgkgbpekkdjaaPart51
import Derived.Test.YtapgkgbpekkdjaaPart52
namespace Go.Proofs.Ytapgkgbpekkdjaa
open Go.RowKit

theorem Cr.at0 {o p q:Obj} {T:TypeId} {m:Nat} {F:Nat→Value} (h:∀w:World,Lie (w.alloc o) w.heap.size T m F) (y:World):Lie (((y.alloc o).alloc p).alloc q) y.heap.size T m F :=
 ((h y).on (World.grownBy_alloc _ _ _)).on (World.grownBy_alloc _ _ _)

theorem Cr.at1 {o p q:Obj} {T:TypeId} {m:Nat} {F:Nat→Value} (h:∀w:World,Lie (w.alloc o) w.heap.size T m F) (y:World):Lie (((y.alloc p).alloc o).alloc q) (y.heap.size+1) T m F:=by
 have:=(h (y.alloc p)).on (World.grownBy_alloc _ q none)
 rwa [show (y.alloc p).heap.size=y.heap.size+1 by simp] at this

theorem Cr.at2 {o p q:Obj} {T:TypeId} {m:Nat} {F:Nat→Value} (h:∀w:World,Lie (w.alloc o) w.heap.size T m F) (y:World):Lie (((y.alloc p).alloc q).alloc o) (y.heap.size+1+1) T m F:=by
 have:=h ((y.alloc p).alloc q)
 rwa [show ((y.alloc p).alloc q).heap.size=y.heap.size+1+1 by simp] at this

theorem Cr.grown3 (y:World) (o p q:Obj):y.grownBy (((y.alloc o).alloc p).alloc q) none :=
 gtr (World.grownBy_alloc _ _ _) (gtr (World.grownBy_alloc _ _ _) (World.grownBy_alloc _ _ _))

structure Cr.Begun (w x:World) (B G gE gI:Nat) (seed:Int) (c:Nat→Int):Prop where
 hold:Gd.Hold x B G gE gI 384 32 40 (Cr.first seed) (fun _=>0) c (fun _ _=>0) (fun _ _=>0)
 lC:w.heap.size≤G
 lE:w.heap.size≤gE
 lI:w.heap.size≤gI

theorem Cr.begun {w y z:World} {B G gE gI:Nat} {seed:Int} {c:Nat→Int} (hy:w.grownBy y none) (hyz:y.grownBy z none) (lG:w.heap.size≤G) (hA:Lie y G 5 384 (Byts c)) (hE:Lie z gE 45 352 (En.flat fun _ _=>0)) (hI:Lie z gI 47 160 (Gd.flat fun _ _=>0)) (hB:Lie z B 29 11 (Gd.box (Cr.first seed) G gE gI 384 32 40 (fun _=>0))) (lE:y.heap.size≤gE) (lI:y.heap.size≤gI) :
  Cr.Begun w z.drew B G gE gI seed c∧y.grownBy z.drew none:=by
 have hA':=hA.on hyz
 have n1:=hB.type_ne hA' (by decide)
 have n2:=hB.type_ne hE (by decide)
 have n3:=hB.type_ne hI (by decide)
 have n4:=hA'.type_ne hE (by decide)
 have n5:=hA'.type_ne hI (by decide)
 have n6:=hE.type_ne hI (by decide)
 have hs:=hy.size
 have hd:=gd1 (World.grownBy.refl z none)
 exact ⟨⟨⟨hB.on hd,⟨hA'.on hd,hE.on hd,hI.on hd⟩,n1,n2,n3,n4,n5,n6⟩,lG,by omega,by omega⟩,gtr hyz hd⟩

theorem Cr.sane_none {seed:Int} {c:Nat→Int} {es:List (Int × Nat)} {is:List Gn.Itm} (hl:Cr.Lev seed 1 c es is):Cr.Sane c (fun _ _=>0) (Cr.stockI (fun _ _=>0) is):=by
 have hc8:∀i,0≤c i∧c i≤255:=fun i=>⟨(hl.floor.five i).1,by have:=(hl.floor.five i).2;omega⟩
 have hI:=hl.lay (Md.ok_none c) (fun k _=>⟨by show ¬(0:Int)=1;omega,by show ¬(0:Int)=4;omega⟩)
 refine ⟨⟨hc8,hI,fun k _=>⟨by show (0:Int)≤0;omega,by show (0:Int)≤255;omega,.inl fun _ _ _=>rfl⟩⟩,⟨fun k _ k0=>absurd rfl k0,⟨fun k _ k0=>absurd rfl k0,fun j k _ _ j0=>absurd rfl j0⟩⟩,⟨fun k _ k1=>?_,fun j k _ _ j1=>?_,fun k _ k0=>absurd rfl k0⟩⟩
 ·exact absurd k1 (by show ¬(0:Int)=1;omega)
 ·exact absurd j1 (by show ¬(0:Int)=1;omega)

def Cr.Fresh (w:World) (seed:Int) (e:Ending) (w':World):Prop:=∃T:Cr.W,Cr.IsNew seed T∧Gd.Worlds w T.s T.g T.c T.E T.I e w'

set_option maxRecDepth 8000 in
set_option maxHeartbeats 6400000 in
theorem refNew_any (seed:Int) (w:World):Calls Try.prog 11 #[.int .i64 seed] w (Cr.Fresh w seed):=by
 obtain ⟨w0,hw0⟩:∃w0,w0=w.alloc (.cells #[.int .i64 0,.int .i64 0,.int .i64 0,.int .i64 0,.slice none 0 0,.slice none 0 0,.slice none 0 0,.int .i64 0,.int .i64 0,.int .i64 0,.int .i64 0] 29):=⟨_,rfl⟩
 have hg0:Hid (w.grownBy w0 none):=by rw [hw0];exact World.grownBy_alloc _ _ _
 obtain ⟨B,hB⟩:∃B,w.heap.size=B:=⟨_,rfl⟩
 have hres:Hid (Lie w0 B 29 11 (fun j=>#[.int .i64 0,.int .i64 0,.int .i64 0,.int .i64 0,.slice none 0 0,.slice none 0 0,.slice none 0 0,.int .i64 0,.int .i64 0,.int .i64 0,Value.int .i64 0][j]?.getD undef)):=by
  rw [hw0,←hB]
  exact (Arr.lit (heap_alloc_new w _)).lie
 have hB':=hide hB
 go_enter Try.func11,Try.ntmps11
 go_upto_region 1 with fail
 rw [←hw0]
 clear hw0 hB
 have cm:=hide (refMake10_any seed 1 (by omega) (by omega) w0)
 go_wp2_with fail
 refine (uh cm).mono ?_
 rintro e w1 ⟨c,es,is,G,nE,nI,kE,kI,aE,aI,hlev,rfl,lG,hA,hM,hI,hnI,hg1,-⟩
 obtain ⟨L,hL⟩:∃L,w1.heap.size=L:=⟨_,rfl⟩
 have hga:w1.grownBy (w1.alloc (.cells #[.slice (some ⟨G,0,none⟩) 384 384,.slice aE nE kE,.slice aI nI kI] 70)) none:=World.grownBy_alloc _ _ _
 have hlv:Hid (Lie (w1.alloc (.cells #[.slice (some ⟨G,0,none⟩) 384 384,.slice aE nE kE,.slice aI nI kI] 70)) L 70 3 (fun j=>#[.slice (some ⟨G,0,none⟩) 384 384,.slice aE nE kE,Value.slice aI nI kI][j]?.getD undef)):=by
  rw [←hL]
  exact (Arr.lit (heap_alloc_new w1 _)).lie
 have hgw:=hide (gtr (uh hg0) (gtr hg1 hga))
 have hrs:=hide ((uh hres).on (gtr hg1 hga))
 have hlev':=hide hlev
 have lG':Hid (w.heap.size≤G):=Nat.le_trans (uh hg0).size lG
 have hA':=hide (hA.on hga)
 have hM':=hide (hM.on hga)
 have hI':=hide (hI.on hga)
 have hnI':=hide hnI
 have hLB:Hid (w.heap.size≤L):=(show w.heap.size≤L by rw [←hL];exact Nat.le_trans (uh hg0).size hg1.size)
 clear hlev lG hA hM hI hnI hg1 cm hga hres hg0
 go_upto_region 2 with fail
 generalize (w1.alloc (.cells #[.slice (some ⟨G,0,none⟩) 384 384,.slice aE nE kE,.slice aI nI kI] 70))=w2 at hlv hgw hrs hA' hM' hI' ⊢
 clear hL
 obtain ⟨ZE,hmE,hZE⟩:=make32
 obtain ⟨ZI,hmI,hZI⟩:=make40
 have hdr:=hide (gd1 (World.grownBy.refl w2 none))
 have hkeep:Hid (∀z,w2.grownBy z none→z.cell? ⟨L,0,none⟩=some (.slice (some ⟨G,0,none⟩) 384 384)):=fun z hz=>((uh hlv).on hz).cell (c:=0) (by omega)
 have hE3:=hide (fun w=>(hZE w).lie (m:=352) (by omega))
 have hI3:=hide hZI
 have hW3:Hid (∀(a b:Nat) (x:World),Lie (x.alloc (.cells #[.int .i64 seed,.int .i64 0,.int .i64 1,.int .i64 0,.slice (some ⟨G,0,none⟩) 384 384,.slice (some ⟨a,0,none⟩) 32 32,.slice (some ⟨b,0,none⟩) 40 40,.int .i64 0,.int .i64 0,.int .i64 0,.int .i64 0] 29)) x.heap.size 29 11 (Gd.box (Cr.first seed) G a b 384 32 40 (fun _=>0))):=fun a b x=>(Arr.world (s:=Cr.first seed) (g:=fun _=>0) (heap_alloc_new x _)).lie
 clear hZE hZI
 go_cut [4] from 7 (fun va wx=>∃(P gE gI:Nat),va=.pointer (some ⟨P,0,none⟩)∧Hid (Cr.Begun w wx P G gE gI seed c∧w2.grownBy wx none))
 case first =>
  have hS0:=uh hkeep _ (uh hdr)
  go_region_held3 (fun z=>z.cell? ⟨L,0,none⟩=some (.slice (some ⟨G,0,none⟩) 384 384)) (first | (refine uh hkeep _ ?_;repeat' (first | exact World.grownBy.refl _ _ | refine gd1 ?_ | refine gal ?_ _ | refine gsr ?_ _ (by simp;done) _ | refine gsr ?_ _ (by simp;omega) _))) (fail)
  all_goals (go_wp2_with fail;go_meet)
  ·exact ⟨_,_,_,rfl,Cr.begun (uh hgw) (Cr.grown3 _ _ _ _) (uh lG') (uh hA') (Cr.at0 (uh hE3) w2) (Cr.at1 (uh hI3) w2) (Cr.at2 (uh hW3 _ _) w2) (by omega) (by omega)⟩
  ·exact ⟨_,_,_,rfl,Cr.begun (uh hgw) (Cr.grown3 _ _ _ _) (uh lG') (uh hA') (Cr.at0 (uh hE3) w2) (Cr.at2 (uh hI3) w2) (Cr.at1 (uh hW3 _ _) w2) (by omega) (by omega)⟩
  ·exact ⟨_,_,_,rfl,Cr.begun (uh hgw) (Cr.grown3 _ _ _ _) (uh lG') (uh hA') (Cr.at1 (uh hE3) w2) (Cr.at0 (uh hI3) w2) (Cr.at2 (uh hW3 _ _) w2) (by omega) (by omega)⟩
  ·exact ⟨_,_,_,rfl,Cr.begun (uh hgw) (Cr.grown3 _ _ _ _) (uh lG') (uh hA') (Cr.at2 (uh hE3) w2) (Cr.at0 (uh hI3) w2) (Cr.at1 (uh hW3 _ _) w2) (by omega) (by omega)⟩
  ·exact ⟨_,_,_,rfl,Cr.begun (uh hgw) (Cr.grown3 _ _ _ _) (uh lG') (uh hA') (Cr.at1 (uh hE3) w2) (Cr.at2 (uh hI3) w2) (Cr.at0 (uh hW3 _ _) w2) (by omega) (by omega)⟩
  ·exact ⟨_,_,_,rfl,Cr.begun (uh hgw) (Cr.grown3 _ _ _ _) (uh lG') (uh hA') (Cr.at2 (uh hE3) w2) (Cr.at1 (uh hI3) w2) (Cr.at0 (uh hW3 _ _) w2) (by omega) (by omega)⟩
 case rest =>
  clear hmE hmI hE3 hI3 hW3 hkeep hdr
  obtain ⟨P,gE,gI,rfl,hX⟩:=hcut
  obtain ⟨b0,b1,b2,b3,b4,b5,b6,b7,b8,b9,b10⟩:=(uh hX).1.hold.box.eleven
  have lv:=hide ((uh hlv).on (uh hX).2)
  have l0:wc.cell? ⟨L,0,none⟩=some (.slice (some ⟨G,0,none⟩) 384 384):=(uh lv).cell (c:=0) (by omega)
  have l1:wc.cell? ⟨L,1,none⟩=some (.slice aE nE kE):=(uh lv).cell (c:=1) (by omega)
  have l2:wc.cell? ⟨L,2,none⟩=some (.slice aI nI kI):=(uh lv).cell (c:=2) (by omega)
  have cs:=hide (refStock_any (Cr.first seed) (fun _=>0) c (fun _ _=>0) (fun _ _=>0) (Cr.stockI (fun _ _=>0) is) G gE gI 384 32 40 G nE nI kE kI aE aI es is wc (uh hX).1.hold.lists (by omega) (uh hX).1.hold.cE (uh hX).1.hold.cI (uh hX).1.hold.eI (Cr.sane_none (uh hlev')) ((uh hM').on (uh hX).2) ((uh hlev').mons (by omega)) ((uh hI').on (uh hX).2) (uh hnI'))
  have hrs':=hide ((uh hrs).on (uh hX).2)
  unfold Gd.world at cs
  clear hlv hrs hA' hM' hI' lv
  go_wp2_with fail
  refine (uh cs).mono ?_
  rintro e w3 ⟨jC,jE,jI,dC,dE,dI,rfl,hcap,m1,m2,m3,n1,n2,n3,hL,hg⟩
  have hr3:=hide ((uh hrs').on hg)
  have fz:=(uh hr3).free
  obtain ⟨z0,z1,z2,z3,z4,z5,z6,z7,z8,z9,z10⟩:=Gd.res_cells (uh hr3)
  have hfo:Hid (∀vs,Cr.Fresh w seed (.returned (.agg (Gd.world (Cr.first seed) jC jE jI dC dE dI (fun _=>0)))) (w3.setCells B 0 vs)):=fun vs=>by
   have k0:=(uh hgw).size
   have k1:=(uh hX).2.size
   have k2:=(uh hX).1.lC
   have k3:=(uh hX).1.lE
   have k4:=(uh hX).1.lI
   have q1:=(uh hr3).type_ne hL.cells (by decide)
   have q2:=(uh hr3).type_ne hL.ents (by decide)
   have q3:=(uh hr3).type_ne hL.items (by decide)
   have r:=gss (g:=B) vs 0 w3 (World.grownBy.refl _ _)
   refine ⟨_,⟨c,es,is,uh hlev',rfl⟩,jC,jE,jI,dC,dE,dI,rfl,hcap,by omega,by omega,by omega,n1,n2,n3,⟨hL.cells.grown r (by simpa using q1),hL.ents.grown r (by simpa using q2),hL.items.grown r (by simpa using q3)⟩,?_⟩
   exact own_sets (by rw [uh hB'];omega) _ 0 w3 (gtr (uh hgw) (gtr (uh hX).2 hg))
  clear hcap m1 m2 m3 n1 n2 n3 hL hg cs b0 b1 b2 b3 b4 b5 b6 b7 b8 b9 b10 l0 l1 l2 hX hrs'
  unfold Gd.world
  go_wp2
  refine bodyPost_ret (v:=.agg (Gd.world (Cr.first seed) jC jE jI dC dE dI (fun _=>0))) (by simp [results,Try.results11,go_sem,Gd.world,z0,z1,z2,z3,z4,z5,z6,z7,z8,z9,z10]) rfl ?_
  exact uh hfo [_,_,_,_,_,_,_,_,_,_,_]

end Go.Proofs.Ytapgkgbpekkdjaa
