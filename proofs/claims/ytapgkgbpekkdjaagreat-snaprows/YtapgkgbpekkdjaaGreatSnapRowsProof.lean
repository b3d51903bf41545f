/-
  Of two worlds of a crawl just what is not the same in them is told: for every seed, every list of rows of numbers and any two numbers, at this commit; no condition.
-/
import Derived.ProofKit
import Derived.Test.YtapgkgbpekkdjaaGreatPart51
import Derived.Test.YtapgkgbpekkdjaaGreatPart53
import Derived.Test.YtapgkgbpekkdjaaGreatPart54
import Derived.ShutString
import Derived.ChangeOld
namespace Go.Proofs.YtapgkgbpekkdjaaGreat.snapRows
open Go.ChangeShapes Go.WideShapes Go.ChangeAt Go.RowKit
open Go.ChangeMaps (open_string shut_string)
set_option linter.unusedVariables false

theorem own:ownKnob Tryz.prog.godebug=none:=by kernel_rfl
theorem laidOut:laidOutB Tryz.prog=true:=by kernel_rfl

def IsRow (k:IntKind) (w:World) (a:Option Addr) (len cap:Nat) (zs:List Int):Prop :=
 (a=none∧len=0∧cap=0∧zs=[]) ∨
 ∃x,a=some x∧len≤cap∧cap≤maxLen∧zs.length=cap∧(∀i,i<zs.length→w.cell? (x.add i)=some (.int k (zs.getD i 0)))∧∀n∈zs,(Lit.int k n).wf=true

theorem atw {p:World→Prop} {w w0:World} (e:w=w0) (h:p w0):p w:=e ▸ h

set_option maxRecDepth 16000 in
set_option maxHeartbeats 6400000 in

theorem walk (a0:Int) (a1:Option Addr) (len1 cap1:Nat) (z1:(Nat→Option Addr × Nat × Nat) × (Nat→Nat→Int)) (a2:Int) (a3:Int) (w:World) (w0:(Lit.int .i64 a0).wf=true) (w1:Cr.Came w a1 len1 z1.1 z1.2) (w2:(Lit.int .i64 a2).wf=true) (w3:(Lit.int .i64 a3).wf=true) :
  Calls Tryz.prog 5 #[.int .i64 a0,.slice a1 len1 cap1,.int .i64 a2,.int .i64 a3] w fun e w'=>e=.returned (.bool true)∧Below w.heap.size w w':=by
 obtain ⟨V0,z⟩:=z1
 have hC:=hide w1
 clear w0 w1 w2 w3
 go_enter Tryz.func5,Tryz.ntmps5
 go_wp2_with fail
 refine (known11_any _).mono ?_
 rintro e wk ⟨rfl,hgk⟩
 have hCk:=hide ((uh hC).on hgk)
 have hgk':=hide hgk
 clear hgk hC
 go_wp2_with fail
 refine (story_any a0 a1 len1 cap1 _ _ wk (uh hCk)).mono ?_
 rintro e w1 ⟨v,base,L,rfl,hbase,hL0,hL31,hBk,hg1⟩
 obtain ⟨n,hn⟩:∃n,L.length=n+1:=⟨L.length - 1,by omega⟩
 have hn31:n<31:=by omega
 obtain ⟨i1,hi1,hi1n⟩:∃k:Nat,a2 % ((n:Int)+1)=(k:Int)∧k<n+1:=⟨(a2 % ((n:Int)+1)).toNat,by have:=Int.emod_nonneg a2 (show ((n:Int)+1)≠0 by omega);omega,by have:=Int.emod_nonneg a2 (show ((n:Int)+1)≠0 by omega);have:=Int.emod_lt_of_pos a2 (show (0:Int)<(n:Int)+1 by omega);omega⟩
 obtain ⟨i2,hi2,hi2n⟩:∃k:Nat,a3 % ((n:Int)+1)=(k:Int)∧k<n+1:=⟨(a3 % ((n:Int)+1)).toNat,by have:=Int.emod_nonneg a3 (show ((n:Int)+1)≠0 by omega);omega,by have:=Int.emod_nonneg a3 (show ((n:Int)+1)≠0 by omega);have:=Int.emod_lt_of_pos a3 (show (0:Int)<(n:Int)+1 by omega);omega⟩
 have hBk2:=hBk.at (k:=i2) (by omega)
 obtain ⟨q,cap,rfl,hq,hcap,⟨s,g,c,E,I⟩,gC,gE,gI,cC,cE,cI,hcell,hLs,hcE,hGood,hs0,hs1⟩:=hBk.at (k:=i1) (by omega)
 obtain ⟨q',cap',hqe,-,-,⟨t,h,d,F,J⟩,kC,kE,kI,eC,eE,eI,hcell2,hLs2,-,hGood2,-,-⟩:=hBk2
 obtain ⟨rfl,rfl⟩:q=q'∧cap=cap':=by
  simp only [Value.slice.injEq,Option.some.injEq,Addr.mk.injEq] at hqe
  exact ⟨hqe.1.1,hqe.2.2⟩
 have hqlt:q<w1.heap.size:=Go.block_lt_of_cell (hcell 0 (by omega))
 have hc8:=hide hGood.sane.fit.cells
 have hd8:=hide hGood2.sane.fit.cells
 have hcA:Hid (∀x,w1.grownBy x none→x.cell? ⟨q,i1*11,none⟩=some (.int .i64 (s 0))∧x.cell? ⟨q,i1*11+1,none⟩=some (.int .i64 (s 1))∧x.cell? ⟨q,i1*11+2,none⟩=some (.int .i64 (s 2))∧x.cell? ⟨q,i1*11+3,none⟩=some (.int .i64 (s 3))∧x.cell? ⟨q,i1*11+4,none⟩=some (.slice (some ⟨gC,0,none⟩) 384 cC)∧x.cell? ⟨q,i1*11+5,none⟩=some (.slice (some ⟨gE,0,none⟩) 32 cE)∧x.cell? ⟨q,i1*11+6,none⟩=some (.slice (some ⟨gI,0,none⟩) 40 cI)∧x.cell? ⟨q,i1*11+7,none⟩=some (.int .i64 (g 0))∧x.cell? ⟨q,i1*11+8,none⟩=some (.int .i64 (g 1))∧x.cell? ⟨q,i1*11+9,none⟩=some (.int .i64 (g 2))∧x.cell? ⟨q,i1*11+10,none⟩=some (.int .i64 (g 3))):=fun x hx=>by
  have k:∀j,j<11→x.cell? ⟨q,i1*11+j,none⟩=some (Gd.box s gC gE gI cC cE cI g j):=fun j hj=>(gce hx q _ hqlt (by simp)).trans (hcell j hj)
  exact ⟨k 0 (by omega),k 1 (by omega),k 2 (by omega),k 3 (by omega),k 4 (by omega),k 5 (by omega),k 6 (by omega),k 7 (by omega),k 8 (by omega),k 9 (by omega),k 10 (by omega)⟩
 have hcU:Hid (∀x,w1.grownBy x none→x.cell? ⟨q,i2*11,none⟩=some (.int .i64 (t 0))∧x.cell? ⟨q,i2*11+1,none⟩=some (.int .i64 (t 1))∧x.cell? ⟨q,i2*11+2,none⟩=some (.int .i64 (t 2))∧x.cell? ⟨q,i2*11+3,none⟩=some (.int .i64 (t 3))∧x.cell? ⟨q,i2*11+4,none⟩=some (.slice (some ⟨kC,0,none⟩) 384 eC)∧x.cell? ⟨q,i2*11+5,none⟩=some (.slice (some ⟨kE,0,none⟩) 32 eE)∧x.cell? ⟨q,i2*11+6,none⟩=some (.slice (some ⟨kI,0,none⟩) 40 eI)∧x.cell? ⟨q,i2*11+7,none⟩=some (.int .i64 (h 0))∧x.cell? ⟨q,i2*11+8,none⟩=some (.int .i64 (h 1))∧x.cell? ⟨q,i2*11+9,none⟩=some (.int .i64 (h 2))∧x.cell? ⟨q,i2*11+10,none⟩=some (.int .i64 (h 3))):=fun x hx=>by
  have k:∀j,j<11→x.cell? ⟨q,i2*11+j,none⟩=some (Gd.box t kC kE kI eC eE eI h j):=fun j hj=>(gce hx q _ hqlt (by simp)).trans (hcell2 j hj)
  exact ⟨k 0 (by omega),k 1 (by omega),k 2 (by omega),k 3 (by omega),k 4 (by omega),k 5 (by omega),k 6 (by omega),k 7 (by omega),k 8 (by omega),k 9 (by omega),k 10 (by omega)⟩
 have cw1:Hid (∀x,Calls Tryz.prog 21 #[.int .i64 a2,.int .i64 ((n:Int)+1)] x fun e w'=>e=.returned (.int .i64 (i1:Int))∧w'=x):=fun x=>by rw [←hi1];exact within11_any a2 ((n:Int)+1) x (by omega) (by omega)
 have cw2:Hid (∀x,Calls Tryz.prog 21 #[.int .i64 a3,.int .i64 ((n:Int)+1)] x fun e w'=>e=.returned (.int .i64 (i2:Int))∧w'=x):=fun x=>by rw [←hi2];exact within11_any a3 ((n:Int)+1) x (by omega) (by omega)
 have hgw:=hide (gtr (uh hgk') hg1)
 have hLa:=hide hLs
 have hLu:=hide hLs2
 have hk1:(i1:Int)<(n:Int)+1:=by omega
 have hk2:(i2:Int)<(n:Int)+1:=by omega
 have hk3:(0:Int)≤(i1:Int):=by omega
 have hk4:(0:Int)≤(i2:Int):=by omega
 rw [hn]
 clear hgk' hg1 hLs hLs2 hcE hGood hGood2 hs0 hs1 hBk hL0 hL31 hbase hq hcap hCk hcell hcell2 hqe hn hi1 hi2 hi1n hi2n hqlt
 go_upto_region 4 with fail
 obtain ⟨B,hB⟩:∃B,w1.heap.size=B:=⟨_,rfl⟩
 have hfin:Hid (∀T U x (K1 K2:Nat→Value),w1.grownBy x none→w1.heap.size≤T→w1.heap.size≤U→T≠U→Lie x T 31 11 K1→Lie x U 31 11 K2→Sn.Pages w ((x.setCells T 0 (Gd.world s gC gE gI cC cE cI g).toList).setCells U 0 (Gd.world t kC kE kI eC eE eI h).toList) T gC gE gI cC cE cI U kC kE kI eC eE eI s g c E I t h d F J):=fun T U x K1 K2 hx hT hU hne h1 h2=>by
  have g1:w1.grownBy ((x.setCells T 0 (Gd.world s gC gE gI cC cE cI g).toList).setCells U 0 (Gd.world t kC kE kI eC eE eI h).toList) none:=own_sets hU _ _ _ (own_sets hT _ _ _ hx)
  exact ⟨(h1.laid s g gC gE gI cC cE cI).others hne.symm _ _,(uh hLa).on g1,(h2.others hne _ _).laid t h kC kE kI eC eE eI,(uh hLu).on g1,gtr (uh hgw) g1⟩
 have hG0:=hide (gd1 (World.grownBy.refl w1 none))
 have hg1:Hid (w1.grownBy (w1.alloc (.cells #[.int .i64 0,.int .i64 0,.int .i64 0,.int .i64 0,.slice none 0 0,.slice none 0 0,.slice none 0 0,.int .i64 0,.int .i64 0,.int .i64 0,.int .i64 0] 31)).drew none):=gd1 (World.grownBy_alloc _ _ _)
 have hg2:Hid (w1.grownBy ((w1.alloc (.cells #[.int .i64 0,.int .i64 0,.int .i64 0,.int .i64 0,.slice none 0 0,.slice none 0 0,.slice none 0 0,.int .i64 0,.int .i64 0,.int .i64 0,.int .i64 0] 31)).alloc (.cells #[.int .i64 0,.int .i64 0,.int .i64 0,.int .i64 0,.slice none 0 0,.slice none 0 0,.slice none 0 0,.int .i64 0,.int .i64 0,.int .i64 0,.int .i64 0] 31)).drew none):=gd1 (gal (World.grownBy_alloc _ _ _) _)
 have hl1:Hid (Lie ((w1.alloc (.cells #[.int .i64 0,.int .i64 0,.int .i64 0,.int .i64 0,.slice none 0 0,.slice none 0 0,.slice none 0 0,.int .i64 0,.int .i64 0,.int .i64 0,.int .i64 0] 31)).alloc (.cells #[.int .i64 0,.int .i64 0,.int .i64 0,.int .i64 0,.slice none 0 0,.slice none 0 0,.slice none 0 0,.int .i64 0,.int .i64 0,.int .i64 0,.int .i64 0] 31)).drew B 31 11 (fun j=>#[.int .i64 0,.int .i64 0,.int .i64 0,.int .i64 0,.slice none 0 0,.slice none 0 0,.slice none 0 0,.int .i64 0,.int .i64 0,.int .i64 0,.int .i64 0][j]?.getD undef)):=by
  rw [←hB]
  exact (Arr.lit (heap_alloc_new w1 (.cells #[.int .i64 0,.int .i64 0,.int .i64 0,.int .i64 0,.slice none 0 0,.slice none 0 0,.slice none 0 0,.int .i64 0,.int .i64 0,.int .i64 0,.int .i64 0] 31))).lie.on (gd1 (World.grownBy_alloc _ _ _))
 have hl2:Hid (Lie ((w1.alloc (.cells #[.int .i64 0,.int .i64 0,.int .i64 0,.int .i64 0,.slice none 0 0,.slice none 0 0,.slice none 0 0,.int .i64 0,.int .i64 0,.int .i64 0,.int .i64 0] 31)).alloc (.cells #[.int .i64 0,.int .i64 0,.int .i64 0,.int .i64 0,.slice none 0 0,.slice none 0 0,.slice none 0 0,.int .i64 0,.int .i64 0,.int .i64 0,.int .i64 0] 31)).drew (B+1) 31 11 (fun j=>#[.int .i64 0,.int .i64 0,.int .i64 0,.int .i64 0,.slice none 0 0,.slice none 0 0,.slice none 0 0,.int .i64 0,.int .i64 0,.int .i64 0,.int .i64 0][j]?.getD undef)):=by
  have hq:=(Arr.lit (heap_alloc_new (w1.alloc (.cells #[.int .i64 0,.int .i64 0,.int .i64 0,.int .i64 0,.slice none 0 0,.slice none 0 0,.slice none 0 0,.int .i64 0,.int .i64 0,.int .i64 0,.int .i64 0] 31)) (.cells #[.int .i64 0,.int .i64 0,.int .i64 0,.int .i64 0,.slice none 0 0,.slice none 0 0,.slice none 0 0,.int .i64 0,.int .i64 0,.int .i64 0,.int .i64 0] 31))).lie
  rw [show (w1.alloc (.cells #[.int .i64 0,.int .i64 0,.int .i64 0,.int .i64 0,.slice none 0 0,.slice none 0 0,.slice none 0 0,.int .i64 0,.int .i64 0,.int .i64 0,.int .i64 0] 31)).heap.size=B+1 by rw [←hB];simp] at hq
  exact hq.on (gd1 (World.grownBy.refl _ none))
 have HB:=hide hB
 clear hgw hLa hLu
 go_cut [10,11] from 18 to 31 (fun v10 v11 wx=>∃T U,v10=.pointer (some ⟨T,0,none⟩)∧v11=.pointer (some ⟨U,0,none⟩)∧Hid (Sn.Pages w wx T gC gE gI cC cE cI U kC kE kI eC eE eI s g c E I t h d F J))
 case first =>
  refine wp_region_till (h:=17) (S:=fun x=>Hid (w1.grownBy x none)) (by kernel_rfl) ?_
  refine wtk (i:=0) (v:=?_) [17] rfl (by kernel_rfl) (by kernel_rfl) (by kernel_rfl) (by kernel_rfl) (fun _ _ _ h=>h) hG0 (Or.inl ⟨by rfl,?_⟩) ?_
  rotate_left
  ·intro x hSx
   clear hSx
   go_simp
   try with_reducible rfl
  simp only [Act.put,List.getElem_toArray,List.getElem_cons_zero,List.setIfInBounds_toArray,List.set_cons_succ,List.set_cons_zero]
  refine wtk (i:=1) (v:=?_) [17] rfl (by kernel_rfl) (by kernel_rfl) (by kernel_rfl) (by kernel_rfl) (fun _ _ _ h=>h) hG0 (Or.inl ⟨by rfl,?_⟩) ?_
  rotate_left
  ·intro x hSx
   clear hSx
   go_simp
   try with_reducible rfl
  simp only [Act.put,List.getElem_toArray,List.getElem_cons_zero,List.getElem_cons_succ,List.setIfInBounds_toArray,List.set_cons_succ,List.set_cons_zero]
  refine wtk (i:=2) (v:=?_) [17] rfl (by kernel_rfl) (by kernel_rfl) (by kernel_rfl) (by kernel_rfl) (fun _ _ _ h=>h) hG0 (Or.inl ⟨by rfl,?_⟩) ?_
  rotate_left
  ·intro x hSx
   clear hSx
   go_simp
   try with_reducible rfl
  simp only [Act.put,List.getElem_toArray,List.getElem_cons_zero,List.getElem_cons_succ,List.setIfInBounds_toArray,List.set_cons_succ,List.set_cons_zero]
  refine wtk (i:=3) (v:=?_) [17] rfl (by kernel_rfl) (by kernel_rfl) (by kernel_rfl) (by kernel_rfl) (fun _ _ _ h=>h) hG0 (Or.inl ⟨by rfl,?_⟩) ?_
  rotate_left
  ·intro x hSx
   clear hSx
   go_simp
   try with_reducible rfl
  simp only [Act.put,List.getElem_toArray,List.getElem_cons_zero,List.getElem_cons_succ,List.setIfInBounds_toArray,List.set_cons_succ,List.set_cons_zero]
  refine wpTill_call (i:=4) (v:=.int .i64 (i1:Int)) [17] rfl (by kernel_rfl) (by kernel_rfl) (by kernel_rfl) (by kernel_rfl) (fun _ _ _ h=>h) hG0 ⟨by rfl,fun x _=>⟨21,#[.int .i64 a2,.int .i64 ((n:Int)+1)],?_,uh cw1 x⟩⟩ ?_
  ·go_simp
   try with_reducible rfl
  simp only [Act.put,List.getElem_toArray,List.getElem_cons_zero,List.getElem_cons_succ,List.setIfInBounds_toArray,List.set_cons_succ,List.set_cons_zero]
  refine wtk (i:=5) (v:=?_) [17] rfl (by kernel_rfl) (by kernel_rfl) (by kernel_rfl) (by kernel_rfl) (fun _ _ _ h=>h) hG0 (Or.inl ⟨by rfl,?_⟩) ?_
  rotate_left
  ·intro x hSx
   clear hSx
   go_simp
   try with_reducible rfl
  simp only [Act.put,List.getElem_toArray,List.getElem_cons_zero,List.getElem_cons_succ,List.setIfInBounds_toArray,List.set_cons_succ,List.set_cons_zero]
  refine wtk (i:=6) (v:=?_) [17] rfl (by kernel_rfl) (by kernel_rfl) (by kernel_rfl) (by kernel_rfl) (fun _ _ _ h=>h) hG0 (Or.inl ⟨by rfl,?_⟩) ?_
  rotate_left
  ·intro x hSx
   obtain ⟨b0,b1,b2,b3,b4,b5,b6,b7,b8,b9,b10⟩:=uh hcA x (uh hSx)
   clear hSx
   go_simp
   try with_reducible rfl
  simp only [Act.put,List.getElem_toArray,List.getElem_cons_zero,List.getElem_cons_succ,List.setIfInBounds_toArray,List.set_cons_succ,List.set_cons_zero]
  refine wtk (i:=7) (v:=?_) [17] rfl (by kernel_rfl) (by kernel_rfl) (by kernel_rfl) (by kernel_rfl) (fun _ _ _ h=>h) hG0 (Or.inl ⟨by rfl,?_⟩) ?_
  rotate_left
  ·intro x hSx
   clear hSx
   go_simp
   try with_reducible rfl
  simp only [Act.put,List.getElem_toArray,List.getElem_cons_zero,List.getElem_cons_succ,List.setIfInBounds_toArray,List.set_cons_succ,List.set_cons_zero]
  refine wtk (i:=8) (v:=?_) [17] rfl (by kernel_rfl) (by kernel_rfl) (by kernel_rfl) (by kernel_rfl) (fun _ _ _ h=>h) hG0 (Or.inl ⟨by rfl,?_⟩) ?_
  rotate_left
  ·intro x hSx
   clear hSx
   go_simp
   try with_reducible rfl
  simp only [Act.put,List.getElem_toArray,List.getElem_cons_zero,List.getElem_cons_succ,List.setIfInBounds_toArray,List.set_cons_succ,List.set_cons_zero]
  refine wtk (i:=9) (v:=?_) [17] rfl (by kernel_rfl) (by kernel_rfl) (by kernel_rfl) (by kernel_rfl) (fun _ _ _ h=>h) hG0 (Or.inl ⟨by rfl,?_⟩) ?_
  rotate_left
  ·intro x hSx
   clear hSx
   go_simp
   try with_reducible rfl
  simp only [Act.put,List.getElem_toArray,List.getElem_cons_zero,List.getElem_cons_succ,List.setIfInBounds_toArray,List.set_cons_succ,List.set_cons_zero]
  refine wtk (i:=10) (v:=?_) [17] rfl (by kernel_rfl) (by kernel_rfl) (by kernel_rfl) (by kernel_rfl) (fun _ _ _ h=>h) hG0 (Or.inl ⟨by rfl,?_⟩) ?_
  rotate_left
  ·intro x hSx
   clear hSx
   go_simp
   try with_reducible rfl
  simp only [Act.put,List.getElem_toArray,List.getElem_cons_zero,List.getElem_cons_succ,List.setIfInBounds_toArray,List.set_cons_succ,List.set_cons_zero]
  refine wpTill_call (i:=11) (v:=.int .i64 (i2:Int)) [17] rfl (by kernel_rfl) (by kernel_rfl) (by kernel_rfl) (by kernel_rfl) (fun _ _ _ h=>h) hG0 ⟨by rfl,fun x _=>⟨21,#[.int .i64 a3,.int .i64 ((n:Int)+1)],?_,uh cw2 x⟩⟩ ?_
  ·go_simp
   try with_reducible rfl
  simp only [Act.put,List.getElem_toArray,List.getElem_cons_zero,List.getElem_cons_succ,List.setIfInBounds_toArray,List.set_cons_succ,List.set_cons_zero]
  refine wtk (i:=12) (v:=?_) [17] rfl (by kernel_rfl) (by kernel_rfl) (by kernel_rfl) (by kernel_rfl) (fun _ _ _ h=>h) hG0 (Or.inl ⟨by rfl,?_⟩) ?_
  rotate_left
  ·intro x hSx
   clear hSx
   go_simp
   try with_reducible rfl
  simp only [Act.put,List.getElem_toArray,List.getElem_cons_zero,List.getElem_cons_succ,List.setIfInBounds_toArray,List.set_cons_succ,List.set_cons_zero]
  refine wtk (i:=13) (v:=?_) [17] rfl (by kernel_rfl) (by kernel_rfl) (by kernel_rfl) (by kernel_rfl) (fun _ _ _ h=>h) hG0 (Or.inl ⟨by rfl,?_⟩) ?_
  rotate_left
  ·intro x hSx
   obtain ⟨b0,b1,b2,b3,b4,b5,b6,b7,b8,b9,b10⟩:=uh hcU x (uh hSx)
   clear hSx
   go_simp
   try with_reducible rfl
  simp only [Act.put,List.getElem_toArray,List.getElem_cons_zero,List.getElem_cons_succ,List.setIfInBounds_toArray,List.set_cons_succ,List.set_cons_zero]
  refine wpTill_pair (i:=14) (j:=15) (by kernel_rfl) rfl rfl (fun K hK=>?_) (fun K hK=>?_)
  ·go_simp
   refine hK.out _ _ (fun _=>hg1) ?_
   clear hK K
   refine wto (j:=15) (by kernel_rfl) rfl (fun K hK=>?_)
   go_simp
   refine hK.out _ _ (fun _=>hg2) ?_
   clear hK K
   have hf:=hide (uh hfin (B) (B+1) _ _ _ (uh hg2) (by omega) (by omega) (by omega) (uh hl1) (uh hl2))
   have hne1:¬B=B+1:=by omega
   have hg3:Hid (w1.grownBy ((((w1.alloc (.cells #[.int .i64 0,.int .i64 0,.int .i64 0,.int .i64 0,.slice none 0 0,.slice none 0 0,.slice none 0 0,.int .i64 0,.int .i64 0,.int .i64 0,.int .i64 0] 31)).alloc (.cells #[.int .i64 0,.int .i64 0,.int .i64 0,.int .i64 0,.slice none 0 0,.slice none 0 0,.slice none 0 0,.int .i64 0,.int .i64 0,.int .i64 0,.int .i64 0] 31)).drew).setCells (B) 0 (Gd.world s gC gE gI cC cE cI g).toList) none):=own_sets (by omega) _ _ _ (uh hg2)
   have hlu:=hide ((uh hl2).others (p:=B) (by omega) 0 (Gd.world s gC gE gI cC cE cI g).toList)
   have fz:=(uh hl1).free
   obtain ⟨z0,z1,z2,z3,z4,z5,z6,z7,z8,z9,z10⟩:=Gd.res_cells (uh hl1)
   unfold Gd.world at hg3 hlu hf
   generalize ((w1.alloc (.cells #[.int .i64 0,.int .i64 0,.int .i64 0,.int .i64 0,.slice none 0 0,.slice none 0 0,.slice none 0 0,.int .i64 0,.int .i64 0,.int .i64 0,.int .i64 0] 31)).alloc (.cells #[.int .i64 0,.int .i64 0,.int .i64 0,.int .i64 0,.slice none 0 0,.slice none 0 0,.slice none 0 0,.int .i64 0,.int .i64 0,.int .i64 0,.int .i64 0] 31)).drew=w3 at *
   clear hB hne1
   refine wto (j:=16) (by kernel_rfl) rfl (fun K hK=>?_)
   go_simp
   refine hK.out _ _ (fun _=>hg3) ?_
   clear hK K fz z0 z1 z2 z3 z4 z5 z6 z7 z8 z9 z10
   have fz:=(uh hl2).free
   obtain ⟨z0,z1,z2,z3,z4,z5,z6,z7,z8,z9,z10⟩:=Gd.res_cells (uh hl2)
   refine wto (j:=17) (by kernel_rfl) rfl (fun K hK=>?_)
   go_simp
   refine hK.out _ _ (fun hx=>absurd (hx.symm.trans (by kernel_rfl)) Bool.false_ne_true) ?_
   clear hK K fz z0 z1 z2 z3 z4 z5 z6 z7 z8 z9 z10
   refine wpTill_done (by kernel_rfl) ?_ _
   go_wp2_with fail
   go_meet
   exact ⟨_,_,rfl,rfl,uh hf⟩
  ·go_simp
   refine hK.out _ _ (fun _=>hg1) ?_
   clear hK K
   refine wto (j:=14) (by kernel_rfl) rfl (fun K hK=>?_)
   go_simp
   refine hK.out _ _ (fun _=>hg2) ?_
   clear hK K
   have hf:=hide (uh hfin (B+1) (B) _ _ _ (uh hg2) (by omega) (by omega) (by omega) (uh hl2) (uh hl1))
   have hne1:¬B=B+1:=by omega
   have hg3:Hid (w1.grownBy ((((w1.alloc (.cells #[.int .i64 0,.int .i64 0,.int .i64 0,.int .i64 0,.slice none 0 0,.slice none 0 0,.slice none 0 0,.int .i64 0,.int .i64 0,.int .i64 0,.int .i64 0] 31)).alloc (.cells #[.int .i64 0,.int .i64 0,.int .i64 0,.int .i64 0,.slice none 0 0,.slice none 0 0,.slice none 0 0,.int .i64 0,.int .i64 0,.int .i64 0,.int .i64 0] 31)).drew).setCells (B+1) 0 (Gd.world s gC gE gI cC cE cI g).toList) none):=own_sets (by omega) _ _ _ (uh hg2)
   have hlu:=hide ((uh hl1).others (p:=B+1) (by omega) 0 (Gd.world s gC gE gI cC cE cI g).toList)
   have fz:=(uh hl2).free
   obtain ⟨z0,z1,z2,z3,z4,z5,z6,z7,z8,z9,z10⟩:=Gd.res_cells (uh hl2)
   unfold Gd.world at hg3 hlu hf
   generalize ((w1.alloc (.cells #[.int .i64 0,.int .i64 0,.int .i64 0,.int .i64 0,.slice none 0 0,.slice none 0 0,.slice none 0 0,.int .i64 0,.int .i64 0,.int .i64 0,.int .i64 0] 31)).alloc (.cells #[.int .i64 0,.int .i64 0,.int .i64 0,.int .i64 0,.slice none 0 0,.slice none 0 0,.slice none 0 0,.int .i64 0,.int .i64 0,.int .i64 0,.int .i64 0] 31)).drew=w3 at *
   clear hB hne1
   refine wto (j:=16) (by kernel_rfl) rfl (fun K hK=>?_)
   go_simp
   refine hK.out _ _ (fun _=>hg3) ?_
   clear hK K fz z0 z1 z2 z3 z4 z5 z6 z7 z8 z9 z10
   have fz:=(uh hl1).free
   obtain ⟨z0,z1,z2,z3,z4,z5,z6,z7,z8,z9,z10⟩:=Gd.res_cells (uh hl1)
   refine wto (j:=17) (by kernel_rfl) rfl (fun K hK=>?_)
   go_simp
   refine hK.out _ _ (fun hx=>absurd (hx.symm.trans (by kernel_rfl)) Bool.false_ne_true) ?_
   clear hK K fz z0 z1 z2 z3 z4 z5 z6 z7 z8 z9 z10
   refine wpTill_done (by kernel_rfl) ?_ _
   go_wp2_with fail
   go_meet
   exact ⟨_,_,rfl,rfl,uh hf⟩
 case rest =>
 clear hfin hG0 hg1 hg2 hl1 hl2 HB hB hcA hcU cw1 cw2 hk1 hk2 hk3 hk4
 obtain ⟨T,U,rfl,rfl,hP⟩:=hcut
 obtain ⟨R,hRw⟩:∃R,Sn.rw s t g h c d E F I J=R:=⟨_,rfl⟩
 obtain ⟨m,hm⟩:∃m,R.length=m:=⟨_,rfl⟩
 have hm74:Hid (R.length≤100):=by
  show R.length≤100
  have:=Sn.rw_most s t g h c d E F I J
  rw [hRw] at this
  omega
 obtain ⟨z,hz⟩:∃z,Sn.sameW s t g h c d E F I J=z:=⟨_,rfl⟩
 have hmz:((m:Int) == 0)=z:=by
  have e:=Sn.rw_nil s t g h c d E F I J
  rw [hRw,hz] at e
  cases z with
  | true =>
   have:R=[]:=e.2 rfl
   rw [←hm,this]
   rfl
  | false =>
   have hne:R≠[]:=fun q=>absurd (e.1 q) (by simp)
   have:R.length≠0:=fun q=>hne (List.length_eq_zero_iff.1 q)
   rw [←hm]
   simp
   exact hne
 have cR1:Hid (∀x,Sn.Pages w x T gC gE gI cC cE cI U kC kE kI eC eE eI s g c E I t h d F J→Calls Tryz.prog 23 #[.agg #[.int .i64 (s 0),.int .i64 (s 1),.int .i64 (s 2),.int .i64 (s 3),.slice (some ⟨gC,0,none⟩) 384 cC,.slice (some ⟨gE,0,none⟩) 32 cE,.slice (some ⟨gI,0,none⟩) 40 cI,.int .i64 (g 0),.int .i64 (g 1),.int .i64 (g 2),.int .i64 (g 3)],.agg #[.int .i64 (t 0),.int .i64 (t 1),.int .i64 (t 2),.int .i64 (t 3),.slice (some ⟨kC,0,none⟩) 384 eC,.slice (some ⟨kE,0,none⟩) 32 eE,.slice (some ⟨kI,0,none⟩) 40 eI,.int .i64 (h 0),.int .i64 (h 1),.int .i64 (h 2),.int .i64 (h 3)]] x fun e w'=>∃r,e=.returned (.slice (some ⟨r,0,none⟩) m m)∧Lie w' r 96 (R.length*2) (Sn.prs R R.length)∧x.grownBy w' none):=fun x hx=>by
  have k:=snRows_any s t g h c d E F I J gC gE gI cC cE cI kC kE kI eC eE eI x hx.la hx.lu
  rw [hRw] at k
  refine k.mono fun e w' hq=>?_
  obtain ⟨r,h1,_,h3,h4⟩:=hq
  rw [hm] at h1
  exact ⟨r,h1,h3,h4⟩
 have cR2:Hid (∀x,Sn.Pages w x T gC gE gI cC cE cI U kC kE kI eC eE eI s g c E I t h d F J→Calls Tryz.prog 25 #[.agg #[.int .i64 (s 0),.int .i64 (s 1),.int .i64 (s 2),.int .i64 (s 3),.slice (some ⟨gC,0,none⟩) 384 cC,.slice (some ⟨gE,0,none⟩) 32 cE,.slice (some ⟨gI,0,none⟩) 40 cI,.int .i64 (g 0),.int .i64 (g 1),.int .i64 (g 2),.int .i64 (g 3)],.agg #[.int .i64 (t 0),.int .i64 (t 1),.int .i64 (t 2),.int .i64 (t 3),.slice (some ⟨kC,0,none⟩) 384 eC,.slice (some ⟨kE,0,none⟩) 32 eE,.slice (some ⟨kI,0,none⟩) 40 eI,.int .i64 (h 0),.int .i64 (h 1),.int .i64 (h 2),.int .i64 (h 3)]] x (Sn.Brings x R)):=fun x hx=>by
  have k:=refRows_any s t g h c d E F I J gC gE gI cC cE cI kC kE kI eC eE eI x hx.la hx.lu (uh hc8) (uh hd8)
  rw [hRw] at k
  exact k
 have cS:Hid (∀r base v x,Lie x r 96 (R.length*2) (Sn.prs R R.length)→x.ownsRow base 96 2 v R.length (Sn.prV R)→Calls Tryz.prog 24 #[.slice (some ⟨r,0,none⟩) m m,v] x (Says x (.bool true))):=fun r base v x h1 h2=>by
  have k:=sameRows_any R r base v x h1 h2 (uh hm74)
  rw [hm] at k
  exact k
 have c7:Hid (∀x,Sn.Pages w x T gC gE gI cC cE cI U kC kE kI eC eE eI s g c E I t h d F J→Calls Tryz.prog 16 #[.agg #[.int .i64 (s 0),.int .i64 (s 1),.int .i64 (s 2),.int .i64 (s 3),.slice (some ⟨gC,0,none⟩) 384 cC,.slice (some ⟨gE,0,none⟩) 32 cE,.slice (some ⟨gI,0,none⟩) 40 cI,.int .i64 (g 0),.int .i64 (g 1),.int .i64 (g 2),.int .i64 (g 3)],.agg #[.int .i64 (t 0),.int .i64 (t 1),.int .i64 (t 2),.int .i64 (t 3),.slice (some ⟨kC,0,none⟩) 384 eC,.slice (some ⟨kE,0,none⟩) 32 eE,.slice (some ⟨kI,0,none⟩) 40 eI,.int .i64 (h 0),.int .i64 (h 1),.int .i64 (h 2),.int .i64 (h 3)]] x (Says x (.bool z))):=fun x hx=>by
  have k:=same7_two s t g h c d E F I J gC gE gI cC cE cI kC kE kI eC eE eI x hx.la hx.lu (uh hc8) (uh hd8)
  rw [hz] at k
  exact k
 have cR3:Hid (∀x,Sn.Pages w x T gC gE gI cC cE cI U kC kE kI eC eE eI s g c E I t h d F J→Calls Tryz.prog 23 #[.agg #[.int .i64 (s 0),.int .i64 (s 1),.int .i64 (s 2),.int .i64 (s 3),.slice (some ⟨gC,0,none⟩) 384 cC,.slice (some ⟨gE,0,none⟩) 32 cE,.slice (some ⟨gI,0,none⟩) 40 cI,.int .i64 (g 0),.int .i64 (g 1),.int .i64 (g 2),.int .i64 (g 3)],.agg #[.int .i64 (s 0),.int .i64 (s 1),.int .i64 (s 2),.int .i64 (s 3),.slice (some ⟨gC,0,none⟩) 384 cC,.slice (some ⟨gE,0,none⟩) 32 cE,.slice (some ⟨gI,0,none⟩) 40 cI,.int .i64 (g 0),.int .i64 (g 1),.int .i64 (g 2),.int .i64 (g 3)]] x fun e w'=>∃r,e=.returned (.slice (some ⟨r,0,none⟩) 0 0)∧x.grownBy w' none):=fun x hx=>by
  have k:=snRows_any s s g g c c E E I I gC gE gI cC cE cI gC gE gI cC cE cI x hx.la hx.la
  rw [Sn.rw_self] at k
  refine k.mono fun e w' hq=>?_
  obtain ⟨r,h1,_,h3,h4⟩:=hq
  exact ⟨r,h1,h4⟩
 have hzz:(z == z)=true:=by simp
 clear hRw hz hm hc8 hd8
 obtain ⟨b0,b1,b2,b3,b4,b5,b6,b7,b8,b9,b10⟩:=(uh hP).a.eleven
 obtain ⟨e0,e1,e2,e3,e4,e5,e6,e7,e8,e9,e10⟩:=(uh hP).u.eleven
 go_wp2_with fail
 refine (uh cR1 _ (uh hP)).mono ?_
 rintro e w4 ⟨r,rfl,hr,hg4⟩
 have hP4:=hide ((uh hP).on hg4)
 have hr4:=hide hr
 clear hP hr hg4 b0 b1 b2 b3 b4 b5 b6 b7 b8 b9 b10 e0 e1 e2 e3 e4 e5 e6 e7 e8 e9 e10 cR1
 obtain ⟨b0,b1,b2,b3,b4,b5,b6,b7,b8,b9,b10⟩:=(uh hP4).a.eleven
 obtain ⟨e0,e1,e2,e3,e4,e5,e6,e7,e8,e9,e10⟩:=(uh hP4).u.eleven
 go_wp2_with fail
 refine (uh cR2 _ (uh hP4)).mono ?_
 rintro e w5 ⟨v,base,rfl,-,hv,hg5⟩
 have hP5:=hide ((uh hP4).on hg5)
 have hr5:=hide ((uh hr4).on hg5)
 have hv5:=hide hv
 clear hP4 hr4 hv hg5 b0 b1 b2 b3 b4 b5 b6 b7 b8 b9 b10 e0 e1 e2 e3 e4 e5 e6 e7 e8 e9 e10 cR2
 go_wp2_with fail
 refine (uh cS _ _ _ _ (uh hr5) (uh hv5)).mono ?_
 rintro e w6 ⟨rfl,hg6⟩
 have hP6:=hide ((uh hP5).on hg6)
 clear hP5 hr5 hv5 hg6 cS
 obtain ⟨b0,b1,b2,b3,b4,b5,b6,b7,b8,b9,b10⟩:=(uh hP6).a.eleven
 obtain ⟨e0,e1,e2,e3,e4,e5,e6,e7,e8,e9,e10⟩:=(uh hP6).u.eleven
 go_wp2_with fail
 refine (uh c7 _ (uh hP6)).mono ?_
 rintro e w7 ⟨rfl,hg7⟩
 have hP7:=hide ((uh hP6).on hg7)
 clear hP6 hg7 b0 b1 b2 b3 b4 b5 b6 b7 b8 b9 b10 e0 e1 e2 e3 e4 e5 e6 e7 e8 e9 e10 c7
 obtain ⟨b0,b1,b2,b3,b4,b5,b6,b7,b8,b9,b10⟩:=(uh hP7).a.eleven
 go_wp2_with fail
 refine (uh cR3 _ (uh hP7)).mono ?_
 rintro e w8 ⟨r8,rfl,hg8⟩
 have hfin:=hide (gtr (uh hP7).grown hg8)
 clear hP7 hg8 b0 b1 b2 b3 b4 b5 b6 b7 b8 b9 b10 cR3
 go_wp2
 go_ret
 exact ⟨rfl,none_below (uh hfin)⟩

set_option maxRecDepth 100000 in
theorem lifted (os:Os) (started:os.Started) (H:Type) (enc:TypeId × Value→H) :
  ReturnsInHanded {} Tryz.checked os 5 .any (Rows.snapRowsSpec.pre6 enc Tryz.prog Tryz.f5 Rows.snapRowsRow.domain false) (Rows.snapRowsSpec.post enc Tryz.prog Tryz.f5 false true false false):=by
 refine returnsInHanded_of_change (C:=Tryz.checked) own started (by kernel_rfl) Tryz.func5
  (ChangeSpec.witness6 (enc:=enc) (C:=Tryz.checked) false ⟨#[],#[.int .i64 0,.slice none 0 0,.int .i64 0,.int .i64 0],[]⟩ 8 (by kernel_rfl) (by kernel_rfl) (by kernel_rfl) (by kernel_rfl)) ?_
 intro W base args ds gs before hval0 hW hcnd _
 have hval:∀(j:Nat) t v,Tryz.f5.params[j]?=some t→args[j]?=some v→Value.okWide Tryz.prog W .any base t v:=hval0
 have hW':=hW
 obtain ⟨p,q,hA0,hV,rfl,hfz,hnd⟩:=hW
 have hA:DataW.TrodAll enc Tryz.prog W 0 (fun _=>true) true Tryz.f5.params.toList args.toList ds p:=hA0
 rw [Tryz.params5] at hA hval
 obtain ⟨v0,vs0,d0,ds0,p0,q0,hargs,rfl,rfl,h0,r0⟩:=trodAll_cons hA
 obtain ⟨v1,vs1,d1,ds1,p1,q1,rfl,rfl,rfl,h1,r1⟩:=trodAll_cons r0
 obtain ⟨v2,vs2,d2,ds2,p2,q2,rfl,rfl,rfl,h2,r2⟩:=trodAll_cons r1
 obtain ⟨v3,vs3,d3,ds3,p3,q3,rfl,rfl,rfl,h3,r3⟩:=trodAll_cons r2
 obtain ⟨rfl,rfl,rfl⟩:=trodAll_nil r3
 obtain rfl:args=#[v0,v1,v2,v3]:=by cases args;simp_all
 obtain ⟨rfl,rfl⟩:=trodVars_none hV
 obtain ⟨a0,rfl,rfl,rfl,w0⟩:=open_int Tryz.underlying2 (hval 0 2 v0 rfl rfl) h0
 obtain ⟨a1,len1,cap1,rfl⟩:=okWide_slice Tryz.underlying22 (hval 1 22 v1 rfl rfl)
 have k1:=h1
 have lt1:∀x∈p1,x.block<W.heap.size:=by obtain ⟨m,hm⟩:=k1;exact DataW.trod_lt m _ _ _ hm
 obtain ⟨z1,w1⟩:∃z:(Nat→Option Addr × Nat × Nat) × (Nat→Nat→Int),Cr.Came W a1 len1 z.1 z.2:=by
  obtain ⟨fuel,hf⟩:=h1
  obtain ⟨V,z,h⟩:=open_rows (by simpa [Value.cells] using hf)
  exact ⟨(V,z),h⟩
 obtain ⟨a2,rfl,rfl,rfl,w2⟩:=open_int Tryz.underlying3 (hval 2 3 v2 rfl rfl) h2
 obtain ⟨a3,rfl,rfl,rfl,w3⟩:=open_int Tryz.underlying3 (hval 3 3 v3 rfl rfl) h3
 clear hA0 hval0
 refine (walk a0 a1 len1 cap1 z1 a2 a3 W w0 w1 w2 w3).mono fun e W' ⟨he,bel⟩=>?_
 subst he
 exact ⟨_,rfl,_,_,_,[],_,[],hW',trodAll_mk1 (shut_bool Tryz.underlying4 _),(trodAll_cons_mk (shut_int Tryz.underlying2 w0) (trodAll_cons_mk (Below.trod laidOut (by kernel_rfl) (of_decide_eq_true (by kernel_rfl)) k1 bel lt1) (trodAll_cons_mk (shut_int Tryz.underlying3 w2) (trodAll_cons_mk (shut_int Tryz.underlying3 w3) trodAll_mk0)))),rfl,bel.frame _,fun h=>by cases h⟩

theorem over:Rows.snapRowsRow.holds Tryz.pinned (OpenSpec.ofChange Rows.snapRowsSpec) :=
 OpenClaim.holds_of_wide 5 Tryz.f5 rfl rfl rfl rfl rfl rfl rfl ⟨rfl,rfl,rfl,rfl,rfl⟩ rfl rfl rfl rfl rfl (by kernel_rfl) Tryz.func5 (by kernel_rfl)
  (of_decide_eq_true (by kernel_rfl)) (by unfold Func.isWrapper;first | (rw [if_pos (by decide +kernel)];kernel_rfl) | (rw [if_neg (by decide +kernel)];exact ⟨rfl,rfl⟩))
  (fun os started H enc _=>lifted os started H enc)

theorem proved:Rows.SnapRowsSaid:=over
#print axioms proved

end Go.Proofs.YtapgkgbpekkdjaaGreat.snapRows
