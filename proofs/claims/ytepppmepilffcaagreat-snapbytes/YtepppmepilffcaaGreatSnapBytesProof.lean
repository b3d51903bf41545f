/-
  The bytes of a world, with some turned, cut off, or more behind, are read as the document says; what can be read is written as it stood: for every seed, list of rows of numbers, places, bytes, cut and bytes behind (more than 500 are let by), at this commit; no condition.
-/
import Derived.ProofKit
import Derived.Test.YtepppmepilffcaaGreatPart43
import Derived.Test.YtepppmepilffcaaGreatPart55
import Derived.ShutString
import Derived.ChangeOld
namespace Go.Proofs.YtepppmepilffcaaGreat.snapBytes
open Go.ChangeShapes Go.WideShapes Go.ChangeAt Go.RowKit
open Go.ChangeMaps (open_string shut_string)
set_option linter.unusedVariables false

theorem own:ownKnob Tryz.prog.godebug=none:=by kernel_rfl
theorem laidOut:laidOutB Tryz.prog=true:=by kernel_rfl

def IsRow (k:IntKind) (w:World) (a:Option Addr) (len cap:Nat) (zs:List Int):Prop :=
 (a=none∧len=0∧cap=0∧zs=[]) ∨
 ∃x,a=some x∧len≤cap∧cap≤maxLen∧zs.length=cap∧(∀i,i<zs.length→w.cell? (x.add i)=some (.int k (zs.getD i 0)))∧∀n∈zs,(Lit.int k n).wf=true

theorem IsRow.vec {k:IntKind} {w:World} {a:Option Addr} {len cap:Nat} {zs:List Int} (h:IsRow k w a len cap zs):Vec w.heap.size w a len (fun i=>.int k (zs[i]?.getD 0)):=by
 rcases h with ⟨rfl,rfl,rfl,rfl⟩ | ⟨x,rfl,hl,hm,hz,hcell,_⟩
 ·exact ⟨Nat.zero_le _,.inl rfl⟩
 ·refine ⟨Nat.le_trans hl hm,?_⟩
  by_cases h0:len=0
  ·exact .inl h0
  ·right
   obtain ⟨b,off,spot⟩:=x
   have hc0:=hcell 0 (by omega)
   have hspot:spot=none:=by simpa [Addr.add] using World.cell?_spot hc0
   subst hspot
   refine ⟨b,off,rfl,?_,fun i hi=>?_⟩
   ·have h:=Go.block_lt_of_cell hc0
    simpa [Addr.add] using h
   ·have h:=hcell i (by omega)
    by_cases hi0:i=0
    ·subst hi0
     simpa [Addr.add] using h
    ·simpa [Addr.add,hi0] using h

theorem IsRow.byte {w:World} {a:Option Addr} {len cap:Nat} {zs:List Int} (h:IsRow .u8 w a len cap zs) (i:Nat):0≤zs[i]?.getD 0∧zs[i]?.getD 0≤255:=by
 rcases h with ⟨_,_,_,rfl⟩ | ⟨_,_,_,_,_,_,hw⟩
 ·simp
 ·by_cases hi:i<zs.length
  ·have h:=hw zs[i] (List.getElem_mem hi)
   simp only [Lit.wf,Bool.and_eq_true,decide_eq_true_eq,show IntKind.u8.min=0 from by decide,show IntKind.u8.max=255 from by decide] at h
   rw [List.getElem?_eq_getElem hi]
   exact h
  ·rw [List.getElem?_eq_none (by omega)]
   simp

theorem IsRow.src {w:World} {a:Option Addr} {len cap:Nat} {zs:List Int} (h:IsRow .u8 w a len cap zs):∃l:List Int,l.length=len∧len≤cap∧cap≤maxLen∧Ck.Src w (.slice a l.length cap) l∧∀b∈l,0≤b∧b≤255:=by
 have hby:=IsRow.byte h
 rcases h with ⟨rfl,rfl,rfl,rfl⟩ | ⟨x,rfl,hl,hm,hz,hcell,_⟩
 ·exact ⟨[],rfl,Nat.le_refl _,Nat.zero_le _,.inl ⟨rfl,rfl⟩,fun b hb=>absurd hb (by simp)⟩
 ·refine ⟨zs.take len,by rw [List.length_take];omega,hl,hm,.inr ⟨x,cap,rfl,fun j u hj=>?_⟩,fun b hb=>?_⟩
  ·unfold Ck.bys at hj
   rw [List.getElem?_map,List.getElem?_take] at hj
   split at hj
   ·rename_i hjl
    have hjz:j<zs.length:=by omega
    rw [List.getElem?_eq_getElem hjz] at hj
    simp at hj
    rw [hcell j hjz,←hj,List.getD,List.getElem?_eq_getElem hjz]
    rfl
   ·simp at hj
  ·obtain ⟨i,hi,rfl⟩:=List.getElem_of_mem (List.mem_of_mem_take hb)
   have q:=hby i
   rw [List.getElem?_eq_getElem hi] at q
   exact q

theorem within_nat {a:Int} {n:Nat} (h:0<n):∃k:Nat,a % (n:Int)=(k:Int)∧k<n :=
 ⟨(a % (n:Int)).toNat,by have:=Int.emod_nonneg a (show (n:Int)≠0 by omega);omega,by have:=Int.emod_nonneg a (show (n:Int)≠0 by omega);have:=Int.emod_lt_of_pos a (show (0:Int)<(n:Int) by omega);omega⟩

def CutOf (w x:World) (G cb:Nat) (v:Value):Prop:=∃m l,0<m∧m≤918∧v=.slice (some ⟨G,0,none⟩) m cb∧Sn.Buf w x G m cb l

theorem same7_voids (w:World):Calls Tryz.prog 14 #[.agg Sn.void,.agg Sn.void] w (Says w (.bool true)) :=
 same7_alike (fun _=>0) (fun _=>0) (fun _=>0) (fun _ _=>0) (fun _ _=>0) _ _ _ _ _ _ 0 0 0 w ⟨.inl ⟨rfl,rfl⟩,.inl ⟨rfl,rfl⟩,.inl ⟨rfl,rfl⟩⟩ ⟨.inl ⟨rfl,rfl⟩,.inl ⟨rfl,rfl⟩,.inl ⟨rfl,rfl⟩⟩ (by omega) (by omega)

set_option maxRecDepth 16000 in
set_option maxHeartbeats 12800000 in

theorem walk (a0:Int) (a1:Option Addr) (len1 cap1:Nat) (z1:(Nat→Option Addr × Nat × Nat) × (Nat→Nat→Int)) (a2:Option Addr) (len2 cap2:Nat) (z2:List Int) (a3:Option Addr) (len3 cap3:Nat) (z3:List Int) (a4:Int) (a5:Option Addr) (len5 cap5:Nat) (z5:List Int) (w:World) (w0:(Lit.int .i64 a0).wf=true) (w1:Cr.Came w a1 len1 z1.1 z1.2) (w2:IsRow .i64 w a2 len2 cap2 z2) (w3:IsRow .u8 w a3 len3 cap3 z3) (w4:(Lit.int .i64 a4).wf=true) (w5:IsRow .u8 w a5 len5 cap5 z5) :
  Calls Tryz.prog 4 #[.int .i64 a0,.slice a1 len1 cap1,.slice a2 len2 cap2,.slice a3 len3 cap3,.int .i64 a4,.slice a5 len5 cap5] w fun e w'=>e=.returned (.bool true)∧Below w.heap.size w w':=by
 obtain ⟨V0,z⟩:=z1
 have hC:=hide w1
 have v2:=hide (IsRow.vec w2)
 have v3:=hide (IsRow.vec w3)
 have y3:=hide (IsRow.byte w3)
 obtain ⟨lm,hlm,hmc,hmm,hms,hmb⟩:=IsRow.src w5
 have HMs:=hide hms
 have HMb:=hide hmb
 have HMl:=hide hlm
 have e2:(len2:Int)≤9223372036854775807:=by have:=(uh v2).1;unfold maxLen at this;omega
 have e3:(len3:Int)≤9223372036854775807:=by have:=(uh v3).1;unfold maxLen at this;omega
 have e5:(len5:Int)≤9223372036854775807:=by unfold maxLen at hmm;omega
 clear w0 w1 w2 w3 w4 w5 hms hmb hlm hmc hmm
 go_enter Tryz.func4,Tryz.ntmps4
 go_wp2_with fail
 refine (known11_any _).mono ?_
 rintro e wk ⟨rfl,hgk⟩
 have hCk:=hide ((uh hC).on hgk)
 have hgk':=hide hgk
 clear hgk hC
 go_wp2_with fail
 refine (story_any a0 a1 len1 cap1 _ _ wk (uh hCk)).mono ?_
 rintro e w1 ⟨v,base,L,rfl,hbase,hL0,hL31,hBk,hg1⟩
 obtain ⟨n,hn⟩:∃n,L.length=n+1:=⟨L.length - 1,by omega⟩
 have hn31:n<31:=by omega
 obtain ⟨q,cap,rfl,hq,hcap,⟨s,g,c,E,I⟩,gC,gE,gI,cC,cE,cI,hcell,hLs,hcE,hGood,hs0,hs1⟩:=hBk.at (k:=n) (by omega)
 have hgw:=hide (gtr (uh hgk') hg1)
 have hLa:=hide hLs
 have hGd:=hide hGood
 have k0:w1.cell? ⟨q,n*11,none⟩=some (Gd.box s gC gE gI cC cE cI g 0):=by simpa using hcell 0 (by omega)
 have k1:=hcell 1 (by omega)
 have k2:=hcell 2 (by omega)
 have k3:=hcell 3 (by omega)
 have k4:=hcell 4 (by omega)
 have k5:=hcell 5 (by omega)
 have k6:=hcell 6 (by omega)
 have k7:=hcell 7 (by omega)
 have k8:=hcell 8 (by omega)
 have k9:=hcell 9 (by omega)
 have k10:=hcell 10 (by omega)
 dsimp only [Gd.box] at k0 k1 k2 k3 k4 k5 k6 k7 k8 k9 k10
 have hs1':s 1=(n:Int):=hs1
 have ce:=hide (Sn.refEncode_good s g c E I gC gE gI cC cE cI w1 hLs hGood hcE (by omega) (by omega))
 have hl8:=hide (Sn.bytes_len s g c E I)
 have hb8:=hide (Sn.bytes_byte s g c E I hGood.sane.fit.cells)
 have h1n:((n:Int)+1) - 1=(n:Int):=by omega
 rw [hn]
 clear hgk' hg1 hLs hcE hGood hs0 hs1 hs1' hBk hL0 hL31 hbase hq hcap hCk hcell hn
 unfold Gd.world at ce
 go_wp2_with fail
 refine (uh ce).mono ?_
 rintro e w2 ⟨vb,rfl,hBy,hg2⟩
 obtain ⟨lb,hlb⟩:∃l,Sn.bytes s g c E I=l:=⟨_,rfl⟩
 rw [hlb] at hBy hl8 hb8
 obtain ⟨G,cb,rfl,hBuf⟩:=Sn.Bytes.buf (w:=w) hBy (uh hb8) (by have:=uh hl8;omega) (uh hgw).size (gtr (uh hgw) hg2)
 rw [uh hl8] at hBuf ⊢
 have hB0:=hide hBuf
 clear ce hBy hBuf hg2 hlb k0 k1 k2 k3 k4 k5 k6 k7 k8 k9 k10 hLa hGd hl8 hb8 hgw h1n
 by_cases h500:500<len5
 ·have h5:(500:Int)<(len5:Int):=by omega
  have hfin:=hide (none_below (uh hB0).grown)
  clear h500 hB0
  go_wp2
  go_ret
  exact ⟨rfl,uh hfin⟩
 have h5:¬(500:Int)<(len5:Int):=by omega
 have H5:=hide h500
 clear h500
 go_upto_block 0 with fail
 go_cut [] from 49 to 83 (fun wx=>Hid (∃l,Sn.Buf w wx G 918 cb l))
 case first =>
  go_wp2_with fail
  go_loopw [16] (fun v16 wr=>∃i:Nat,i≤5∧v16=.int .i64 (i:Int)∧Hid (∃l,Sn.Buf w wr G 918 cb l)) (fun v16 _=>10 - (intOf v16).toNat)
  case atStart=>exact ⟨0,by omega,rfl,_,uh hB0⟩
  case round =>
   clear hB0
   obtain ⟨i,hi5,rfl,hX0⟩:=hrel
   obtain ⟨l,hX1⟩:=uh hX0
   have hX:=hide hX1
   clear hX0 hX1
   by_cases hlt:i<len2∧i<len3∧i<5
   ·have hlt1:(i:Int)<(len2:Int):=by omega
    have hlt2:(i:Int)<(len3:Int):=by omega
    have hlt3:(i:Int)<5:=by omega
    have HL:=hide hlt
    obtain ⟨b2,o2,rfl,hb2,hc2⟩:∃b off,a2=some ⟨b,off,none⟩∧b<w.heap.size∧∀i,i<len2→w.cell? ⟨b,off+i,none⟩=some (.int .i64 (z2[i]?.getD 0)):=by
     obtain ⟨_,h0 | h⟩:=uh v2
     ·omega
     ·exact h
    obtain ⟨b3,o3,rfl,hb3,hc3⟩:∃b off,a3=some ⟨b,off,none⟩∧b<w.heap.size∧∀i,i<len3→w.cell? ⟨b,off+i,none⟩=some (.int .u8 (z3[i]?.getD 0)):=by
     obtain ⟨_,h0 | h⟩:=uh v3
     ·omega
     ·exact h
    have d2:wr.cell? ⟨b2,o2+i,none⟩=some (.int .i64 (z2[i]?.getD 0)):=(gce (uh hX).grown b2 (o2+i) hb2 (by simp)).trans (hc2 i hlt.1)
    have d3:wr.cell? ⟨b3,o3+i,none⟩=some (.int .u8 (z3[i]?.getD 0)):=(gce (uh hX).grown b3 (o3+i) hb3 (by simp)).trans (hc3 i hlt.2.1)
    have yb:=uh y3 i
    obtain ⟨y2,hy2⟩:∃y,z2[i]?.getD 0=y:=⟨_,rfl⟩
    obtain ⟨yy,hyy⟩:∃y,z3[i]?.getD 0=y:=⟨_,rfl⟩
    rw [hy2] at d2
    rw [hyy] at d3 yb
    obtain ⟨k,hk,hk9⟩:=within_nat (a:=y2) (n:=918) (by omega)
    have cw:Hid (Calls Tryz.prog 19 #[.int .i64 y2,.int .i64 918] wr fun e w'=>e=.returned (.int .i64 (k:Int))∧w'=wr):=by
     have h:=within11_any y2 918 wr (by omega) (by omega)
     rw [show y2 % 918=(k:Int) from hk] at h
     exact h
    have d1:=(uh hX).cell hk9
    have fB:=(uh hX).free
    have hbt:0≤Sn.fn l k∧Sn.fn l k≤255:=(uh hX).world.byte k
    obtain ⟨x0,hx0⟩:∃x,Sn.fn l k=x:=⟨_,rfl⟩
    rw [hx0] at d1 hbt
    have hw8:IntKind.u8.wrap (x0+yy)=(x0+yy) % 256:=Sn.wrap8 _
    have hX2:=hide ((uh hX).turn k ((x0+yy) % 256) (by omega) (by omega))
    have hk1:(k:Int)<918:=by omega
    have hk2:(0:Int)≤(k:Int):=by omega
    have hS0:Hid (wr.cell? ⟨G,k,none⟩=some (.int .u8 x0)∧wr.cell? ⟨b3,o3+i,none⟩=some (.int .u8 yy)):=⟨d1,d3⟩
    clear hlt hi5 hb2 hc2 hb3 hc3 hy2 hyy hk hk9 hx0 hX yb hbt
    go_wp2_with fail
    refine (uh cw).mono ?_
    rintro e wq ⟨rfl,hq'⟩
    obtain rfl:wr=wq:=hq'.symm
    clear cw hq'
    go_upto_region 11 with fail
    refine wp_region_till (h:=12) (S:=fun x=>Hid (x.cell? ⟨G,k,none⟩=some (.int .u8 x0)∧x.cell? ⟨b3,o3+i,none⟩=some (.int .u8 yy))) (by kernel_rfl) ?_
    refine wtk (i:=0) (v:=?_) [12] rfl (by kernel_rfl) (by kernel_rfl) (by kernel_rfl) (by kernel_rfl) (fun _ _ _ h=>h) hS0 (Or.inl ⟨by rfl,?_⟩) ?_
    rotate_left
    ·intro x hSx
     clear hSx
     go_simp
     try with_reducible rfl
    simp only [Act.put,List.getElem_toArray,List.getElem_cons_zero,List.setIfInBounds_toArray,List.set_cons_succ,List.set_cons_zero]
    refine wtk (i:=1) (v:=?_) [12] rfl (by kernel_rfl) (by kernel_rfl) (by kernel_rfl) (by kernel_rfl) (fun _ _ _ h=>h) hS0 (Or.inl ⟨by rfl,?_⟩) ?_
    rotate_left
    ·intro x hSx
     clear hSx
     go_simp
     try with_reducible rfl
    simp only [Act.put,List.getElem_toArray,List.getElem_cons_zero,List.getElem_cons_succ,List.setIfInBounds_toArray,List.set_cons_succ,List.set_cons_zero]
    refine wtk (i:=2) (v:=?_) [12] rfl (by kernel_rfl) (by kernel_rfl) (by kernel_rfl) (by kernel_rfl) (fun _ _ _ h=>h) hS0 (Or.inl ⟨by rfl,?_⟩) ?_
    rotate_left
    ·intro x hSx
     clear hSx
     go_simp
     try with_reducible rfl
    simp only [Act.put,List.getElem_toArray,List.getElem_cons_zero,List.getElem_cons_succ,List.setIfInBounds_toArray,List.set_cons_succ,List.set_cons_zero]
    refine wtk (i:=3) (v:=?_) [12] rfl (by kernel_rfl) (by kernel_rfl) (by kernel_rfl) (by kernel_rfl) (fun _ _ _ h=>h) hS0 (Or.inl ⟨by rfl,?_⟩) ?_
    rotate_left
    ·intro x hSx
     clear hSx
     go_simp
     try with_reducible rfl
    simp only [Act.put,List.getElem_toArray,List.getElem_cons_zero,List.getElem_cons_succ,List.setIfInBounds_toArray,List.set_cons_succ,List.set_cons_zero]
    refine wtk (i:=4) (v:=?_) [12] rfl (by kernel_rfl) (by kernel_rfl) (by kernel_rfl) (by kernel_rfl) (fun _ _ _ h=>h) hS0 (Or.inl ⟨by rfl,?_⟩) ?_
    rotate_left
    ·intro x hSx
     clear hSx
     go_simp
     try with_reducible rfl
    simp only [Act.put,List.getElem_toArray,List.getElem_cons_zero,List.getElem_cons_succ,List.setIfInBounds_toArray,List.set_cons_succ,List.set_cons_zero]
    refine wtk (i:=5) (v:=?_) [12] rfl (by kernel_rfl) (by kernel_rfl) (by kernel_rfl) (by kernel_rfl) (fun _ _ _ h=>h) hS0 (Or.inl ⟨by rfl,?_⟩) ?_
    rotate_left
    ·intro x hSx
     have u0:=(uh hSx).1
     clear hSx
     go_simp
     try with_reducible rfl
    simp only [Act.put,List.getElem_toArray,List.getElem_cons_zero,List.getElem_cons_succ,List.setIfInBounds_toArray,List.set_cons_succ,List.set_cons_zero]
    refine wtk (i:=6) (v:=?_) [12] rfl (by kernel_rfl) (by kernel_rfl) (by kernel_rfl) (by kernel_rfl) (fun _ _ _ h=>h) hS0 (Or.inl ⟨by rfl,?_⟩) ?_
    rotate_left
    ·intro x hSx
     clear hSx
     go_simp
     try with_reducible rfl
    simp only [Act.put,List.getElem_toArray,List.getElem_cons_zero,List.getElem_cons_succ,List.setIfInBounds_toArray,List.set_cons_succ,List.set_cons_zero]
    refine wtk (i:=7) (v:=?_) [12] rfl (by kernel_rfl) (by kernel_rfl) (by kernel_rfl) (by kernel_rfl) (fun _ _ _ h=>h) hS0 (Or.inl ⟨by rfl,?_⟩) ?_
    rotate_left
    ·intro x hSx
     clear hSx
     go_simp
     try with_reducible rfl
    simp only [Act.put,List.getElem_toArray,List.getElem_cons_zero,List.getElem_cons_succ,List.setIfInBounds_toArray,List.set_cons_succ,List.set_cons_zero]
    refine wtk (i:=8) (v:=?_) [12] rfl (by kernel_rfl) (by kernel_rfl) (by kernel_rfl) (by kernel_rfl) (fun _ _ _ h=>h) hS0 (Or.inl ⟨by rfl,?_⟩) ?_
    rotate_left
    ·intro x hSx
     clear hSx
     go_simp
     try with_reducible rfl
    simp only [Act.put,List.getElem_toArray,List.getElem_cons_zero,List.getElem_cons_succ,List.setIfInBounds_toArray,List.set_cons_succ,List.set_cons_zero]
    refine wtk (i:=9) (v:=?_) [12] rfl (by kernel_rfl) (by kernel_rfl) (by kernel_rfl) (by kernel_rfl) (fun _ _ _ h=>h) hS0 (Or.inl ⟨by rfl,?_⟩) ?_
    rotate_left
    ·intro x hSx
     have u0:=(uh hSx).2
     clear hSx
     go_simp
     try with_reducible rfl
    simp only [Act.put,List.getElem_toArray,List.getElem_cons_zero,List.getElem_cons_succ,List.setIfInBounds_toArray,List.set_cons_succ,List.set_cons_zero]
    refine wtk (i:=10) (v:=?_) [12] rfl (by kernel_rfl) (by kernel_rfl) (by kernel_rfl) (by kernel_rfl) (fun _ _ _ h=>h) hS0 (Or.inl ⟨by rfl,?_⟩) ?_
    rotate_left
    ·intro x hSx
     clear hSx
     go_simp
     try with_reducible rfl
    simp only [Act.put,List.getElem_toArray,List.getElem_cons_zero,List.getElem_cons_succ,List.setIfInBounds_toArray,List.set_cons_succ,List.set_cons_zero]
    refine wtk (i:=11) (v:=?_) [12] rfl (by kernel_rfl) (by kernel_rfl) (by kernel_rfl) (by kernel_rfl) (fun _ _ _ h=>h) hS0 (Or.inl ⟨by rfl,?_⟩) ?_
    rotate_left
    ·intro x hSx
     clear hSx
     go_simp
     try with_reducible rfl
    simp only [Act.put,List.getElem_toArray,List.getElem_cons_zero,List.getElem_cons_succ,List.setIfInBounds_toArray,List.set_cons_succ,List.set_cons_zero]
    refine wto (j:=12) (by kernel_rfl) rfl (fun K hK=>?_)
    go_simp
    refine hK.out _ _ (fun hx=>absurd (hx.symm.trans (by kernel_rfl)) Bool.false_ne_true) ?_
    clear hK K
    refine wpTill_done (by kernel_rfl) ?_ _
    clear hS0 d1 d2 d3 fB hw8 hk1 hk2
    go_wp2_with fail
    go_roundw
    case rel=>exact ⟨i+1,by have:=uh HL;omega,by go_num,_,(uh hX2).on (gdw (World.grownBy.refl _ none) 1)⟩
    case measure=>simp [intOf];have:=uh HL;omega
   ·have hfin:Hid (∃l,Sn.Buf w wr G 918 cb l):=⟨_,uh hX⟩
    by_cases h1:i<len2
    ·have h1':(i:Int)<(len2:Int):=by omega
     by_cases h2:i<len3
     ·have h2':(i:Int)<(len3:Int):=by omega
      have h3':¬(i:Int)<5:=by omega
      clear hlt h1 h2 hX hi5
      go_wp2_with fail
      go_meet
      exact hfin
     ·have h2':¬(i:Int)<(len3:Int):=by omega
      clear hlt h1 h2 hX hi5
      go_wp2_with fail
      go_meet
      exact hfin
    ·have h1':¬(i:Int)<(len2:Int):=by omega
     clear hlt h1 hX hi5
     go_wp2_with fail
     go_meet
     exact hfin
 case rest =>
  clear hB0
  obtain ⟨l0,hX0⟩:=uh hcut
  have hX:=hide hX0
  clear hcut hX0
  go_upto_if 85 with fail
  go_cut [14] from 84 to 94 (fun v14 wx=>Hid (CutOf w wx G cb v14))
  case first =>
   by_cases hc0:0<a4
   ·obtain ⟨k,hk,hk9⟩:=within_nat (a:=a4) (n:=918) (by omega)
    have cw:Hid (Calls Tryz.prog 19 #[.int .i64 a4,.int .i64 918] wc fun e w'=>e=.returned (.int .i64 (k:Int))∧w'=wc):=by
     have h:=within11_any a4 918 wc (by omega) (by omega)
     rw [show a4 % 918=(k:Int) from hk] at h
     exact h
    have hk1:(918:Int) - (k:Int)=((918 - k:Nat):Int):=by omega
    obtain ⟨m,hm⟩:∃m,918 - k=m:=⟨_,rfl⟩
    rw [hm] at hk1
    have hm1:(m:Int)≤(cb:Int):=by have:=(uh hX).caps;omega
    have hm0:(0:Int)≤(m:Int):=by omega
    have hfin:Hid (CutOf w wc G cb (.slice (some ⟨G,0,none⟩) m cb)):=⟨m,_,by omega,by omega,rfl,(uh hX).cut (m:=m) (by omega)⟩
    clear hk hk9 hm hX
    go_wp2_with fail
    refine (uh cw).mono ?_
    rintro e wq ⟨rfl,hq'⟩
    obtain rfl:wc=wq:=hq'.symm
    clear cw hq'
    go_wp2_with fail
    go_meet
    exact hfin
   ·have hfin:Hid (CutOf w wc G cb (.slice (some ⟨G,0,none⟩) 918 cb)):=⟨918,_,by omega,by omega,rfl,uh hX⟩
    clear hX
    go_wp2_with fail
    go_meet
    exact hfin
  case rest =>
   obtain ⟨m,l,hm0,hm1,rfl,hB⟩:=uh hcut
   clear hcut hX
   rename_i wb
   have hSm:=hide ((uh HMs).grown hB.grown)
   rw [uh HMl] at hSm
   have hlm:lm.length≤500:=by have:=uh H5;have:=uh HMl;omega
   have Hm:=hide (And.intro hm0 (And.intro hm1 hlm))
   have hmore:=hide (fun z v' hown hg=>hB.more (z:=z) (v':=v') (lm:=lm) hown hg (uh HMb) hm0)
   have hBo:=hide hB.own
   have hBz:=hide hB.grown.size
   clear hB hm0 hm1 hlm
   go_wp2_with (at_builtin;refine wpList_append_wide rfl _ _ rfl w.heap.size _ m _ rfl (uh hBo) _ lm rfl (uh hSm) ?_ (uh hBz) ?_)
   ·have:=uh Hm;omega
   intro v1 wm hown hgrow _
   obtain ⟨G1,c1,rfl,hB1⟩:=uh hmore wm v1 hown hgrow
   clear hown hgrow hmore hBo hSm hBz
   obtain ⟨nb,hnb⟩:∃n,m+lm.length=n:=⟨_,rfl⟩
   obtain ⟨lw,hlw⟩:∃l',l ++ lm=l':=⟨_,rfl⟩
   rw [hnb,hlw] at hB1
   rw [hnb]
   have HN:Hid (0<nb∧nb≤1418):=(show 0<nb∧nb≤1418 by have:=uh Hm;omega)
   have hB2:=hide hB1
   clear hnb hlw hB1 Hm
   go_upto_region 15 with fail
   have hoz:Hid ((wm.alloc (.cells #[] 5)).ownsRow w.heap.size 5 1 (.slice (some ⟨wm.heap.size,0,none⟩) 0 0) 0 []):=World.ownsRow_lit (base:=w.heap.size) (e:=5) (size:=1) wm #[] 0 (uh hB2).grown.size (by unfold maxLen;omega) rfl
   have hsr:Hid (Ck.Src (wm.alloc (.cells #[] 5)) (.slice (some ⟨G1,0,none⟩) nb c1) lw):=((uh hB2).on (World.grownBy_alloc wm _ none)).src
   have hlen:=hide (uh hB2).len
   have hzs:Hid (w.heap.size≤(wm.alloc (.cells #[] 5)).heap.size):=Nat.le_trans (uh hB2).grown.size (World.grownBy_alloc wm _ none).size
   have hzb:lw.length≤140737488355328:=by have:=uh HN;have:=uh hlen;omega
   have hcp:=hide (fun z v' (h1:z.ownsRow w.heap.size 5 1 v' lw.length (Ck.bys lw)) (h2:(wm.alloc (.cells #[] 5)).grownBy z (some wm.heap.size))=>(uh hB2).copied (z:=z) (v':=v') (uh HN).1 h1 h2)
   go_wp2_with (at_builtin;refine wpList_append_wide rfl _ _ rfl w.heap.size _ 0 _ rfl (uh hoz) _ lw rfl (uh hsr) ?_ (uh hzs) ?_)
   ·omega
   intro v3 wn hown hgrow _
   obtain ⟨G2,c2,rfl,hC1,hC2⟩:=uh hcp wn v3 (by simpa using hown) (by simpa [Value.ownBlock] using hgrow)
   have hD1:=hide hC1
   have hD2:=hide hC2
   have cd:=hide hC1.reads
   clear hown hgrow hcp hoz hsr hzs hzb hC1 hC2 hB2
   go_wp2_with fail
   refine (uh cd).mono ?_
   rintro e x1 ⟨r,hr,hcase⟩
   have HR:=hide hr
   clear cd
   rcases hcase with ⟨hr0,rfl,hgr⟩ | ⟨rfl,h918,vx,rfl,jC,jE,jI,dC,dE,dI,hvx,hdE,-,-,-,-,-,-,hLx,hgr⟩
   ·have hD3:=hide ((uh hD2).on hgr)
    have hr1:(r == 0)=false:=by simp [hr0]
    clear hgr hD1 hD2 hr
    obtain ⟨W1,hW1⟩:∃W,W=x1.alloc (.cells #[.int .i64 0,.int .i64 0,.int .i64 0,.int .i64 0,.slice none 0 0,.slice none 0 0,.slice none 0 0,.int .i64 0,.int .i64 0,.int .i64 0,.int .i64 0] 31):=⟨_,rfl⟩
    have g1:x1.grownBy W1 none:=by rw [hW1];exact World.grownBy_alloc _ _ _
    have hP:Hid (Lie W1 x1.heap.size 31 11 Sn.voids):=by
     show Lie W1 _ _ _ _
     rw [hW1]
     exact Sn.voids_lie x1
    have hD4:=hide ((uh hD3).on g1)
    have cr:=hide (uh hD4).refReads
    clear g1 hD3
    unfold Sn.void at *
    go_upto_region 16 with fail
    rw [←hW1]
    clear hW1
    obtain ⟨P,hPe⟩:∃P,x1.heap.size=P:=⟨_,rfl⟩
    rw [hPe] at hP ⊢
    clear hPe x1
    go_wp2_with fail
    refine (uh cr).mono ?_
    rintro e x2 ⟨r',hr',hcase'⟩
    obtain rfl:r=r':=(uh HR).one hr'
    rcases hcase' with ⟨-,rfl,hgr⟩ | ⟨h0,-⟩
    case inr=>exact absurd h0 hr0
    clear cr
    obtain ⟨W2,hW2⟩:∃W,W=x2.alloc (.cells #[.int .i64 0,.int .i64 0,.int .i64 0,.int .i64 0,.slice none 0 0,.slice none 0 0,.slice none 0 0,.int .i64 0,.int .i64 0,.int .i64 0,.int .i64 0] 31):=⟨_,rfl⟩
    have g2:x2.grownBy W2 none:=by rw [hW2];exact World.grownBy_alloc _ _ _
    have hQ:Hid (Lie W2 x2.heap.size 31 11 Sn.voids):=by
     show Lie W2 _ _ _ _
     rw [hW2]
     exact Sn.voids_lie x2
    have hP2:=hide ((uh hP).on (gtr hgr g2))
    have hD5:=hide ((uh hD4).on (gtr hgr g2))
    have cs:=hide (same7_voids W2)
    unfold Sn.void at *
    clear hgr g2 hP hD4 hr' hr0
    go_upto_region 17 with fail
    rw [←hW2]
    clear hW2
    obtain ⟨Q,hQe⟩:∃P,x2.heap.size=P:=⟨_,rfl⟩
    rw [hQe] at hQ ⊢
    clear hQe x2
    obtain ⟨b0,b1,b2,b3,b4,b5,b6,b7,b8,b9,b10⟩:=Sn.voids_cells (uh hP2)
    obtain ⟨y0,y1,y2,y3,y4,y5,y6,y7,y8,y9,y10⟩:=Sn.voids_cells (uh hQ)
    go_wp2_with fail
    refine (uh cs).mono ?_
    rintro e x3 ⟨rfl,hg3⟩
    have hfin:=hide (none_below (gtr (uh hD5).grown hg3))
    clear cs hg3 b0 b1 b2 b3 b4 b5 b6 b7 b8 b9 b10 y0 y1 y2 y3 y4 y5 y6 y7 y8 y9 y10 hP2 hQ hD5
    go_wp2
    go_ret
    exact ⟨rfl,uh hfin⟩
   ·obtain rfl:vx=.agg (Gd.world (Sn.rs (Sn.fn lw)) jC jE jI dC dE dI (Sn.rg (Sn.fn lw))):=by simpa using hvx
    obtain rfl:nb=918:=by have:=uh hlen;omega
    have hby:Hid (∀i,0≤Sn.rc (Sn.fn lw) i∧Sn.rc (Sn.fn lw) i≤255):=fun i=>(uh hD2).world.byte _
    have hbb:=hide (uh hD2).byte
    have cw:=hide (fun (x:World) (g1 g2 g3 k1 k2 k3:Nat) (hL:Gd.Lists x g1 g2 g3 (Sn.rc (Sn.fn lw)) (Sn.rE (Sn.fn lw)) (Sn.rI (Sn.fn lw))) (hcE:32≤k2) (hg:w.grownBy x none)=>Sn.written_back (w:=w) (x:=x) (l:=lw) (gC:=g1) (gE:=g2) (gI:=g3) (cC:=k1) (cE:=k2) (cI:=k3) h918 (uh hbb) (uh HR) hL (uh hby) hcE hg)
    have cs:=hide (fun (x:World) (g1 g2 g3 k1 k2 k3 p1 p2 p3 q1 q2 q3:Nat) (hL:Gd.Lists x p1 p2 p3 (Sn.rc (Sn.fn lw)) (Sn.rE (Sn.fn lw)) (Sn.rI (Sn.fn lw))) (hL2:Gd.Lists x g1 g2 g3 (Sn.rc (Sn.fn lw)) (Sn.rE (Sn.fn lw)) (Sn.rI (Sn.fn lw)))=>same7_any (Sn.rs (Sn.fn lw)) (Sn.rg (Sn.fn lw)) (Sn.rc (Sn.fn lw)) (Sn.rE (Sn.fn lw)) (Sn.rI (Sn.fn lw)) p1 p2 p3 q1 q2 q3 g1 g2 g3 k1 k2 k3 x hL hL2)
    have hD3:=hide ((uh hD2).on hgr)
    have hL3:=hide hLx
    have HE:=hide hdE
    clear hvx hdE hLx hgr hD1 hD2 hr hby hlen
    obtain ⟨W1,hW1⟩:∃W,W=x1.alloc (.cells (Gd.world (Sn.rs (Sn.fn lw)) jC jE jI dC dE dI (Sn.rg (Sn.fn lw))) 31):=⟨_,rfl⟩
    have g1:x1.grownBy W1 none:=by rw [hW1];exact World.grownBy_alloc _ _ _
    have hP:Hid (Lie W1 x1.heap.size 31 11 (Gd.box (Sn.rs (Sn.fn lw)) jC jE jI dC dE dI (Sn.rg (Sn.fn lw)))):=by
     show Lie W1 _ _ _ _
     rw [hW1]
     exact (Arr.world (heap_alloc_new x1 _)).lie
    have hD4:=hide ((uh hD3).on g1)
    have hL4:=hide ((uh hL3).on g1)
    have cr:=hide (uh hD4).refReads
    clear g1 hD3 hL3
    unfold Gd.world at hW1 cw cs ⊢
    go_upto_region 16 with fail
    rw [←hW1]
    clear hW1
    obtain ⟨P,hPe⟩:∃P,x1.heap.size=P:=⟨_,rfl⟩
    rw [hPe] at hP ⊢
    clear hPe x1
    go_wp2_with fail
    refine (uh cr).mono ?_
    rintro e x2 ⟨r',hr',hcase'⟩
    obtain rfl:0=r':=(uh HR).one hr'
    rcases hcase' with ⟨h0,-⟩ | ⟨-,-,vy,rfl,iC,iE,iI,eC,eE,eI,hvy,heE,-,-,-,-,-,-,hLy,hgr⟩
    case inl=>exact absurd rfl h0
    obtain rfl:vy=.agg (Gd.world (Sn.rs (Sn.fn lw)) iC iE iI eC eE eI (Sn.rg (Sn.fn lw))):=by simpa using hvy
    clear cr hvy hr' heE
    obtain ⟨W2,hW2⟩:∃W,W=x2.alloc (.cells (Gd.world (Sn.rs (Sn.fn lw)) iC iE iI eC eE eI (Sn.rg (Sn.fn lw))) 31):=⟨_,rfl⟩
    have g2:x2.grownBy W2 none:=by rw [hW2];exact World.grownBy_alloc _ _ _
    have hQ:Hid (Lie W2 x2.heap.size 31 11 (Gd.box (Sn.rs (Sn.fn lw)) iC iE iI eC eE eI (Sn.rg (Sn.fn lw)))):=by
     show Lie W2 _ _ _ _
     rw [hW2]
     exact (Arr.world (heap_alloc_new x2 _)).lie
    have hP2:=hide ((uh hP).on (gtr hgr g2))
    have hD5:=hide ((uh hD4).on (gtr hgr g2))
    have hL5:=hide ((uh hL4).on (gtr hgr g2))
    have hM5:=hide (hLy.on g2)
    clear hgr g2 hP hD4 hL4 hLy
    unfold Gd.world at hW2 ⊢
    go_upto_region 17 with fail
    rw [←hW2]
    clear hW2
    obtain ⟨Q,hQe⟩:∃P,x2.heap.size=P:=⟨_,rfl⟩
    rw [hQe] at hQ ⊢
    clear hQe x2
    obtain ⟨b0,b1,b2,b3,b4,b5,b6,b7,b8,b9,b10⟩:=(uh hP2).eleven
    obtain ⟨y0,y1,y2,y3,y4,y5,y6,y7,y8,y9,y10⟩:=(uh hQ).eleven
    go_wp2_with fail
    refine (uh cs _ iC iE iI eC eE eI jC jE jI dC dE dI (uh hL5) (uh hM5)).mono ?_
    rintro e x3 ⟨rfl,hg3⟩
    have hP3:=hide ((uh hP2).on hg3)
    have hD6:=hide ((uh hD5).on hg3)
    have hL6:=hide ((uh hL5).on hg3)
    clear cs hg3 b0 b1 b2 b3 b4 b5 b6 b7 b8 b9 b10 y0 y1 y2 y3 y4 y5 y6 y7 y8 y9 y10 hP2 hQ hD5 hL5 hM5
    obtain ⟨b0,b1,b2,b3,b4,b5,b6,b7,b8,b9,b10⟩:=(uh hP3).eleven
    go_wp2_with fail
    refine (uh cw _ jC jE jI dC dE dI (uh hL6) (uh HE) (uh hD6).grown).mono ?_
    rintro e x4 ⟨g4,c4,rfl,hN4,hg4⟩
    have t1:=hN4.src.text
    have t2:=((uh hD6).on hg4).src.text
    have hfin:=hide (none_below hN4.grown)
    clear cw hN4 hg4 hP3 hD6 hL6 b0 b1 b2 b3 b4 b5 b6 b7 b8 b9 b10
    obtain ⟨X,hX⟩:∃X,strOfNums lw=X:=⟨_,rfl⟩
    rw [hX] at t1 t2
    clear hX
    go_wp2
    go_ret
    exact ⟨rfl,uh hfin⟩

set_option maxRecDepth 100000 in
theorem lifted (os:Os) (started:os.Started) (H:Type) (enc:TypeId × Value→H) :
  ReturnsInHanded {} Tryz.checked os 4 .any (Rows.snapBytesSpec.pre6 enc Tryz.prog Tryz.f4 Rows.snapBytesRow.domain false) (Rows.snapBytesSpec.post enc Tryz.prog Tryz.f4 false true false false):=by
 refine returnsInHanded_of_change (C:=Tryz.checked) own started (by kernel_rfl) Tryz.func4
  (ChangeSpec.witness6 (enc:=enc) (C:=Tryz.checked) false ⟨#[],#[.int .i64 0,.slice none 0 0,.slice none 0 0,.slice none 0 0,.int .i64 0,.slice none 0 0],[]⟩ 8 (by kernel_rfl) (by kernel_rfl) (by kernel_rfl) (by kernel_rfl)) ?_
 intro W base args ds gs before hval0 hW hcnd _
 have hval:∀(j:Nat) t v,Tryz.f4.params[j]?=some t→args[j]?=some v→Value.okWide Tryz.prog W .any base t v:=hval0
 have hW':=hW
 obtain ⟨p,q,hA0,hV,rfl,hfz,hnd⟩:=hW
 have hA:DataW.TrodAll enc Tryz.prog W 0 (fun _=>true) true Tryz.f4.params.toList args.toList ds p:=hA0
 rw [Tryz.params4] at hA hval
 obtain ⟨v0,vs0,d0,ds0,p0,q0,hargs,rfl,rfl,h0,r0⟩:=trodAll_cons hA
 obtain ⟨v1,vs1,d1,ds1,p1,q1,rfl,rfl,rfl,h1,r1⟩:=trodAll_cons r0
 obtain ⟨v2,vs2,d2,ds2,p2,q2,rfl,rfl,rfl,h2,r2⟩:=trodAll_cons r1
 obtain ⟨v3,vs3,d3,ds3,p3,q3,rfl,rfl,rfl,h3,r3⟩:=trodAll_cons r2
 obtain ⟨v4,vs4,d4,ds4,p4,q4,rfl,rfl,rfl,h4,r4⟩:=trodAll_cons r3
 obtain ⟨v5,vs5,d5,ds5,p5,q5,rfl,rfl,rfl,h5,r5⟩:=trodAll_cons r4
 obtain ⟨rfl,rfl,rfl⟩:=trodAll_nil r5
 obtain rfl:args=#[v0,v1,v2,v3,v4,v5]:=by cases args;simp_all
 obtain ⟨rfl,rfl⟩:=trodVars_none hV
 obtain ⟨a0,rfl,rfl,rfl,w0⟩:=open_int Tryz.underlying2 (hval 0 2 v0 rfl rfl) h0
 obtain ⟨a1,len1,cap1,rfl⟩:=okWide_slice Tryz.underlying22 (hval 1 22 v1 rfl rfl)
 have k1:=h1
 have lt1:∀x∈p1,x.block<W.heap.size:=by obtain ⟨m,hm⟩:=k1;exact DataW.trod_lt m _ _ _ hm
 obtain ⟨z1,w1⟩:∃z:(Nat→Option Addr × Nat × Nat) × (Nat→Nat→Int),Cr.Came W a1 len1 z.1 z.2:=by
  obtain ⟨fuel,hf⟩:=h1
  obtain ⟨V,z,h⟩:=open_rows (by simpa [Value.cells] using hf)
  exact ⟨(V,z),h⟩
 obtain ⟨a2,len2,cap2,rfl⟩:=okWide_slice Tryz.underlying47 (hval 2 47 v2 rfl rfl)
 have k2:=h2
 have lt2:∀x∈p2,x.block<W.heap.size:=by obtain ⟨m,hm⟩:=k2;exact DataW.trod_lt m _ _ _ hm
 obtain ⟨z2,w2⟩:∃zs,IsRow .i64 W a2 len2 cap2 zs:=by
  obtain ⟨fuel,hf⟩:=h2
  rcases open_ints Tryz.underlying47 Tryz.underlying3 (by kernel_rfl) hf with ⟨hcs,_⟩ | ⟨x,l,c,zs,hcs,_,hl,hm,hz,_,hcell,hwz⟩
  ·simp [Value.cells] at hcs
   obtain ⟨rfl,rfl,rfl⟩:=hcs
   exact ⟨[],.inl ⟨rfl,rfl,rfl,rfl⟩⟩
  ·simp [Value.cells] at hcs
   obtain ⟨rfl,rfl,rfl⟩:=hcs
   exact ⟨zs,.inr ⟨_,rfl,hl,hm,by simpa using hz,hcell,hwz⟩⟩
 obtain ⟨a3,len3,cap3,rfl⟩:=okWide_slice Tryz.underlying26 (hval 3 26 v3 rfl rfl)
 have k3:=h3
 have lt3:∀x∈p3,x.block<W.heap.size:=by obtain ⟨m,hm⟩:=k3;exact DataW.trod_lt m _ _ _ hm
 obtain ⟨z3,w3⟩:∃zs,IsRow .u8 W a3 len3 cap3 zs:=by
  obtain ⟨fuel,hf⟩:=h3
  rcases open_ints Tryz.underlying26 Tryz.underlying5 (by kernel_rfl) hf with ⟨hcs,_⟩ | ⟨x,l,c,zs,hcs,_,hl,hm,hz,_,hcell,hwz⟩
  ·simp [Value.cells] at hcs
   obtain ⟨rfl,rfl,rfl⟩:=hcs
   exact ⟨[],.inl ⟨rfl,rfl,rfl,rfl⟩⟩
  ·simp [Value.cells] at hcs
   obtain ⟨rfl,rfl,rfl⟩:=hcs
   exact ⟨zs,.inr ⟨_,rfl,hl,hm,by simpa using hz,hcell,hwz⟩⟩
 obtain ⟨a4,rfl,rfl,rfl,w4⟩:=open_int Tryz.underlying3 (hval 4 3 v4 rfl rfl) h4
 obtain ⟨a5,len5,cap5,rfl⟩:=okWide_slice Tryz.underlying26 (hval 5 26 v5 rfl rfl)
 have k5:=h5
 have lt5:∀x∈p5,x.block<W.heap.size:=by obtain ⟨m,hm⟩:=k5;exact DataW.trod_lt m _ _ _ hm
 obtain ⟨z5,w5⟩:∃zs,IsRow .u8 W a5 len5 cap5 zs:=by
  obtain ⟨fuel,hf⟩:=h5
  rcases open_ints Tryz.underlying26 Tryz.underlying5 (by kernel_rfl) hf with ⟨hcs,_⟩ | ⟨x,l,c,zs,hcs,_,hl,hm,hz,_,hcell,hwz⟩
  ·simp [Value.cells] at hcs
   obtain ⟨rfl,rfl,rfl⟩:=hcs
   exact ⟨[],.inl ⟨rfl,rfl,rfl,rfl⟩⟩
  ·simp [Value.cells] at hcs
   obtain ⟨rfl,rfl,rfl⟩:=hcs
   exact ⟨zs,.inr ⟨_,rfl,hl,hm,by simpa using hz,hcell,hwz⟩⟩
 clear hA0 hval0
 refine (walk a0 a1 len1 cap1 z1 a2 len2 cap2 z2 a3 len3 cap3 z3 a4 a5 len5 cap5 z5 W w0 w1 w2 w3 w4 w5).mono fun e W' ⟨he,bel⟩=>?_
 subst he
 exact ⟨_,rfl,_,_,_,[],_,[],hW',trodAll_mk1 (shut_bool Tryz.underlying4 _),(trodAll_cons_mk (shut_int Tryz.underlying2 w0) (trodAll_cons_mk (Below.trod laidOut (by kernel_rfl) (of_decide_eq_true (by kernel_rfl)) k1 bel lt1) (trodAll_cons_mk (Below.trod laidOut (by kernel_rfl) (of_decide_eq_true (by kernel_rfl)) k2 bel lt2) (trodAll_cons_mk (Below.trod laidOut (by kernel_rfl) (of_decide_eq_true (by kernel_rfl)) k3 bel lt3) (trodAll_cons_mk (shut_int Tryz.underlying3 w4) (trodAll_cons_mk (Below.trod laidOut (by kernel_rfl) (of_decide_eq_true (by kernel_rfl)) k5 bel lt5) trodAll_mk0)))))),rfl,bel.frame _,fun h=>by cases h⟩

theorem over:Rows.snapBytesRow.holds Tryz.pinned (OpenSpec.ofChange Rows.snapBytesSpec) :=
 OpenClaim.holds_of_wide 4 Tryz.f4 rfl rfl rfl rfl rfl rfl rfl ⟨rfl,rfl,rfl,rfl,rfl⟩ rfl rfl rfl rfl rfl (by kernel_rfl) Tryz.func4 (by kernel_rfl)
  (of_decide_eq_true (by kernel_rfl)) (by unfold Func.isWrapper;first | (rw [if_pos (by decide +kernel)];kernel_rfl) | (rw [if_neg (by decide +kernel)];exact ⟨rfl,rfl⟩))
  (fun os started H enc _=>lifted os started H enc)

theorem proved:Rows.SnapBytesSaid:=over
#print axioms proved

end Go.Proofs.YtepppmepilffcaaGreat.snapBytes
