/-
  A ring takes worlds back, frame by frame, as far as it keeps, to what they were; it keeps as many rows as changed, no more: for every seed, acts, size and numbers, at this commit; no condition.
-/
import Derived.ProofKit
import Derived.Test.YtkcooekhigmioaaGreatPart54
import Derived.ShutString
import Derived.ChangeOld
namespace Go.Proofs.YtkcooekhigmioaaGreat.snapRings
open Go.ChangeShapes Go.WideShapes Go.ChangeAt Go.RowKit
open Go.ChangeMaps (open_string shut_string)
set_option linter.unusedVariables false

theorem own:ownKnob Tryz.prog.godebug=none:=by kernel_rfl
theorem laidOut:laidOutB Tryz.prog=true:=by kernel_rfl

def IsRow (k:IntKind) (w:World) (a:Option Addr) (len cap:Nat) (zs:List Int):Prop :=
 (a=none∧len=0∧cap=0∧zs=[]) ∨
 ∃x,a=some x∧len≤cap∧cap≤maxLen∧zs.length=cap∧(∀i,i<zs.length→w.cell? (x.add i)=some (.int k (zs.getD i 0)))∧∀n∈zs,(Lit.int k n).wf=true

theorem IsRow.vec {k:IntKind} {w:World} {a:Option Addr} {len cap:Nat} {zs:List Int} (h:IsRow k w a len cap zs):Vec w.heap.size w a len (fun i=>.int k (zs[i]?.getD 0)):=by
 rcases h with ⟨rfl,rfl,rfl,rfl⟩ | ⟨x,rfl,hl,hm,hz,hcell,_⟩
 ·exact ⟨Nat.zero_le _,.inl rfl⟩
 ·refine ⟨Nat.le_trans hl hm,?_⟩
  by_cases h0:len=0
  ·exact .inl h0
  ·right
   obtain ⟨b,off,spot⟩:=x
   have hc0:=hcell 0 (by omega)
   have hspot:spot=none:=by simpa [Addr.add] using World.cell?_spot hc0
   subst hspot
   refine ⟨b,off,rfl,?_,fun i hi=>?_⟩
   ·have h:=Go.block_lt_of_cell hc0
    simpa [Addr.add] using h
   ·have h:=hcell i (by omega)
    by_cases hi0:i=0
    ·subst hi0
     simpa [Addr.add] using h
    ·simpa [Addr.add,hi0] using h

set_option maxRecDepth 8000 in
set_option maxHeartbeats 12800000 in

theorem walk (a0:Int) (a1:Option Addr) (len1 cap1:Nat) (z1:(Nat→Option Addr × Nat × Nat) × (Nat→Nat→Int)) (a2:Int) (a3:Option Addr) (len3 cap3:Nat) (z3:List Int) (w:World) (w0:(Lit.int .i64 a0).wf=true) (w1:Cr.Came w a1 len1 z1.1 z1.2) (w2:(Lit.int .i64 a2).wf=true) (w3:IsRow .i64 w a3 len3 cap3 z3) :
  Calls Tryz.prog 5 #[.int .i64 a0,.slice a1 len1 cap1,.int .i64 a2,.slice a3 len3 cap3] w fun e w'=>e=.returned (.bool true)∧Below w.heap.size w w':=by
 obtain ⟨V0,z⟩:=z1
 have hC:=hide w1
 have v3:=hide (IsRow.vec w3)
 have hl3:(len3:Int)≤9223372036854775807:=by have:=(uh v3).1;unfold maxLen at this;omega
 clear w0 w1 w2 w3
 go_enter Tryz.func5,Tryz.ntmps5
 go_wp2_with fail
 refine (known11_any _).mono ?_
 rintro e wk ⟨rfl,hgk⟩
 have hgk':=hide hgk
 have cw:=hide (within11_any a2 10 wk (by omega) (by omega))
 have m0:0≤a2 % 10:=Int.emod_nonneg _ (by omega)
 have m1:a2 % 10<10:=Int.emod_lt_of_pos _ (by omega)
 obtain ⟨n,hn⟩:∃n:Nat,1+a2 % 10=(n:Int):=⟨(1+a2 % 10).toNat,by omega⟩
 have HN:Hid (1≤n∧n≤10):=(show 1≤n∧n≤10 by omega)
 obtain ⟨mm,hmm⟩:∃mm,a2 % 10=mm:=⟨_,rfl⟩
 rw [hmm] at cw hn m0 m1
 clear hgk hmm
 go_wp2_with fail
 refine (uh cw).mono ?_
 rintro e wq ⟨rfl,hq'⟩
 obtain rfl:wk=wq:=hq'.symm
 have cN:=hide (newRing_any n wk (by have:=uh HN;unfold Sn.inB;simp;omega))
 have n10:(n:Int)≤10:=by have:=uh HN;omega
 clear cw
 go_wp2_with fail
 refine (uh cN).mono ?_
 rintro e x1 ⟨p,rfl,hR1,hg1⟩
 have HR1:=hide hR1
 have G1:=hide (gtr (uh hgk') hg1)
 have hB:=hide (uh hgk').size
 have hC1:=hide ((uh hC).on (uh G1))
 clear cN hR1 hg1 hC
 go_wp2_with fail
 refine (story_any a0 a1 len1 cap1 _ _ x1 (uh hC1)).mono ?_
 rintro e x2 ⟨vS,base,L,rfl,hbase,hL0,hL31,hBk,hg2⟩
 have G2:=hide (gtr (uh G1) hg2)
 have HR2:=hide ((uh HR1).on hg2)
 obtain ⟨nL,hnL⟩:∃nL,L.length=nL:=⟨_,rfl⟩
 obtain ⟨q,cS,rfl,hq,hcS,S0,g0,g1,g2,c0,c1,c2,hcell,hLs,-,hGood,-,-⟩:=hBk.at (k:=0) (by omega)
 rw [hnL] at hBk ⊢
 have HBk:=hide hBk
 have hc8:=hide hGood.sane.fit.cells
 have k0:x2.cell? ⟨q,0,none⟩=some (.int .i64 (S0.s 0)):=hcell 0 (by omega)
 have k1:x2.cell? ⟨q,1,none⟩=some (.int .i64 (S0.s 1)):=hcell 1 (by omega)
 have k2:x2.cell? ⟨q,2,none⟩=some (.int .i64 (S0.s 2)):=hcell 2 (by omega)
 have k3:x2.cell? ⟨q,3,none⟩=some (.int .i64 (S0.s 3)):=hcell 3 (by omega)
 have k4:x2.cell? ⟨q,4,none⟩=some (.slice (some ⟨g0,0,none⟩) 384 c0):=hcell 4 (by omega)
 have k5:x2.cell? ⟨q,5,none⟩=some (.slice (some ⟨g1,0,none⟩) 32 c1):=hcell 5 (by omega)
 have k6:x2.cell? ⟨q,6,none⟩=some (.slice (some ⟨g2,0,none⟩) 40 c2):=hcell 6 (by omega)
 have k7:x2.cell? ⟨q,7,none⟩=some (.int .i64 (S0.g 0)):=hcell 7 (by omega)
 have k8:x2.cell? ⟨q,8,none⟩=some (.int .i64 (S0.g 1)):=hcell 8 (by omega)
 have k9:x2.cell? ⟨q,9,none⟩=some (.int .i64 (S0.g 2)):=hcell 9 (by omega)
 have k10:x2.cell? ⟨q,10,none⟩=some (.int .i64 (S0.g 3)):=hcell 10 (by omega)
 have hL1:(0:Int)<(nL:Int):=by omega
 have HL:=hide (And.intro hL0 hL31)
 have HLs:=hide hLs
 have qlt:=hide (Go.block_lt_of_cell k0)
 clear hC1 HR1 G1 hbase hL0 hL31 hBk hg2 hcell hLs hGood hq hcS
 have HnL:=hide hnL
 clear hnL
 go_upto_region 9 with fail
 clear k0 k1 k2 k3 k4 k5 k6 k7 k8 k9 k10
 obtain ⟨h0,hh0⟩:∃h:Sn.Hd,h=⟨S0,g0,g1,g2,c0,c1,c2⟩:=⟨_,rfl⟩
 have hrow:=heap_alloc_new x2 (.cells (Gd.world S0.s g0 g1 g2 c0 c1 c2 S0.g) 31)
 have hx3':x2.alloc (.cells (Gd.world S0.s g0 g1 g2 c0 c1 c2 S0.g) 31)=x2.alloc (.cells #[.int .i64 (S0.s 0),.int .i64 (S0.s 1),.int .i64 (S0.s 2),.int .i64 (S0.s 3),.slice (some ⟨g0,0,none⟩) 384 c0,.slice (some ⟨g1,0,none⟩) 32 c1,.slice (some ⟨g2,0,none⟩) 40 c2,.int .i64 (S0.g 0),.int .i64 (S0.g 1),.int .i64 (S0.g 2),.int .i64 (S0.g 3)] 31):=rfl
 obtain ⟨x3,hx3⟩:∃x,x2.alloc (.cells (Gd.world S0.s g0 g1 g2 c0 c1 c2 S0.g) 31)=x:=⟨_,rfl⟩
 rw [←hx3',hx3]
 obtain ⟨Bp,hBp⟩:∃b,x2.heap.size=b:=⟨_,rfl⟩
 have gx3:x2.grownBy x3 none:=by rw [←hx3];exact World.grownBy_alloc _ _ _
 have hqB:Hid (q<Bp):=by rw [←hBp];exact uh qlt
 have hHigh:Hid (w.heap.size≤Bp∧wk.heap.size≤Bp):=by
  rw [←hBp]
  exact ⟨(uh G2).size,Nat.le_trans (uh HR2).low (Nat.le_of_lt (uh HR2).box.lt)⟩
 have H0:Hid (∃(Ls:List Nat) (Hs:List Sn.Hd),Sn.Core w x3 wk.heap.size p n base (.slice (some ⟨q,0,none⟩) nL cS) a0 L Ls Hs∧OwnsOff x3 Bp 31 11 (.slice (some ⟨Bp,0,none⟩) 1 1) Hs.length (Sn.hflat Hs)∧OwnsOff x3 Bp 3 1 (.slice none 0 0) Ls.length (Sn.cnts Ls)):=by
  refine ⟨[],[h0],⟨⟨_,[],(uh HR2).on gx3,rfl,rfl,fun j u l P Q e=>by simp at e,fun h q=>?_⟩,Nat.zero_le _,?_,gtr (uh G2) gx3,fun h q=>?_,uh hB⟩,OwnsOff.of ?_,⟨rfl,.inl ⟨rfl,rfl⟩⟩⟩
  ·simp at q
   subst q
   rw [hh0]
   exact (uh HLs).on gx3
  ·have hb:=(uh HBk).on gx3
   exact ⟨hb.own,hb.page⟩
  ·simp at q
   subst q
   rw [hh0]
   exact uh hc8
  ·rw [←hx3]
   have h:=World.ownsRow_lit (base:=Bp) (e:=31) (size:=11) x2 (Gd.world S0.s g0 g1 g2 c0 c1 c2 S0.g) 1 (by omega) (by unfold maxLen;omega) rfl
   rw [hBp] at h
   have e:Sn.hflat [h0]=(Gd.world S0.s g0 g1 g2 c0 c1 c2 S0.g).toList:=by
    rw [hh0]
    show Sn.Hd.cells _ ++ []=_
    rw [List.append_nil]
    rfl
   rw [e]
   exact h
 rw [hBp]
 clear hrow hx3' hx3 gx3 hh0 HLs HR2 hc8 qlt G2 HBk hBp
 go_wp2_with fail
 go_loopw [12,13,14,15,16,17,18,19,20,21,22,23] (fun v12 v13 v14 v15 _ _ _ _ _ _ _ _ wr=>∃i:Nat,i<nL∧v14=.int .i64 ((i:Int)+1)∧v15=.int .i64 (i:Int)∧Hid (∃(Ls:List Nat) (Hs:List Sn.Hd),Sn.Core w wr wk.heap.size p n base (.slice (some ⟨q,0,none⟩) nL cS) a0 L Ls Hs∧OwnsOff wr Bp 31 11 v12 Hs.length (Sn.hflat Hs)∧OwnsOff wr Bp 3 1 v13 Ls.length (Sn.cnts Ls))) (fun _ _ v14 _ _ _ _ _ _ _ _ _ _=>100 - (intOf v14).toNat)
 case atStart=>exact ⟨0,by omega,by first | rfl | simp,rfl,H0⟩
 case round =>
  clear H0
  obtain ⟨i,hi,rfl,rfl,hX⟩:=hrel
  obtain ⟨Ls,Hs,hK,hO2,hO3⟩:=uh hX
  obtain ⟨P,hP,hPm,hPL,hHl⟩:=hK.last
  obtain ⟨m,hm⟩:∃m,Ls.length=m:=⟨_,rfl⟩
  obtain ⟨g2,o2,cp2,rfl,hb2,hc2,hm2,hg2,-,-⟩:=hO2.at (by omega)
  obtain ⟨a13,c13,rfl,hn13,hm13⟩:=hO3.form
  obtain ⟨h1,hh1⟩:∃h,Hs.length=h:=⟨_,rfl⟩
  have h1m:(h1:Int) - 1=(m:Int):=by omega
  have HXX:=hide (And.intro hK (And.intro hO2 hO3))
  have HE:=hide (And.intro hm hh1)
  have m10:(m:Int)≤10:=by have:=hK.few;have:=uh HN;omega
  by_cases hlt:i+1<nL
  ·obtain ⟨i1,hi1⟩:∃k:Nat,i+1=k:=⟨_,rfl⟩
   have hi1I:(i:Int)+1=(i1:Int):=by omega
   have hlt1:(i1:Int)<(nL:Int):=by omega
   obtain ⟨q',cS',hqe,-,-,S1,e0,e1,e2,d0,d1,d2,hcell1,hLs1,-,hGood1,-,-⟩:=hK.book.at (k:=i1) (by have:=uh HnL;omega)
   obtain ⟨rfl,rfl⟩:q=q'∧cS=cS':=by
    simp only [Value.slice.injEq,Option.some.injEq,Addr.mk.injEq] at hqe
    exact ⟨hqe.1.1,hqe.2.2⟩
   have hpc:=Sn.held_at hO2 (k:=m) (P:=P) (by rw [←hm];exact hP)
   obtain ⟨Q,hQ⟩:∃Q:Sn.Hd,Q=⟨S1,e0,e1,e2,d0,d1,d2⟩:=⟨_,rfl⟩
   have hcq:∀j,j<11→wr.cell? ⟨q,i1*11+j,none⟩=some (Gd.box Q.W.s Q.gC Q.gE Q.gI Q.cC Q.cE Q.cI Q.W.g j):=fun j hj=>by rw [hQ];exact hcell1 j hj
   have HLQ:Hid (Gd.Lists wr Q.gC Q.gE Q.gI Q.W.c Q.W.E Q.W.I∧∀i,0≤Q.W.c i∧Q.W.c i≤255):=by rw [hQ];exact ⟨hLs1,hGood1.sane.fit.cells⟩
   have HPP:=hide (And.intro hP (And.intro hPm hPL))
   have HI:=hide (And.intro hlt hi1)
   have p0:wr.cell? ⟨g2,o2+m*11,none⟩=some (.int .i64 (P.W.s 0)):=hpc 0 (by omega)
   have p1:wr.cell? ⟨g2,o2+m*11+1,none⟩=some (.int .i64 (P.W.s 1)):=hpc 1 (by omega)
   have p2:wr.cell? ⟨g2,o2+m*11+2,none⟩=some (.int .i64 (P.W.s 2)):=hpc 2 (by omega)
   have p3:wr.cell? ⟨g2,o2+m*11+3,none⟩=some (.int .i64 (P.W.s 3)):=hpc 3 (by omega)
   have p4:wr.cell? ⟨g2,o2+m*11+4,none⟩=some (.slice (some ⟨P.gC,0,none⟩) 384 P.cC):=hpc 4 (by omega)
   have p5:wr.cell? ⟨g2,o2+m*11+5,none⟩=some (.slice (some ⟨P.gE,0,none⟩) 32 P.cE):=hpc 5 (by omega)
   have p6:wr.cell? ⟨g2,o2+m*11+6,none⟩=some (.slice (some ⟨P.gI,0,none⟩) 40 P.cI):=hpc 6 (by omega)
   have p7:wr.cell? ⟨g2,o2+m*11+7,none⟩=some (.int .i64 (P.W.g 0)):=hpc 7 (by omega)
   have p8:wr.cell? ⟨g2,o2+m*11+8,none⟩=some (.int .i64 (P.W.g 1)):=hpc 8 (by omega)
   have p9:wr.cell? ⟨g2,o2+m*11+9,none⟩=some (.int .i64 (P.W.g 2)):=hpc 9 (by omega)
   have p10:wr.cell? ⟨g2,o2+m*11+10,none⟩=some (.int .i64 (P.W.g 3)):=hpc 10 (by omega)
   have hgw:wr.grownBy (wr.alloc (.cells (Gd.world P.W.s P.gC P.gE P.gI P.cC P.cE P.cI P.W.g) 31)) none:=World.grownBy_alloc _ _ _
   have hql:q<wr.heap.size:=Go.block_lt_of_cell (hcq 0 (by omega))
   obtain ⟨X1,hX1⟩:∃x,wr.alloc (.cells #[.int .i64 (P.W.s 0),.int .i64 (P.W.s 1),.int .i64 (P.W.s 2),.int .i64 (P.W.s 3),.slice (some ⟨P.gC,0,none⟩) 384 P.cC,.slice (some ⟨P.gE,0,none⟩) 32 P.cE,.slice (some ⟨P.gI,0,none⟩) 40 P.cI,.int .i64 (P.W.g 0),.int .i64 (P.W.g 1),.int .i64 (P.W.g 2),.int .i64 (P.W.g 3)] 31)=x:=⟨_,rfl⟩
   have gX1:wr.grownBy X1 none:=by rw [←hX1];exact World.grownBy_alloc _ _ _
   have hcq1:∀j,j<11→X1.cell? ⟨q,i1*11+j,none⟩=some (Gd.box Q.W.s Q.gC Q.gE Q.gI Q.cC Q.cE Q.cI Q.W.g j):=fun j hj=>(gce gX1 q _ hql (by simp)).trans (hcq j hj)
   have r0:X1.cell? ⟨q,i1*11,none⟩=some (.int .i64 (Q.W.s 0)):=hcq1 0 (by omega)
   have r1:X1.cell? ⟨q,i1*11+1,none⟩=some (.int .i64 (Q.W.s 1)):=hcq1 1 (by omega)
   have r2:X1.cell? ⟨q,i1*11+2,none⟩=some (.int .i64 (Q.W.s 2)):=hcq1 2 (by omega)
   have r3:X1.cell? ⟨q,i1*11+3,none⟩=some (.int .i64 (Q.W.s 3)):=hcq1 3 (by omega)
   have r4:X1.cell? ⟨q,i1*11+4,none⟩=some (.slice (some ⟨Q.gC,0,none⟩) 384 Q.cC):=hcq1 4 (by omega)
   have r5:X1.cell? ⟨q,i1*11+5,none⟩=some (.slice (some ⟨Q.gE,0,none⟩) 32 Q.cE):=hcq1 5 (by omega)
   have r6:X1.cell? ⟨q,i1*11+6,none⟩=some (.slice (some ⟨Q.gI,0,none⟩) 40 Q.cI):=hcq1 6 (by omega)
   have r7:X1.cell? ⟨q,i1*11+7,none⟩=some (.int .i64 (Q.W.g 0)):=hcq1 7 (by omega)
   have r8:X1.cell? ⟨q,i1*11+8,none⟩=some (.int .i64 (Q.W.g 1)):=hcq1 8 (by omega)
   have r9:X1.cell? ⟨q,i1*11+9,none⟩=some (.int .i64 (Q.W.g 2)):=hcq1 9 (by omega)
   have r10:X1.cell? ⟨q,i1*11+10,none⟩=some (.int .i64 (Q.W.g 3)):=hcq1 10 (by omega)
   obtain ⟨X2,hX2⟩:∃x,X1.alloc (.cells #[.int .i64 (Q.W.s 0),.int .i64 (Q.W.s 1),.int .i64 (Q.W.s 2),.int .i64 (Q.W.s 3),.slice (some ⟨Q.gC,0,none⟩) 384 Q.cC,.slice (some ⟨Q.gE,0,none⟩) 32 Q.cE,.slice (some ⟨Q.gI,0,none⟩) 40 Q.cI,.int .i64 (Q.W.g 0),.int .i64 (Q.W.g 1),.int .i64 (Q.W.g 2),.int .i64 (Q.W.g 3)] 31)=x:=⟨_,rfl⟩
   obtain ⟨b16,hb16⟩:∃b,wr.heap.size=b:=⟨_,rfl⟩
   obtain ⟨b17,hb17⟩:∃b,X1.heap.size=b:=⟨_,rfl⟩
   have gX2:X1.grownBy X2 none:=by rw [←hX2];exact World.grownBy_alloc _ _ _
   have HB16:Hid (Lie X2 b16 31 11 (Gd.box P.W.s P.gC P.gE P.gI P.cC P.cE P.cI P.W.g)):=by
    have h:=(Arr.world (s:=P.W.s) (g:=P.W.g) (gC:=P.gC) (gE:=P.gE) (gI:=P.gI) (cC:=P.cC) (cE:=P.cE) (cI:=P.cI) (heap_alloc_new wr (.cells (Gd.world P.W.s P.gC P.gE P.gI P.cC P.cE P.cI P.W.g) 31))).lie
    have h2:Lie X1 b16 31 11 (Gd.box P.W.s P.gC P.gE P.gI P.cC P.cE P.cI P.W.g):=by rw [←hX1,←hb16];exact h
    exact h2.on gX2
   have HB17:Hid (Lie X2 b17 31 11 (Gd.box Q.W.s Q.gC Q.gE Q.gI Q.cC Q.cE Q.cI Q.W.g)):=by
    have h:=(Arr.world (s:=Q.W.s) (g:=Q.W.g) (gC:=Q.gC) (gE:=Q.gE) (gI:=Q.gI) (cC:=Q.cC) (cE:=Q.cE) (cI:=Q.cI) (heap_alloc_new X1 (.cells (Gd.world Q.W.s Q.gC Q.gE Q.gI Q.cC Q.cE Q.cI Q.W.g) 31))).lie
    rw [←hX2,←hb17]
    exact h
   have G12:=hide (gtr gX1 gX2)
   have i31:(i1:Int)≤100:=by have:=uh HnL;have:=uh HL;omega
   have i30:(i:Int)≤100:=by omega
   rw [hi1I,hh1,hm]
   clear hX hK hO2 hO3 hP hPm hPL hHl hm hh1 hqe hcell1 hLs1 hGood1 hpc hcq hcq1 hgw hql gX1 gX2 hb2 hc2 hm2 hg2 hn13 hm13 hi hlt hi1 hi1I hQ
   go_upto_region 17 with fail
   clear p0 p1 p2 p3 p4 p5 p6 p7 p8 p9 p10 r0 r1 r2 r3 r4 r5 r6 r7 r8 r9 r10 hX1 hX2 hb16 hb17
   obtain ⟨a0',a1',a2',a3',a4',a5',a6',a7',a8',a9',a10'⟩:=(uh HB16).eleven
   obtain ⟨b0',b1',b2',b3',b4',b5',b6',b7',b8',b9',b10'⟩:=(uh HB17).eleven
   have K2:=hide ((uh HXX).1.on (uh G12))
   have LQ2:=hide ((uh HLQ).1.on (uh G12))
   have LP2:=hide ((uh HPP).2.2.on (uh G12))
   have cP:=(uh K2).push (Nat.le_trans (uh hHigh).2 (by have h1:=(uh HXX).2.1.lt g2 rfl;have h2:=(uh G12).size;omega)) (uh HN).1 (by have:=(uh HN).2;omega) (uh HPP).1 (uh LQ2) (uh HLQ).2
   unfold Gd.world at cP
   have CP:=hide cP
   obtain ⟨lr,hlr⟩:∃lr,(Sn.rw P.W.s Q.W.s P.W.g Q.W.g P.W.c Q.W.c P.W.E Q.W.E P.W.I Q.W.I).length=lr:=⟨_,rfl⟩
   have hl74:lr≤74:=by rw [←hlr];exact Sn.rw_most _ _ _ _ _ _ _ _ _ _
   have lr74:(lr:Int)≤74:=by omega
   rw [hlr] at CP
   have HLR:=hide hlr
   clear cP hlr hl74
   go_wp2_with fail
   refine (uh CP).mono ?_
   rintro e Y ⟨rfl,hcase,ht,mB,FB,hBox,hpB⟩
   obtain ⟨-,-,-,rs4,rs5⟩:=(uh K2).rest hBox hpB ht
   have HC:=hide hcase
   have O2Y:=hide (rs4 (by decide) (by decide) ((uh HXX).2.1.on (uh G12)))
   have O3Y:=hide (rs4 (by decide) (by decide) ((uh HXX).2.2.on (uh G12)))
   obtain ⟨f0,f1,f2,f3,f4,f5,f6,f7,f8,f9,f10⟩:=(rs5 (uh HB16) (by decide) (by decide)).eleven
   have HB17Y:=rs5 (uh HB17) (by decide) (by decide)
   obtain ⟨l0,l1,l2,l3,l4,l5,l6,l7,l8,l9,l10⟩:=HB17Y.eleven
   have hLPY:Gd.Lists Y P.gC P.gE P.gI P.W.c P.W.E P.W.I:=⟨rs5 (uh LP2).cells (by decide) (by decide),rs5 (uh LP2).ents (by decide) (by decide),rs5 (uh LP2).items (by decide) (by decide)⟩
   have hLQY:Gd.Lists Y Q.gC Q.gE Q.gI Q.W.c Q.W.E Q.W.I:=⟨rs5 (uh LQ2).cells (by decide) (by decide),rs5 (uh LQ2).ents (by decide) (by decide),rs5 (uh LQ2).items (by decide) (by decide)⟩
   have cR:=refRows_any P.W.s Q.W.s P.W.g Q.W.g P.W.c Q.W.c P.W.E Q.W.E P.W.I Q.W.I P.gC P.gE P.gI P.cC P.cE P.cI Q.gC Q.gE Q.gI Q.cC Q.cE Q.cI Y hLPY hLQY ((uh HXX).1.byte P (uh HPP).2.1) (uh HLQ).2
   unfold Gd.world at cR
   have CR:=hide cR
   have HY17:=hide HB17Y
   clear a0' a1' a2' a3' a4' a5' a6' a7' a8' a9' a10' b0' b1' b2' b3' b4' b5' b6' b7' b8' b9' b10' hcase ht hBox hpB rs4 rs5 cR CP hLPY hLQY HB17Y
   go_wp2_with fail
   refine (uh CR).mono ?_
   rintro e Z ⟨vr,br,rfl,hbr,hor,hgZ⟩
   rw [uh HLR] at hor
   obtain ⟨ar,cr,rfl⟩:∃a c,vr=.slice a lr c:=by
    rcases hor.2 with ⟨e,h0⟩ | ⟨g,cap,cur,e,_⟩
    ·exact ⟨none,0,by rw [e,h0]⟩
    ·exact ⟨_,cap,e⟩
   obtain ⟨t0,t1,t2,t3,t4,t5,t6,t7,t8,t9,t10⟩:=((uh HY17).on hgZ).eleven
   have O2Z:=(uh O2Y).on hgZ
   have O3Z:=(uh O3Y).on hgZ
   obtain ⟨Z1,hZ1⟩:∃x,Z.alloc (.cells #[.int .i64 (Q.W.s 0),.int .i64 (Q.W.s 1),.int .i64 (Q.W.s 2),.int .i64 (Q.W.s 3),.slice (some ⟨Q.gC,0,none⟩) 384 Q.cC,.slice (some ⟨Q.gE,0,none⟩) 32 Q.cE,.slice (some ⟨Q.gI,0,none⟩) 40 Q.cI,.int .i64 (Q.W.g 0),.int .i64 (Q.W.g 1),.int .i64 (Q.W.g 2),.int .i64 (Q.W.g 3)] 31)=x:=⟨_,rfl⟩
   obtain ⟨gz,hgz⟩:∃b,Z.heap.size=b:=⟨_,rfl⟩
   have gZ1:Z.grownBy Z1 none:=by rw [←hZ1];exact World.grownBy_alloc _ _ _
   have hrowZ:Z1.heap[gz]?=some (.cells (Gd.world Q.W.s Q.gC Q.gE Q.gI Q.cC Q.cE Q.cI Q.W.g) 31 (0,0)):=by
    rw [←hZ1,←hgz]
    exact heap_alloc_new Z (.cells (Gd.world Q.W.s Q.gC Q.gE Q.gI Q.cC Q.cE Q.cI Q.W.g) 31)
   have hnews:Hid (∀j u,Q.cells[j]?=some u→Z1.cell? ((⟨gz,0,none⟩:Addr).add j)=some u):=fun j u hj=>by
    rw [Go.WideShapes.add_plain,Nat.zero_add,cell_of_row Z1 gz j _ _ _ hrowZ]
    unfold Sn.Hd.cells at hj
    rw [Array.getElem?_toList] at hj
    exact hj
   have hone:Hid (∀u∈Q.cells,u.oneCell'=true):=fun u hu=>by
    unfold Sn.Hd.cells Gd.world at hu
    simp only [List.mem_cons,List.not_mem_nil,or_false] at hu
    rcases hu with rfl | rfl | rfl | rfl | rfl | rfl | rfl | rfl | rfl | rfl | rfl <;> rfl
   have O2Z1:Hid (OwnsOff Z1 Bp 31 11 (.slice (some ⟨g2,o2,none⟩) h1 cp2) h1 (Sn.hflat Hs)):=by
    have h:=O2Z.on gZ1
    rw [(uh HE).2] at h
    exact h
   have O3Z1:Hid (OwnsOff Z1 Bp 3 1 (.slice a13 m c13) m (Sn.cnts Ls)):=by
    have h:=O3Z.on gZ1
    rw [(uh HE).1] at h
    exact h
   have HC1:Hid ((m<n∧Sn.Core w Z1 wk.heap.size p n base (.slice (some ⟨q,0,none⟩) nL cS) a0 L (Ls ++ [lr]) (Hs ++ [Q]))∨(m=n∧Sn.Core w Z1 wk.heap.size p n base (.slice (some ⟨q,0,none⟩) nL cS) a0 L ((Ls ++ [lr]).drop 1) ((Hs ++ [Q]).drop 1))):=by
    have h:=uh HC
    rw [(uh HE).1] at h
    exact h.imp (fun h=>⟨h.1,(h.2.on hgZ).on gZ1⟩) (fun h=>⟨h.1,(h.2.on hgZ).on gZ1⟩)
   have hbz:Hid (Bp≤Z1.heap.size):=Nat.le_of_lt (Nat.lt_of_le_of_lt ((uh O2Z1).lt g2 rfl).1 ((uh O2Z1).lt g2 rfl).2.1)
   have h1n:h1≤12:=by have:=uh HE;omega
   obtain ⟨iW,hiW,zW0,zW1,zW2⟩:=info_parts info_world
   obtain ⟨iI,hiI,zI0,zI1,zI2⟩:=info_parts info_int
   clear f0 f1 f2 f3 f4 f5 f6 f7 f8 f9 f10 l0 l1 l2 l3 l4 l5 l6 l7 l8 l9 l10 O2Z O3Z O2Y O3Y HC HY17 hor hbr hgZ gZ1 hrowZ CR K2 LQ2 LP2 HB16 HB17
   go_wp2_with (at_builtin;refine wpList_append_off rfl _ _ 24 rfl Bp 31 iW _ 11 136 Tryz.underlying24 hiW zW0 zW1 zW2 rfl (by decide) _ h1 (Sn.hflat Hs) rfl (uh O2Z1) ⟨gz,0,none⟩ 1 1 Q.cells rfl rfl (uh hnews) (uh hone) (by unfold maxLen;omega) (by omega) (uh hbz) ?_)
   intro v12' Z2 hO2' hg2'
   have HC2:Hid ((m<n∧Sn.Core w Z2 wk.heap.size p n base (.slice (some ⟨q,0,none⟩) nL cS) a0 L (Ls ++ [lr]) (Hs ++ [Q]))∨(m=n∧Sn.Core w Z2 wk.heap.size p n base (.slice (some ⟨q,0,none⟩) nL cS) a0 L ((Ls ++ [lr]).drop 1) ((Hs ++ [Q]).drop 1))) :=
    (uh HC1).imp (fun h=>⟨h.1,h.2.grow (uh O2Z1) (.inl rfl) (uh hHigh).1 (fun k e=>by cases e;exact uh hqB) hg2'⟩) (fun h=>⟨h.1,h.2.grow (uh O2Z1) (.inl rfl) (uh hHigh).1 (fun k e=>by cases e;exact uh hqB) hg2'⟩)
   have O3Z2:=(uh O2Z1).other (uh O3Z1) (by decide) hg2'
   obtain ⟨g12,o12,c12,rfl,-,hc12,hm12,-,-,-⟩:=hO2'.at (by omega)
   rw [←Sn.hflat_snoc] at hO2'
   obtain ⟨Z3,hZ3⟩:∃x,Z2.alloc (.cells #[.int .i64 (lr:Int)] 3)=x:=⟨_,rfl⟩
   obtain ⟨gz3,hgz3⟩:∃b,Z2.heap.size=b:=⟨_,rfl⟩
   have gZ3:Z2.grownBy Z3 none:=by rw [←hZ3];exact World.grownBy_alloc _ _ _
   have hnews3:Hid (∀j u,[Value.int .i64 (lr:Int)][j]?=some u→Z3.cell? ((⟨gz3,0,none⟩:Addr).add j)=some u):=by
    rw [←hZ3,←hgz3]
    exact Sn.news1 Z2 _ _
   have hone3:Hid (∀u∈[Value.int .i64 (lr:Int)],u.oneCell'=true):=fun u hu=>by
    simp only [List.mem_cons,List.not_mem_nil,or_false] at hu
    rw [hu]
    rfl
   have O3Z3:=hide (O3Z2.on gZ3)
   have O2Z3:=hide (hO2'.on gZ3)
   have HC3:Hid ((m<n∧Sn.Core w Z3 wk.heap.size p n base (.slice (some ⟨q,0,none⟩) nL cS) a0 L (Ls ++ [lr]) (Hs ++ [Q]))∨(m=n∧Sn.Core w Z3 wk.heap.size p n base (.slice (some ⟨q,0,none⟩) nL cS) a0 L ((Ls ++ [lr]).drop 1) ((Hs ++ [Q]).drop 1))) :=
    (uh HC2).imp (fun h=>⟨h.1,h.2.on gZ3⟩) (fun h=>⟨h.1,h.2.on gZ3⟩)
   have hbz3:Hid (Bp≤Z3.heap.size):=Nat.le_of_lt (Nat.lt_of_le_of_lt ((uh O2Z3).lt g12 rfl).1 ((uh O2Z3).lt g12 rfl).2.1)
   have mn:m≤10:=by omega
   clear HC1 HC2 O2Z1 O3Z1 O3Z2 hO2' hg2' hnews hone hbz gZ3 t0 t1 t2 t3 t4 t5 t6 t7 t8 t9 t10 hZ1 hgz
   go_wp2_with (at_builtin;refine wpList_append_off rfl _ _ 47 rfl Bp 3 iI (.int .i64 0) 1 8 Tryz.underlying47 hiI zI0 zI1 zI2 rfl (by decide) _ m (Sn.cnts Ls) rfl (uh O3Z3) ⟨gz3,0,none⟩ 1 1 [.int .i64 (lr:Int)] rfl rfl (uh hnews3) (uh hone3) (by unfold maxLen;omega) (by omega) (uh hbz3) ?_)
   intro v13' Z4 hO3' hg4'
   have HC4:Hid ((m<n∧Sn.Core w Z4 wk.heap.size p n base (.slice (some ⟨q,0,none⟩) nL cS) a0 L (Ls ++ [lr]) (Hs ++ [Q]))∨(m=n∧Sn.Core w Z4 wk.heap.size p n base (.slice (some ⟨q,0,none⟩) nL cS) a0 L ((Ls ++ [lr]).drop 1) ((Hs ++ [Q]).drop 1))) :=
    (uh HC3).imp (fun h=>⟨h.1,h.2.grow (uh O3Z3) (.inr rfl) (uh hHigh).1 (fun k e=>by cases e;exact uh hqB) hg4'⟩) (fun h=>⟨h.1,h.2.grow (uh O3Z3) (.inr rfl) (uh hHigh).1 (fun k e=>by cases e;exact uh hqB) hg4'⟩)
   have O2Z4:=hide ((uh O3Z3).other (uh O2Z3) (by decide) hg4')
   obtain ⟨g13,o13,c13',rfl,-,hc13,hm13,-,-,-⟩:=hO3'.at (by omega)
   have eC:Sn.cnts Ls ++ [Value.int .i64 (lr:Int)]=Sn.cnts (Ls ++ [lr]):=by unfold Sn.cnts;rw [List.map_append];rfl
   rw [eC] at hO3'
   have O3Z4:=hide hO3'
   have c12n:¬c12=1:=by omega
   clear HC3 O2Z3 O3Z3 hO3' hg4' hnews3 hone3 hbz3 hZ3 hgz3 eC
   go_upto_if 90 with fail
   go_cut [12,13] from 90 to 94 (fun va vb wx=>Hid (∃(Ls:List Nat) (Hs:List Sn.Hd),Sn.Core w wx wk.heap.size p n base (.slice (some ⟨q,0,none⟩) nL cS) a0 L Ls Hs∧OwnsOff wx Bp 31 11 va Hs.length (Sn.hflat Hs)∧OwnsOff wx Bp 3 1 vb Ls.length (Sn.cnts Ls)))
   case first =>
    rcases uh HC4 with ⟨hmn,hK4⟩ | ⟨hmn,hK4⟩
    ·have hS:Hid (∃(Ls:List Nat) (Hs:List Sn.Hd),Sn.Core w Z4 wk.heap.size p n base (.slice (some ⟨q,0,none⟩) nL cS) a0 L Ls Hs∧OwnsOff Z4 Bp 31 11 (.slice (some ⟨g12,o12,none⟩) (h1+1) c12) Hs.length (Sn.hflat Hs)∧OwnsOff Z4 Bp 3 1 (.slice (some ⟨g13,o13,none⟩) (m+1) c13') Ls.length (Sn.cnts Ls)):=⟨_,_,hK4,by rw [List.length_append,(uh HE).2];exact uh O2Z4,by rw [List.length_append,(uh HE).1];exact uh O3Z4⟩
     have hmn':¬(n:Int)<(m:Int)+1:=by omega
     clear hK4 HC4 O2Z4 O3Z4
     go_wp2_with fail
     go_meet
     exact hS
    ·have c13n:¬c13'=1:=by have:=uh HN;omega
     have hS:Hid (∃(Ls:List Nat) (Hs:List Sn.Hd),Sn.Core w Z4 wk.heap.size p n base (.slice (some ⟨q,0,none⟩) nL cS) a0 L Ls Hs∧OwnsOff Z4 Bp 31 11 (.slice (some ⟨g12,o12+11,none⟩) h1 (c12 - 1)) Hs.length (Sn.hflat Hs)∧OwnsOff Z4 Bp 3 1 (.slice (some ⟨g13,o13+1,none⟩) m (c13' - 1)) Ls.length (Sn.cnts Ls)):=by
      refine ⟨_,_,hK4,?_,?_⟩
      ·have h:=(uh O2Z4).tail (by omega)
       have eH:((Hs ++ [Q]).drop 1).length=h1:=by rw [List.length_drop,List.length_append,(uh HE).2];simp
       rw [eH,←Sn.hflat_tail]
       exact h
      ·have h:=(uh O3Z4).tail (by omega)
       have eL:((Ls ++ [lr]).drop 1).length=m:=by rw [List.length_drop,List.length_append,(uh HE).1];simp
       have eC2:Sn.cnts ((Ls ++ [lr]).drop 1)=(Sn.cnts (Ls ++ [lr])).drop 1:=by unfold Sn.cnts;rw [List.map_drop]
       rw [eL,eC2]
       exact h
     have hmn':(n:Int)<(m:Int)+1:=by omega
     clear hmn
     have hl12:(1:Int)≤(h1:Int)+1:=by omega
     have hl13:(1:Int)≤(m:Int)+1:=by omega
     clear hK4 HC4 O2Z4 O3Z4
     go_wp2_with fail
     go_meet
     exact hS
   case rest =>
    obtain ⟨W,hW⟩:∃W,wc=W:=⟨_,rfl⟩
    rw [hW] at hcut ⊢
    clear hW wc HC4 O2Z4 O3Z4 hc12 hm12 hc13 hm13 c12n HXX HE h1m HLQ HPP
    obtain ⟨Ms,Ks,hK,hO2,hO3⟩:=uh hcut
    clear hcut
    obtain ⟨P5,hP5,hPm5,hPL5,hHl5⟩:=hK.last
    obtain ⟨k5,hk5⟩:∃m,Ms.length=m:=⟨_,rfl⟩
    obtain ⟨g5,o5,cp5,rfl,-,hc5,hm5,hgl5,-,-⟩:=hO2.at (by omega)
    obtain ⟨a14,c14,rfl,hn14,hm14⟩:=hO3.form
    obtain ⟨h5,hh5⟩:∃h,Ks.length=h:=⟨_,rfl⟩
    have h5m:(h5:Int) - 1=(k5:Int):=by omega
    have k510:(k5:Int)≤10:=by have:=hK.few;have:=uh HN;omega
    have hrow:Hid (∀k,k<k5→∃g o l,a14=some ⟨g,o,none⟩∧W.cell? ⟨g,o+k,none⟩=some (.int .i64 ((l:Nat):Int))∧l≤74∧(Ms[k]?).getD 0=l):=fun k hk=>by
     obtain ⟨g,o,cap,e,_,_,_,_,hc,_⟩:=hO3.at (by omega)
     simp only [Value.slice.injEq] at e
     have e1:Ms[k]?=some (Ms[k]'(by omega)):=List.getElem?_eq_getElem (by omega)
     refine ⟨g,o,_,e.1,hc k _ (by unfold Sn.cnts;rw [List.getElem?_map,e1];rfl),hK.small k _ e1,by rw [e1];rfl⟩
    have cLen:=hK.len
    rw [hk5] at cLen
    have CL:=hide cLen
    have cSt:=hK.stored (by have:=uh HN;omega)
    rw [hk5] at cSt
    have CS:=hide cSt
    have HKK:=hide (And.intro hK (And.intro hO2 hO3))
    have HE5:=hide (And.intro hk5 hh5)
    have HP5:=hide (And.intro hP5 (And.intro hPm5 hPL5))
    rw [hh5,hk5]
    have hsm:Hid (∀k,k≤k5→Sn.sum (fun k=>(Ms[k]?).getD 0) k≤740):=fun k hk=>by
     have h:=Sn.sum_le (f:=fun k=>(Ms[k]?).getD 0) (b:=74) (k:=k) (fun i hi=>by obtain ⟨_,_,l,_,_,h2,h3⟩:=uh hrow i (by omega);rw [h3];exact h2)
     omega
    clear hK hO2 hO3 hP5 hPm5 hPL5 hHl5 hk5 hh5 hc5 hm5 hgl5 hn14 hm14 cLen cSt
    go_wp2_with fail
    go_loopw [19,20] (fun v19 v20 wx=>∃k:Nat,k≤k5∧v20=.int .i64 (k:Int)∧v19=.int .i64 (Sn.sum (fun k=>(Ms[k]?).getD 0) k:Int)∧wx=W) (fun _ v20 _=>k5 - (intOf v20).toNat)
    case atStart=>exact ⟨0,Nat.zero_le _,rfl,rfl,rfl⟩
    case round =>
     obtain ⟨k,hk,rfl,rfl,hw⟩:=hrel
     obtain rfl:W=wr:=hw.symm
     by_cases hltk:k<k5
     ·have hltk':(k:Int)<(k5:Int):=by omega
      obtain ⟨g,o,l,rfl,hcl,hl74,hge⟩:=uh hrow k hltk
      have hs1:=uh hsm k hk
      have hs3:Sn.sum (fun k=>(Ms[k]?).getD 0) (k+1)=Sn.sum (fun k=>(Ms[k]?).getD 0) k+l:=by
       show Sn.sum _ k+(Ms[k]?).getD 0=_
       rw [hge]
      obtain ⟨SS,hSS⟩:∃S,Sn.sum (fun k=>(Ms[k]?).getD 0) k=S:=⟨_,rfl⟩
      rw [hSS] at hs1 hs3 ⊢
      have s4:(SS:Int)≤740:=by omega
      have s5:(l:Int)≤74:=by omega
      have HS3:=hide hs3
      have HKl:=hide hltk
      clear hs1 hs3 hge hSS hl74 hk hltk hw
      go_wp2_with fail
      go_roundw
      case rel=>exact ⟨k+1,by have:=uh HKl;omega,by go_num,by rw [uh HS3];go_num,by first | rfl | trivial⟩
      case measure=>simp [intOf];have:=uh HKl;omega
     ·have hgek:¬(k:Int)<(k5:Int):=by omega
      obtain rfl:k5=k:=by omega
      obtain ⟨SS,hSS⟩:∃S,Sn.sum (fun k=>(Ms[k]?).getD 0) k5=S:=⟨_,rfl⟩
      rw [hSS] at CS ⊢
      clear hltk hk hw hSS hsm hrow
      go_wp2_with fail
      refine (uh CL).mono ?_
      rintro e wq ⟨rfl,hq5⟩
      obtain rfl:W=wq:=hq5.symm
      go_wp2_with fail
      refine (uh CS).mono ?_
      rintro e wq ⟨rfl,hq6⟩
      obtain rfl:W=wq:=hq6.symm
      clear CS
      have hEnd:Hid (∀Y,W.grownBy Y none→∃(Ls:List Nat) (Hs:List Sn.Hd),Sn.Core w Y wk.heap.size p n base (.slice (some ⟨q,0,none⟩) nL cS) a0 L Ls Hs∧OwnsOff Y Bp 31 11 (.slice (some ⟨g5,o5,none⟩) h5 cp5) Hs.length (Sn.hflat Hs)∧OwnsOff Y Bp 3 1 (.slice a14 k5 c14) Ls.length (Sn.cnts Ls)):=fun Y hY=>by
       obtain ⟨z1,z2,z3⟩:=uh HKK
       have z4:=z2.on hY
       have z5:=z3.on hY
       rw [(uh HE5).2] at z4
       rw [(uh HE5).1] at z5
       exact ⟨Ms,Ks,z1.on hY,by rw [(uh HE5).2];exact z4,by rw [(uh HE5).1];exact z5⟩
      by_cases hbk:i<len3∧0<z3[i]?.getD 0
      ·have hb1:(i:Int)<(len3:Int):=by omega
       obtain ⟨bb,ob,rfl,hbb,hcb⟩:∃b off,a3=some ⟨b,off,none⟩∧b<w.heap.size∧∀i,i<len3→w.cell? ⟨b,off+i,none⟩=some (.int .i64 (z3[i]?.getD 0)):=by
        obtain ⟨_,h0 | h⟩:=uh v3
        ·omega
        ·exact h
       have y0:W.cell? ⟨bb,ob+i,none⟩=some (.int .i64 (z3[i]?.getD 0)):=(gce (uh HKK).1.grown bb _ hbb (by simp)).trans (hcb i hbk.1)
       obtain ⟨yy,hyy⟩:∃y,z3[i]?.getD 0=y:=⟨_,rfl⟩
       have hyp:0<yy:=by rw [←hyy];exact hbk.2
       rw [hyy] at y0
       have cw:=hide (within11_any yy ((n:Int)+2) W (by omega) (by omega))
       obtain ⟨b,hb⟩:∃b:Nat,yy % ((n:Int)+2)=(b:Int):=⟨(yy % ((n:Int)+2)).toNat,by have:=Int.emod_nonneg yy (b:=(n:Int)+2) (by omega);omega⟩
       have hb12:(b:Int)<(n:Int)+2:=by rw [←hb];exact Int.emod_lt_of_pos _ (by omega)
       rw [hb] at cw
       have hpc:=Sn.held_at (uh HKK).2.1 (k:=k5) (P:=P5) (by rw [←(uh HE5).1];exact (uh HP5).1)
       have p0:W.cell? ⟨g5,o5+k5*11,none⟩=some (.int .i64 (P5.W.s 0)):=hpc 0 (by omega)
       have p1:W.cell? ⟨g5,o5+k5*11+1,none⟩=some (.int .i64 (P5.W.s 1)):=hpc 1 (by omega)
       have p2:W.cell? ⟨g5,o5+k5*11+2,none⟩=some (.int .i64 (P5.W.s 2)):=hpc 2 (by omega)
       have p3:W.cell? ⟨g5,o5+k5*11+3,none⟩=some (.int .i64 (P5.W.s 3)):=hpc 3 (by omega)
       have p4:W.cell? ⟨g5,o5+k5*11+4,none⟩=some (.slice (some ⟨P5.gC,0,none⟩) 384 P5.cC):=hpc 4 (by omega)
       have p5:W.cell? ⟨g5,o5+k5*11+5,none⟩=some (.slice (some ⟨P5.gE,0,none⟩) 32 P5.cE):=hpc 5 (by omega)
       have p6:W.cell? ⟨g5,o5+k5*11+6,none⟩=some (.slice (some ⟨P5.gI,0,none⟩) 40 P5.cI):=hpc 6 (by omega)
       have p7:W.cell? ⟨g5,o5+k5*11+7,none⟩=some (.int .i64 (P5.W.g 0)):=hpc 7 (by omega)
       have p8:W.cell? ⟨g5,o5+k5*11+8,none⟩=some (.int .i64 (P5.W.g 1)):=hpc 8 (by omega)
       have p9:W.cell? ⟨g5,o5+k5*11+9,none⟩=some (.int .i64 (P5.W.g 2)):=hpc 9 (by omega)
       have p10:W.cell? ⟨g5,o5+k5*11+10,none⟩=some (.int .i64 (P5.W.g 3)):=hpc 10 (by omega)
       clear hcb hbb hyy hb hpc hbk
       by_cases hbm:b≤k5
       ·obtain ⟨kt,hkt⟩:∃kt,k5 - b=kt:=⟨_,rfl⟩
        have hktI:(k5:Int) - (b:Int)=(kt:Int):=by omega
        obtain ⟨T,hT⟩:∃T,Ks[kt]?=some T:=⟨_,List.getElem?_eq_getElem (by have:=uh HE5;have:=(uh HKK).1.last;obtain ⟨_,_,_,_,h⟩:=this;omega)⟩
        have cB:=(uh HKK).1.back (by have:=(uh HN).2;omega) (uh HP5).1 (b:=b) (T:=T) (by rw [(uh HE5).1];exact hbm) (by rw [(uh HE5).1,hkt];exact hT)
        rw [(uh HE5).1,hkt] at cB
        unfold Gd.world at cB
        have CB:=hide cB
        have HT:=hide hT
        have HKT:Hid (kt≤k5∧b≤k5):=(show kt≤k5∧b≤k5 by omega)
        have hbI:¬(k5:Int)<(b:Int):=by omega
        clear cB hT hkt hbm
        go_wp2_with fail
        refine (uh cw).mono ?_
        rintro e wq ⟨rfl,hq7⟩
        obtain rfl:W=wq:=hq7.symm
        clear cw
        go_wp2_with fail
        refine (uh CB).mono ?_
        rintro e Y ⟨jC,jE,jI,dC,dE,dI,rfl,hLT,hKY,htY,mB2,FB2,hBox2,hpB2⟩
        obtain ⟨-,-,-,rt4,rt5⟩:=(uh HKK).1.rest hBox2 hpB2 htY
        have O2Y:=rt4 (by decide) (by decide) (uh HKK).2.1
        have O3Y:=rt4 (by decide) (by decide) (uh HKK).2.2
        have hTL:=(uh HKK).1.ring
        obtain ⟨Y1,hY1⟩:∃x,Y.alloc (.cells #[.int .i64 (T.W.s 0),.int .i64 (T.W.s 1),.int .i64 (T.W.s 2),.int .i64 (T.W.s 3),.slice (some ⟨jC,0,none⟩) 384 dC,.slice (some ⟨jE,0,none⟩) 32 dE,.slice (some ⟨jI,0,none⟩) 40 dI,.int .i64 (T.W.g 0),.int .i64 (T.W.g 1),.int .i64 (T.W.g 2),.int .i64 (T.W.g 3)] 31)=x:=⟨_,rfl⟩
        obtain ⟨b22,hb22⟩:∃b,Y.heap.size=b:=⟨_,rfl⟩
        have gY1:Y.grownBy Y1 none:=by rw [←hY1];exact World.grownBy_alloc _ _ _
        have HB22:Hid (Lie Y1 b22 31 11 (Gd.box T.W.s jC jE jI dC dE dI T.W.g)):=by
         have h:=(Arr.world (s:=T.W.s) (g:=T.W.g) (gC:=jC) (gE:=jE) (gI:=jI) (cC:=dC) (cE:=dE) (cI:=dI) (heap_alloc_new Y (.cells (Gd.world T.W.s jC jE jI dC dE dI T.W.g) 31))).lie
         rw [←hY1,←hb22]
         exact h
        have HKY:=hide (hKY.on gY1)
        have HO2Y:=hide (O2Y.on gY1)
        have HO3Y:=hide (O3Y.on gY1)
        have HLT:=hide (hLT.on gY1)
        have HTm:Hid (T∈Ks):=List.mem_of_getElem? (uh HT)
        have HTL:Hid (Gd.Lists Y1 T.gC T.gE T.gI T.W.c T.W.E T.W.I):=by
         obtain ⟨_,_,_,hl⟩:=hTL
         have h:=hl.list T (uh HTm)
         exact (show Gd.Lists Y _ _ _ _ _ _ from ⟨rt5 h.cells (by decide) (by decide),rt5 h.ents (by decide) (by decide),rt5 h.items (by decide) (by decide)⟩).on gY1
        clear CB hLT hKY htY hBox2 hpB2 rt4 rt5 O2Y O3Y gY1 hTL p0 p1 p2 p3 p4 p5 p6 p7 p8 p9 p10 hEnd
        go_upto_region 38 with fail
        clear hY1 hb22
        refine wp_region_grown (by kernel_rfl) (by kernel_rfl) ?_
        intro St hNE V hI hx
        have hpt:∀σ j,j<11→(V σ).cell? ⟨g5,o5+kt*11+j,none⟩=some (Gd.box T.W.s T.gC T.gE T.gI T.cC T.cE T.cI T.W.g j):=fun σ j hj=>Sn.held_at ((uh HO2Y).on (hI σ)) (uh HT) j hj
        have hbt:∀σ,Lie (V σ) b22 31 11 (Gd.box T.W.s jC jE jI dC dE dI T.W.g):=fun σ=>(uh HB22).on (hI σ)
        have e0:∀σ,(V σ).cell? ⟨b22,0,none⟩=some (.int .i64 (T.W.s 0)):=fun σ=>(hbt σ).cell (c:=0) (by omega)
        have e1:∀σ,(V σ).cell? ⟨b22,1,none⟩=some (.int .i64 (T.W.s 1)):=fun σ=>(hbt σ).cell (c:=1) (by omega)
        have e2:∀σ,(V σ).cell? ⟨b22,2,none⟩=some (.int .i64 (T.W.s 2)):=fun σ=>(hbt σ).cell (c:=2) (by omega)
        have e3:∀σ,(V σ).cell? ⟨b22,3,none⟩=some (.int .i64 (T.W.s 3)):=fun σ=>(hbt σ).cell (c:=3) (by omega)
        have e4:∀σ,(V σ).cell? ⟨b22,4,none⟩=some (.slice (some ⟨jC,0,none⟩) 384 dC):=fun σ=>(hbt σ).cell (c:=4) (by omega)
        have e5:∀σ,(V σ).cell? ⟨b22,5,none⟩=some (.slice (some ⟨jE,0,none⟩) 32 dE):=fun σ=>(hbt σ).cell (c:=5) (by omega)
        have e6:∀σ,(V σ).cell? ⟨b22,6,none⟩=some (.slice (some ⟨jI,0,none⟩) 40 dI):=fun σ=>(hbt σ).cell (c:=6) (by omega)
        have e7:∀σ,(V σ).cell? ⟨b22,7,none⟩=some (.int .i64 (T.W.g 0)):=fun σ=>(hbt σ).cell (c:=7) (by omega)
        have e8:∀σ,(V σ).cell? ⟨b22,8,none⟩=some (.int .i64 (T.W.g 1)):=fun σ=>(hbt σ).cell (c:=8) (by omega)
        have e9:∀σ,(V σ).cell? ⟨b22,9,none⟩=some (.int .i64 (T.W.g 2)):=fun σ=>(hbt σ).cell (c:=9) (by omega)
        have e10:∀σ,(V σ).cell? ⟨b22,10,none⟩=some (.int .i64 (T.W.g 3)):=fun σ=>(hbt σ).cell (c:=10) (by omega)
        have f0:∀σ,(V σ).cell? ⟨g5,o5+kt*11,none⟩=some (.int .i64 (T.W.s 0)):=fun σ=>hpt σ 0 (by omega)
        have f1:∀σ,(V σ).cell? ⟨g5,o5+kt*11+1,none⟩=some (.int .i64 (T.W.s 1)):=fun σ=>hpt σ 1 (by omega)
        have f2:∀σ,(V σ).cell? ⟨g5,o5+kt*11+2,none⟩=some (.int .i64 (T.W.s 2)):=fun σ=>hpt σ 2 (by omega)
        have f3:∀σ,(V σ).cell? ⟨g5,o5+kt*11+3,none⟩=some (.int .i64 (T.W.s 3)):=fun σ=>hpt σ 3 (by omega)
        have f4:∀σ,(V σ).cell? ⟨g5,o5+kt*11+4,none⟩=some (.slice (some ⟨T.gC,0,none⟩) 384 T.cC):=fun σ=>hpt σ 4 (by omega)
        have f5:∀σ,(V σ).cell? ⟨g5,o5+kt*11+5,none⟩=some (.slice (some ⟨T.gE,0,none⟩) 32 T.cE):=fun σ=>hpt σ 5 (by omega)
        have f6:∀σ,(V σ).cell? ⟨g5,o5+kt*11+6,none⟩=some (.slice (some ⟨T.gI,0,none⟩) 40 T.cI):=fun σ=>hpt σ 6 (by omega)
        have f7:∀σ,(V σ).cell? ⟨g5,o5+kt*11+7,none⟩=some (.int .i64 (T.W.g 0)):=fun σ=>hpt σ 7 (by omega)
        have f8:∀σ,(V σ).cell? ⟨g5,o5+kt*11+8,none⟩=some (.int .i64 (T.W.g 1)):=fun σ=>hpt σ 8 (by omega)
        have f9:∀σ,(V σ).cell? ⟨g5,o5+kt*11+9,none⟩=some (.int .i64 (T.W.g 2)):=fun σ=>hpt σ 9 (by omega)
        have f10:∀σ,(V σ).cell? ⟨g5,o5+kt*11+10,none⟩=some (.int .i64 (T.W.g 3)):=fun σ=>hpt σ 10 (by omega)
        have k1:∀σ,Calls Tryz.prog 15 #[.agg #[.int .i64 (T.W.s 0),.int .i64 (T.W.s 1),.int .i64 (T.W.s 2),.int .i64 (T.W.s 3),.slice (some ⟨jC,0,none⟩) 384 dC,.slice (some ⟨jE,0,none⟩) 32 dE,.slice (some ⟨jI,0,none⟩) 40 dI,.int .i64 (T.W.g 0),.int .i64 (T.W.g 1),.int .i64 (T.W.g 2),.int .i64 (T.W.g 3)],.agg #[.int .i64 (T.W.s 0),.int .i64 (T.W.s 1),.int .i64 (T.W.s 2),.int .i64 (T.W.s 3),.slice (some ⟨T.gC,0,none⟩) 384 T.cC,.slice (some ⟨T.gE,0,none⟩) 32 T.cE,.slice (some ⟨T.gI,0,none⟩) 40 T.cI,.int .i64 (T.W.g 0),.int .i64 (T.W.g 1),.int .i64 (T.W.g 2),.int .i64 (T.W.g 3)]] (V σ) fun e w''=>e=.returned (.bool true)∧∃σ',w''=V σ':=fun σ=>calls_class hI hx (by
         have h:=same7_two T.W.s T.W.s T.W.g T.W.g T.W.c T.W.c T.W.E T.W.E T.W.I T.W.I jC jE jI dC dE dI T.gC T.gE T.gI T.cC T.cE T.cI (V σ) ((uh HLT).on (hI σ)) ((uh HTL).on (hI σ)) ((uh HKK).1.byte T (uh HTm)) ((uh HKK).1.byte T (uh HTm))
         rw [Sn.eqw_same (Sn.Eqw.refl T.W)] at h
         exact h)
        have k2:∀σ,Calls Tryz.prog 25 #[.pointer (some ⟨p,0,none⟩)] (V σ) fun e w''=>e=.returned (.int .i64 (kt:Int))∧∃σ',w''=V σ':=fun σ=>by
         have h:=((uh HKY).on (hI σ)).len
         rw [List.length_take,(uh HE5).1,Nat.min_eq_left (uh HKT).1] at h
         exact h.mono fun e w' hh=>⟨hh.1,σ,hh.2⟩
        have hI2:=hide hI
        clear hI hx hpt hbt
        repeat (go_big_quiet_step (first | (go_at_call 15;with_reducible exact k1 _) | (go_at_call 25;with_reducible exact k2 _)))
        refine wpQuiet_nil ?_
        rintro _ ⟨σ,rfl⟩
        obtain ⟨w5,hw5⟩:∃wq,V σ=wq:=⟨_,rfl⟩
        have hS5:Hid (∃(Ls:List Nat) (Hs:List Sn.Hd),Sn.Core w w5 wk.heap.size p n base (.slice (some ⟨q,0,none⟩) nL cS) a0 L Ls Hs∧OwnsOff w5 Bp 31 11 (.slice (some ⟨g5,o5,none⟩) (kt+1) cp5) Hs.length (Sn.hflat Hs)∧OwnsOff w5 Bp 3 1 (.slice a14 kt c14) Ls.length (Sn.cnts Ls)):=by
         rw [←hw5]
         have z1:=(uh HKY).on (uh hI2 σ)
         have z2:=(uh HO2Y).on (uh hI2 σ)
         have z3:=(uh HO3Y).on (uh hI2 σ)
         obtain ⟨_,_,_,_,hl⟩:=(uh HKK).1.last
         have hh5:=uh HE5
         have hkk:=uh HKT
         have y2:=OwnsOff.cut z2 (k:=kt+1) (by omega)
         have y3:=OwnsOff.cut z3 (k:=kt) (by omega)
         rw [Sn.hflat_take] at y2
         refine ⟨_,_,z1,?_,?_⟩
         ·rw [List.length_take,Nat.min_eq_left (by omega)]
          exact y2
         ·rw [List.length_take,Nat.min_eq_left (by omega)]
          rw [Nat.mul_one] at y3
          unfold Sn.cnts at y3 ⊢
          rw [List.map_take]
          exact y3
        rw [hw5]
        have hcut1:(h5:Int) - (b:Int)=(kt:Int)+1:=by omega
        have hcp:(kt:Int)+1≤(cp5:Int):=by
         obtain ⟨g',o',cap',e,_,hh,_⟩:=(uh HKK).2.1.at (by obtain ⟨_,_,_,_,hl⟩:=(uh HKK).1.last;omega)
         simp only [Value.slice.injEq] at e
         have:=uh HE5
         have:=uh HKT
         obtain ⟨_,_,_,_,hl⟩:=(uh HKK).1.last
         omega
        have hcr:(kt:Int)≤(c14:Int):=by
         obtain ⟨a',c',e,hh,_⟩:=(uh HKK).2.2.form
         simp only [Value.slice.injEq] at e
         have:=uh HE5
         have:=uh HKT
         omega
        clear e0 e1 e2 e3 e4 e5 e6 e7 e8 e9 e10 f0 f1 f2 f3 f4 f5 f6 f7 f8 f9 f10 k1 k2 hI2 hw5 HKY HO2Y HO3Y HLT HTL HB22
        clear σ V hNE St
        go_wp2_with fail
        go_roundw
        case rel=>exact ⟨i1,by have:=uh HI;omega,by first | rfl | go_num,by first | rfl | (have:=(uh HI).2;congr 1;omega),hS5⟩
        case measure=>simp [intOf];have:=uh HI;have:=uh HnL;have:=uh HL;omega
       ·have hbI:(k5:Int)<(b:Int):=by omega
        have CB:=(uh HKK).1.old P5 (b:=(b:Int)) (.inr (by rw [(uh HE5).1];exact hbI))
        unfold Gd.world at CB
        have CB2:=hide CB
        clear CB hbm
        go_wp2_with fail
        refine (uh cw).mono ?_
        rintro e wq ⟨rfl,hq7⟩
        obtain rfl:W=wq:=hq7.symm
        clear cw
        go_wp2_with fail
        refine (uh CB2).mono ?_
        rintro e Y ⟨rfl,hgY⟩
        unfold Sn.void
        have HGY:=hide hgY
        clear CB2 hgY p0 p1 p2 p3 p4 p5 p6 p7 p8 p9 p10
        go_wp2_with fail
        go_roundw
        case rel=>exact ⟨i1,by have:=uh HI;omega,by first | rfl | go_num,by first | rfl | (have:=(uh HI).2;congr 1;omega),hide (uh hEnd _ (gtr (uh HGY) (World.grownBy_alloc _ _ _)))⟩
        case measure=>simp [intOf];have:=uh HI;have:=uh HnL;have:=uh HL;omega
      ·have hS5:=hide (uh hEnd W (World.grownBy.refl _ _))
       have hno:(¬(i:Int)<(len3:Int))∨((i:Int)<(len3:Int)∧∃bb ob y,a3=some ⟨bb,ob,none⟩∧W.cell? ⟨bb,ob+i,none⟩=some (.int .i64 y)∧¬0<y):=by
        by_cases hi3:i<len3
        ·obtain ⟨bb,ob,ha3,hbb,hcb⟩:∃b off,a3=some ⟨b,off,none⟩∧b<w.heap.size∧∀i,i<len3→w.cell? ⟨b,off+i,none⟩=some (.int .i64 (z3[i]?.getD 0)):=by
          obtain ⟨_,h0 | h⟩:=uh v3
          ·omega
          ·exact h
         exact .inr ⟨by omega,bb,ob,_,ha3,(gce (uh HKK).1.grown bb _ hbb (by simp)).trans (hcb i hi3),fun h=>hbk ⟨hi3,h⟩⟩
        ·exact .inl (by omega)
       clear hbk hEnd
       rcases hno with hno | ⟨hno,bb,ob,yy,rfl,y0,hyy⟩
       all_goals
        go_wp2_with fail
        go_roundw
        case rel=>exact ⟨i1,by have:=uh HI;omega,by first | rfl | go_num,by first | rfl | (have:=(uh HI).2;congr 1;omega),hS5⟩
        case measure=>simp [intOf];have:=uh HI;have:=uh HnL;have:=uh HL;omega
  ·have hge:¬(i:Int)+1<(nL:Int):=by omega
   have hpc:=Sn.held_at hO2 (k:=m) (P:=P) (by rw [←hm];exact hP)
   have p0:wr.cell? ⟨g2,o2+m*11,none⟩=some (.int .i64 (P.W.s 0)):=hpc 0 (by omega)
   have p1:wr.cell? ⟨g2,o2+m*11+1,none⟩=some (.int .i64 (P.W.s 1)):=hpc 1 (by omega)
   have p2:wr.cell? ⟨g2,o2+m*11+2,none⟩=some (.int .i64 (P.W.s 2)):=hpc 2 (by omega)
   have p3:wr.cell? ⟨g2,o2+m*11+3,none⟩=some (.int .i64 (P.W.s 3)):=hpc 3 (by omega)
   have p4:wr.cell? ⟨g2,o2+m*11+4,none⟩=some (.slice (some ⟨P.gC,0,none⟩) 384 P.cC):=hpc 4 (by omega)
   have p5:wr.cell? ⟨g2,o2+m*11+5,none⟩=some (.slice (some ⟨P.gE,0,none⟩) 32 P.cE):=hpc 5 (by omega)
   have p6:wr.cell? ⟨g2,o2+m*11+6,none⟩=some (.slice (some ⟨P.gI,0,none⟩) 40 P.cI):=hpc 6 (by omega)
   have p7:wr.cell? ⟨g2,o2+m*11+7,none⟩=some (.int .i64 (P.W.g 0)):=hpc 7 (by omega)
   have p8:wr.cell? ⟨g2,o2+m*11+8,none⟩=some (.int .i64 (P.W.g 1)):=hpc 8 (by omega)
   have p9:wr.cell? ⟨g2,o2+m*11+9,none⟩=some (.int .i64 (P.W.g 2)):=hpc 9 (by omega)
   have p10:wr.cell? ⟨g2,o2+m*11+10,none⟩=some (.int .i64 (P.W.g 3)):=hpc 10 (by omega)
   have cB:=hK.old P (b:=-1) (.inl (by omega))
   unfold Gd.world at cB
   have CB:=hide cB
   have HG:=hide hK.grown
   rw [hh1,hm]
   clear hX hK hO2 hO3 hP hPm hPL hHl hm hh1 hpc hb2 hc2 hm2 hg2 hn13 hm13 hlt cB HXX HE
   go_wp2_with fail
   refine (uh CB).mono ?_
   rintro e Y ⟨rfl,hgY⟩
   have hbel:Hid (Below w.heap.size w Y):=none_below (gtr (uh HG) hgY)
   have c1:=hide (newRing_bad 0 Y (by decide))
   have c2:=hide (newRing_bad 65 Y (by decide))
   clear CB hgY HG p0 p1 p2 p3 p4 p5 p6 p7 p8 p9 p10
   go_wp2_with fail
   refine (uh c1).mono ?_
   rintro e wq ⟨rfl,hq7⟩
   obtain rfl:Y=wq:=hq7.symm
   clear c1
   go_wp2_with fail
   refine (uh c2).mono ?_
   rintro e wq ⟨rfl,hq8⟩
   obtain rfl:Y=wq:=hq8.symm
   clear c2
   go_wp2
   go_ret
   exact ⟨rfl,uh hbel⟩

set_option maxRecDepth 100000 in
theorem lifted (os:Os) (started:os.Started) (H:Type) (enc:TypeId × Value→H) :
  ReturnsInHanded {} Tryz.checked os 5 .any (Rows.snapRingsSpec.pre6 enc Tryz.prog Tryz.f5 Rows.snapRingsRow.domain false) (Rows.snapRingsSpec.post enc Tryz.prog Tryz.f5 false true false false):=by
 refine returnsInHanded_of_change (C:=Tryz.checked) own started (by kernel_rfl) Tryz.func5
  (ChangeSpec.witness6 (enc:=enc) (C:=Tryz.checked) false ⟨#[],#[.int .i64 0,.slice none 0 0,.int .i64 0,.slice none 0 0],[]⟩ 8 (by kernel_rfl) (by kernel_rfl) (by kernel_rfl) (by kernel_rfl)) ?_
 intro W base args ds gs before hval0 hW hcnd _
 have hval:∀(j:Nat) t v,Tryz.f5.params[j]?=some t→args[j]?=some v→Value.okWide Tryz.prog W .any base t v:=hval0
 have hW':=hW
 obtain ⟨p,q,hA0,hV,rfl,hfz,hnd⟩:=hW
 have hA:DataW.TrodAll enc Tryz.prog W 0 (fun _=>true) true Tryz.f5.params.toList args.toList ds p:=hA0
 rw [Tryz.params5] at hA hval
 obtain ⟨v0,vs0,d0,ds0,p0,q0,hargs,rfl,rfl,h0,r0⟩:=trodAll_cons hA
 obtain ⟨v1,vs1,d1,ds1,p1,q1,rfl,rfl,rfl,h1,r1⟩:=trodAll_cons r0
 obtain ⟨v2,vs2,d2,ds2,p2,q2,rfl,rfl,rfl,h2,r2⟩:=trodAll_cons r1
 obtain ⟨v3,vs3,d3,ds3,p3,q3,rfl,rfl,rfl,h3,r3⟩:=trodAll_cons r2
 obtain ⟨rfl,rfl,rfl⟩:=trodAll_nil r3
 obtain rfl:args=#[v0,v1,v2,v3]:=by cases args;simp_all
 obtain ⟨rfl,rfl⟩:=trodVars_none hV
 obtain ⟨a0,rfl,rfl,rfl,w0⟩:=open_int Tryz.underlying2 (hval 0 2 v0 rfl rfl) h0
 obtain ⟨a1,len1,cap1,rfl⟩:=okWide_slice Tryz.underlying22 (hval 1 22 v1 rfl rfl)
 have k1:=h1
 have lt1:∀x∈p1,x.block<W.heap.size:=by obtain ⟨m,hm⟩:=k1;exact DataW.trod_lt m _ _ _ hm
 obtain ⟨z1,w1⟩:∃z:(Nat→Option Addr × Nat × Nat) × (Nat→Nat→Int),Cr.Came W a1 len1 z.1 z.2:=by
  obtain ⟨fuel,hf⟩:=h1
  obtain ⟨V,z,h⟩:=open_rows (by simpa [Value.cells] using hf)
  exact ⟨(V,z),h⟩
 obtain ⟨a2,rfl,rfl,rfl,w2⟩:=open_int Tryz.underlying3 (hval 2 3 v2 rfl rfl) h2
 obtain ⟨a3,len3,cap3,rfl⟩:=okWide_slice Tryz.underlying47 (hval 3 47 v3 rfl rfl)
 have k3:=h3
 have lt3:∀x∈p3,x.block<W.heap.size:=by obtain ⟨m,hm⟩:=k3;exact DataW.trod_lt m _ _ _ hm
 obtain ⟨z3,w3⟩:∃zs,IsRow .i64 W a3 len3 cap3 zs:=by
  obtain ⟨fuel,hf⟩:=h3
  rcases open_ints Tryz.underlying47 Tryz.underlying3 (by kernel_rfl) hf with ⟨hcs,_⟩ | ⟨x,l,c,zs,hcs,_,hl,hm,hz,_,hcell,hwz⟩
  ·simp [Value.cells] at hcs
   obtain ⟨rfl,rfl,rfl⟩:=hcs
   exact ⟨[],.inl ⟨rfl,rfl,rfl,rfl⟩⟩
  ·simp [Value.cells] at hcs
   obtain ⟨rfl,rfl,rfl⟩:=hcs
   exact ⟨zs,.inr ⟨_,rfl,hl,hm,by simpa using hz,hcell,hwz⟩⟩
 clear hA0 hval0
 refine (walk a0 a1 len1 cap1 z1 a2 a3 len3 cap3 z3 W w0 w1 w2 w3).mono fun e W' ⟨he,bel⟩=>?_
 subst he
 exact ⟨_,rfl,_,_,_,[],_,[],hW',trodAll_mk1 (shut_bool Tryz.underlying4 _),(trodAll_cons_mk (shut_int Tryz.underlying2 w0) (trodAll_cons_mk (Below.trod laidOut (by kernel_rfl) (of_decide_eq_true (by kernel_rfl)) k1 bel lt1) (trodAll_cons_mk (shut_int Tryz.underlying3 w2) (trodAll_cons_mk (Below.trod laidOut (by kernel_rfl) (of_decide_eq_true (by kernel_rfl)) k3 bel lt3) trodAll_mk0)))),rfl,bel.frame _,fun h=>by cases h⟩

theorem over:Rows.snapRingsRow.holds Tryz.pinned (OpenSpec.ofChange Rows.snapRingsSpec) :=
 OpenClaim.holds_of_wide 5 Tryz.f5 rfl rfl rfl rfl rfl rfl rfl ⟨rfl,rfl,rfl,rfl,rfl⟩ rfl rfl rfl rfl rfl (by kernel_rfl) Tryz.func5 (by kernel_rfl)
  (of_decide_eq_true (by kernel_rfl)) (by unfold Func.isWrapper;first | (rw [if_pos (by decide +kernel)];kernel_rfl) | (rw [if_neg (by decide +kernel)];exact ⟨rfl,rfl⟩))
  (fun os started H enc _=>lifted os started H enc)

theorem proved:Rows.SnapRingsSaid:=over
#print axioms proved

end Go.Proofs.YtkcooekhigmioaaGreat.snapRings
