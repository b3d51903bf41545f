/-
  Worlds of a crawl, and such as one thing is spoilt in, are checked, written, told by their sums as the document says, and read again as they were: for every seed, list of rows of numbers, kind and numbers, at this commit; no condition.
-/
import Derived.ProofKit
import Derived.Test.YtepppmepilffcaaGreatPw50
import Derived.Test.YtepppmepilffcaaGreatPw55
import Derived.ShutString
import Derived.ChangeOld
namespace Go.Proofs.YtepppmepilffcaaGreat.snapWorlds
open Go.ChangeShapes Go.WideShapes Go.ChangeAt Go.RowKit
open Go.ChangeMaps (open_string shut_string)
set_option linter.unusedVariables false

theorem own:ownKnob Tryz.prog.godebug=none:=by kernel_rfl
theorem laidOut:laidOutB Tryz.prog=true:=by kernel_rfl

def IsRow (k:IntKind) (w:World) (a:Option Addr) (len cap:Nat) (zs:List Int):Prop :=
 (a=none∧len=0∧cap=0∧zs=[]) ∨
 ∃x,a=some x∧len≤cap∧cap≤maxLen∧zs.length=cap∧(∀i,i<zs.length→w.cell? (x.add i)=some (.int k (zs.getD i 0)))∧∀n∈zs,(Lit.int k n).wf=true

theorem within_nat {a:Int} {n:Nat} (h:0<n):∃k:Nat,a % (n:Int)=(k:Int)∧k<n :=
 ⟨(a % (n:Int)).toNat,by have:=Int.emod_nonneg a (show (n:Int)≠0 by omega);omega,by have:=Int.emod_nonneg a (show (n:Int)≠0 by omega);have:=Int.emod_lt_of_pos a (show (0:Int)<(n:Int) by omega);omega⟩

def FirstPage (w1:World) (q:Nat) (sP gP cP:Nat→Int) (eP iP:Nat→Nat→Int) (pC pE pI jC jE jI:Nat):Prop :=
 (∀i,0≤cP i∧cP i≤255)∧∀x,w1.grownBy x none→(x.cell? ⟨q,0,none⟩=some (.int .i64 (sP 0))∧x.cell? ⟨q,1,none⟩=some (.int .i64 (sP 1))∧x.cell? ⟨q,2,none⟩=some (.int .i64 (sP 2))∧x.cell? ⟨q,3,none⟩=some (.int .i64 (sP 3))∧x.cell? ⟨q,4,none⟩=some (.slice (some ⟨pC,0,none⟩) 384 jC)∧x.cell? ⟨q,5,none⟩=some (.slice (some ⟨pE,0,none⟩) 32 jE)∧x.cell? ⟨q,6,none⟩=some (.slice (some ⟨pI,0,none⟩) 40 jI)∧x.cell? ⟨q,7,none⟩=some (.int .i64 (gP 0))∧x.cell? ⟨q,8,none⟩=some (.int .i64 (gP 1))∧x.cell? ⟨q,9,none⟩=some (.int .i64 (gP 2))∧x.cell? ⟨q,10,none⟩=some (.int .i64 (gP 3)))∧Gd.Lists x pC pE pI cP eP iP

def SomeNow (w1 x:World) (T:Nat) (z:Int) (k0 i n5 t:Nat):Prop:=∃s g c E I vC vE vI nC nE nI,Sn.Now w1 x T z k0 i n5 t s g c E I vC vE vI nC nE nI

set_option maxRecDepth 16000 in
set_option maxHeartbeats 25600000 in

theorem walk (a0:Int) (a1:Option Addr) (len1 cap1:Nat) (z1:(Nat→Option Addr × Nat × Nat) × (Nat→Nat→Int)) (a2:Int) (a3:Int) (a4:Int) (w:World) (w0:(Lit.int .i64 a0).wf=true) (w1:Cr.Came w a1 len1 z1.1 z1.2) (w2:(Lit.int .i64 a2).wf=true) (w3:(Lit.int .i64 a3).wf=true) (w4:(Lit.int .i64 a4).wf=true) :
  Calls Tryz.prog 3 #[.int .i64 a0,.slice a1 len1 cap1,.int .i64 a2,.int .i64 a3,.int .i64 a4] w fun e w'=>e=.returned (.bool true)∧Below w.heap.size w w':=by
 obtain ⟨V0,z⟩:=z1
 have hC:=hide w1
 have hz64:Hid (-9223372036854775808≤a0∧a0<9223372036854775808):=by
  have h:=w0
  simp only [Lit.wf,Bool.and_eq_true,decide_eq_true_eq,show IntKind.i64.min=-9223372036854775808 from by decide,show IntKind.i64.max=9223372036854775807 from by decide] at h
  show _∧_
  omega
 obtain ⟨k0,hk0,hk01⟩:=within_nat (a:=a2) (n:=20) (by omega)
 obtain ⟨iE,hiE,hiE1⟩:=within_nat (a:=a3) (n:=32) (by omega)
 obtain ⟨iI,hiI,hiI1⟩:=within_nat (a:=a3) (n:=40) (by omega)
 obtain ⟨iC,hiC,hiC1⟩:=within_nat (a:=a3) (n:=384) (by omega)
 obtain ⟨iG,hiG,hiG1⟩:=within_nat (a:=a3) (n:=4) (by omega)
 have csp:=hide (fun (s g c:Nat→Int) (E I:Nat→Nat→Int) (vC vE vI:Value) (nC nE nI:Nat) (x:World) (hL:Sn.Lis x vC vE vI nC nE nI c E I) (hc:∀i,0≤c i∧c i≤255) (hM:Sn.May k0 iE iC nC nE nI) (mI:nI≤900)=>spoilt_any s g c E I vC vE vI nC nE nI k0 iE iI iC iG a2 a3 a4 x hL hc hM mI hk0 hk01 hiE hiE1 hiI hiI1 hiC hiC1 hiG hiG1)
 have hmay0:Hid (Sn.May k0 iE iC 384 32 40):=⟨fun _=>rfl,fun _=>by omega,fun _=>by omega,fun _=>rfl,fun _=>rfl,Nat.le_refl _,Nat.le_refl _⟩
 clear w0 w1 w2 w3 w4 hk0 hk01 hiE hiE1 hiI hiI1 hiC hiC1 hiG hiG1
 go_enter Tryz.func3,Tryz.ntmps3
 go_wp2_with fail
 refine (known11_any _).mono ?_
 rintro e wk ⟨rfl,hgk⟩
 have hCk:=hide ((uh hC).on hgk)
 have hgk':=hide hgk
 clear hgk hC
 go_wp2_with fail
 refine (story_any a0 a1 len1 cap1 _ _ wk (uh hCk)).mono ?_
 rintro e w1 ⟨v,base,L,rfl,hbase,hL0,hL31,hBk,hg1⟩
 obtain ⟨n,hn⟩:∃n,L.length=n+1:=⟨L.length - 1,by omega⟩
 have hn31:n<31:=by omega
 have hBk2:=hBk.at (k:=0) (by omega)
 obtain ⟨q,cap,rfl,hq,hcap,⟨s,g,c,E,I⟩,gC,gE,gI,cC,cE,cI,hcell,hLs,hcE,hGood,hs0,hs1⟩:=hBk.at (k:=n) (by omega)
 obtain ⟨q',cap',hqe,-,-,⟨sP,gP,cP,eP,iP⟩,pC,pE,pI,jC,jE,jI,hcell2,hLs2,-,hGood2,-,-⟩:=hBk2
 obtain ⟨rfl,rfl⟩:q=q'∧cap=cap':=by
  simp only [Value.slice.injEq,Option.some.injEq,Addr.mk.injEq] at hqe
  exact ⟨hqe.1.1,hqe.2.2⟩
 have hqlt:q<w1.heap.size:=Go.block_lt_of_cell (hcell 0 (by omega))
 have hFP:Hid (FirstPage w1 q sP gP cP eP iP pC pE pI jC jE jI):=by
  refine ⟨hGood2.sane.fit.cells,fun x hx=>?_⟩
  have k:∀j,j<11→x.cell? ⟨q,j,none⟩=some (Gd.box sP pC pE pI jC jE jI gP j):=fun j hj=>by
   have h:=hcell2 j hj
   rw [show 0*11+j=j by omega] at h
   exact (gce hx q _ hqlt (by simp)).trans h
  exact ⟨⟨k 0 (by omega),k 1 (by omega),k 2 (by omega),k 3 (by omega),k 4 (by omega),k 5 (by omega),k 6 (by omega),k 7 (by omega),k 8 (by omega),k 9 (by omega),k 10 (by omega)⟩,hLs2.on hx⟩
 have hgw:=hide (gtr (uh hgk') hg1)
 have k0':w1.cell? ⟨q,n*11,none⟩=some (Gd.box s gC gE gI cC cE cI g 0):=by simpa using hcell 0 (by omega)
 have k1':=hcell 1 (by omega)
 have k2':=hcell 2 (by omega)
 have k3':=hcell 3 (by omega)
 have k4':=hcell 4 (by omega)
 have k5':=hcell 5 (by omega)
 have k6':=hcell 6 (by omega)
 have k7':=hcell 7 (by omega)
 have k8':=hcell 8 (by omega)
 have k9':=hcell 9 (by omega)
 have k10':=hcell 10 (by omega)
 dsimp only [Gd.box] at k0' k1' k2' k3' k4' k5' k6' k7' k8' k9' k10'
 have hs0':s 0=a0:=hs0
 have h1n:((n:Int)+1) - 1=(n:Int):=by omega
 have hN0:Hid (SomeNow w1 (w1.alloc (.cells #[.int .i64 (s 0),.int .i64 (s 1),.int .i64 (s 2),.int .i64 (s 3),.slice (some ⟨gC,0,none⟩) 384 cC,.slice (some ⟨gE,0,none⟩) 32 cE,.slice (some ⟨gI,0,none⟩) 40 cI,.int .i64 (g 0),.int .i64 (g 1),.int .i64 (g 2),.int .i64 (g 3)] 31)) w1.heap.size a0 k0 iE iC 0) :=
  ⟨s,g,c,E,I,.slice (some ⟨gC,0,none⟩) 384 cC,.slice (some ⟨gE,0,none⟩) 32 cE,.slice (some ⟨gI,0,none⟩) 40 cI,384,32,40,Sn.wide_lie w1 s g _ _ _,((show Gd.Lists w1 gC gE gI c E I from hLs).on (World.grownBy_alloc _ _ _)).lis hcE,hGood.sane.fit.cells,hs0',uh hmay0,Nat.le_refl _,Nat.le_refl _,World.grownBy_alloc _ _ _⟩
 rw [hn]
 clear hgk' hg1 hLs hcE hGood hs0 hs1 hs0' hBk hL0 hL31 hbase hq hcap hCk hcell hn hcell2 hqe hLs2 hGood2 hqlt hmay0
 go_upto_region 5 with fail
 generalize (w1.alloc (.cells #[.int .i64 (s 0),.int .i64 (s 1),.int .i64 (s 2),.int .i64 (s 3),.slice (some ⟨gC,0,none⟩) 384 cC,.slice (some ⟨gE,0,none⟩) 32 cE,.slice (some ⟨gI,0,none⟩) 40 cI,.int .i64 (g 0),.int .i64 (g 1),.int .i64 (g 2),.int .i64 (g 3)] 31))=x0 at hN0 ⊢
 obtain ⟨T,hT⟩:∃T,w1.heap.size=T:=⟨_,rfl⟩
 rw [hT] at hN0 ⊢
 clear hT k0' k1' k2' k3' k4' k5' k6' k7' k8' k9' k10'
 clear h1n
 have q0:(0:Int)<(n:Int)+1:=by omega
 go_wp2_with fail
 go_loopw [13] (fun v13 wr=>∃t:Nat,t≤2∧v13=.int .i64 (t:Int)∧Hid (SomeNow w1 wr T a0 k0 iE iC t)) (fun v13 _=>5 - (intOf v13).toNat)
 case atStart=>exact ⟨0,by omega,rfl,hN0⟩
 case round =>
  clear hN0
  obtain ⟨t,ht,rfl,hX0⟩:=hrel
  by_cases hlt:t<2
  case neg =>
   obtain rfl:t=2:=by omega
   have hge:¬((2:Nat):Int)<2:=by omega
   obtain ⟨s,g,c,E,I,vC,vE,vI,nC,nE,nI,hN⟩:=uh hX0
   have hfin:=hide (none_below (gtr (uh hgw) hN.grown))
   clear hlt ht hX0 hN
   go_wp2
   go_ret
   exact ⟨rfl,uh hfin⟩
  have hlt':(t:Int)<2:=by omega
  have HL:=hide hlt
  clear hlt ht
  obtain ⟨s,g,c,E,I,vC,vE,vI,nC,nE,nI,hN1⟩:=uh hX0
  obtain ⟨R,l,Dg,hSeen1⟩:=Sn.seen_any s g c E I nC nE nI hN1.byte
  have hSn:=hide hSeen1
  have hN:=hide hN1
  have hm3:=hN1.may.2.2.2.2.2
  have hm4:=hN1.most
  have ctw:=hide (refTwin_wide s g c E I vC vE vI nC nE nI wr hN1.lis (by omega) (by omega) (by have:=uh HL;omega))
  clear hX0 hN1 hSeen1 hm3 hm4
  obtain ⟨b0,b1,b2,b3,b4,b5,b6,b7,b8,b9,b10⟩:=Sn.wbox_cells (uh hN).box
  unfold Sn.wide at ctw
  go_wp2_with fail
  refine (uh ctw).mono ?_
  rintro e y1 ⟨gC,gE,gI,cC,cE,cI,rfl,hNew,hgy⟩
  have hLu:=hNew.lis
  obtain ⟨y2,hy2⟩:∃y,y=y1.alloc (.cells (Sn.wide s g (.slice (some ⟨gC,0,none⟩) nC cC) (.slice (some ⟨gE,0,none⟩) nE cE) (.slice (some ⟨gI,0,none⟩) nI cI)) 31):=⟨_,rfl⟩
  have g2:y1.grownBy y2 none:=by rw [hy2];exact World.grownBy_alloc _ _ _
  have hU:Hid (Lie y2 y1.heap.size 31 11 (Sn.wbox s g (.slice (some ⟨gC,0,none⟩) nC cC) (.slice (some ⟨gE,0,none⟩) nE cE) (.slice (some ⟨gI,0,none⟩) nI cI))):=by
   show Lie y2 _ _ _ _
   rw [hy2]
   exact Sn.wide_lie y1 s g _ _ _
  have hLU:=hide (hLu.on g2)
  have hN2:=hide ((uh hN).on (gtr hgy g2))
  clear ctw hLu hNew hgy g2 hN b0 b1 b2 b3 b4 b5 b6 b7 b8 b9 b10
  unfold Sn.wide at hy2 ⊢
  go_upto_region 9 with fail
  rw [←hy2]
  clear hy2
  obtain ⟨U,hUe⟩:∃U,y1.heap.size=U:=⟨_,rfl⟩
  rw [hUe] at hU ⊢
  clear hUe y1
  obtain ⟨uC,huC⟩:∃u,Value.slice (some ⟨gC,0,none⟩) nC cC=u:=⟨_,rfl⟩
  obtain ⟨uE,huE⟩:∃u,Value.slice (some ⟨gE,0,none⟩) nE cE=u:=⟨_,rfl⟩
  obtain ⟨uI,huI⟩:∃u,Value.slice (some ⟨gI,0,none⟩) nI cI=u:=⟨_,rfl⟩
  rw [huC,huE,huI] at hU hLU ⊢
  clear huC huE huI
  obtain ⟨b0,b1,b2,b3,b4,b5,b6,b7,b8,b9,b10⟩:=Sn.wbox_cells (uh hN2).box
  have ce:=hide ((uh hSn).enc y2 vC vE vI (uh hN2).lis)
  unfold Sn.wide at ce
  go_wp2_with fail
  refine (uh ce).mono ?_
  rintro e y3 ⟨aB,nB,cB,rfl,hsB,hfB,hgy⟩
  have hN3:=hide ((uh hN2).on hgy)
  have hU3:=hide ((uh hU).on hgy)
  have hLU3:=hide ((uh hLU).on hgy)
  have HsB:=hide hsB
  have HfB:=hide hfB
  clear ce hgy hsB hfB hN2 hU hLU b0 b1 b2 b3 b4 b5 b6 b7 b8 b9 b10
  obtain ⟨b0,b1,b2,b3,b4,b5,b6,b7,b8,b9,b10⟩:=Sn.wbox_cells (uh hU3)
  have ce:=hide ((uh hSn).renc y3 uC uE uI (uh hLU3))
  unfold Sn.wide at ce
  go_wp2_with fail
  refine (uh ce).mono ?_
  rintro e wX ⟨aR,nR,cR,rfl,hsR,-,hgy⟩
  have hN4:=hide ((uh hN3).on hgy)
  have hU4:=hide ((uh hU3).on hgy)
  have hLU4:=hide ((uh hLU3).on hgy)
  have HsB4:=hide ((uh HsB).grown hgy)
  have HsR:=hide hsR
  have hBf:Hid (R=0→∃G,aB=some ⟨G,0,none⟩∧nB=918∧∃b,Sn.Buf b wX G 918 cB l):=fun h=>by
   obtain ⟨G,h1,h2,h3⟩:=uh HfB h
   exact ⟨G,h1,h2,y2,h3.on hgy⟩
  clear ce hgy hsR hN3 hU3 hLU3 HsB HfB b0 b1 b2 b3 b4 b5 b6 b7 b8 b9 b10
  go_upto_region 11 with fail
  have hS0:Hid (wX.grownBy wX.drew none):=gd1 (World.grownBy.refl wX none)
  have rw_:Hid (∀x,wX.grownBy x none→x.cell? ⟨T,0,none⟩=some (.int .i64 (s 0))∧x.cell? ⟨T,1,none⟩=some (.int .i64 (s 1))∧x.cell? ⟨T,2,none⟩=some (.int .i64 (s 2))∧x.cell? ⟨T,3,none⟩=some (.int .i64 (s 3))∧x.cell? ⟨T,4,none⟩=some vC∧x.cell? ⟨T,5,none⟩=some vE∧x.cell? ⟨T,6,none⟩=some vI∧x.cell? ⟨T,7,none⟩=some (.int .i64 (g 0))∧x.cell? ⟨T,8,none⟩=some (.int .i64 (g 1))∧x.cell? ⟨T,9,none⟩=some (.int .i64 (g 2))∧x.cell? ⟨T,10,none⟩=some (.int .i64 (g 3))):=fun x hx=>Sn.wbox_cells ((uh hN4).box.on hx)
  have ru_:Hid (∀x,wX.grownBy x none→x.cell? ⟨U,0,none⟩=some (.int .i64 (s 0))∧x.cell? ⟨U,1,none⟩=some (.int .i64 (s 1))∧x.cell? ⟨U,2,none⟩=some (.int .i64 (s 2))∧x.cell? ⟨U,3,none⟩=some (.int .i64 (s 3))∧x.cell? ⟨U,4,none⟩=some uC∧x.cell? ⟨U,5,none⟩=some uE∧x.cell? ⟨U,6,none⟩=some uI∧x.cell? ⟨U,7,none⟩=some (.int .i64 (g 0))∧x.cell? ⟨U,8,none⟩=some (.int .i64 (g 1))∧x.cell? ⟨U,9,none⟩=some (.int .i64 (g 2))∧x.cell? ⟨U,10,none⟩=some (.int .i64 (g 3))):=fun x hx=>Sn.wbox_cells ((uh hU4).on hx)
  have t1:Hid (∀x,wX.grownBy x none→(convert 26 9 (.slice aB nB cB)).run Tryz.prog x=.ok (.string (strOfNums l)) x):=fun x hx=>((uh HsB4).grown hx).text
  have t2:Hid (∀x,wX.grownBy x none→(convert 26 9 (.slice aR nR cR)).run Tryz.prog x=.ok (.string (strOfNums l)) x):=fun x hx=>((uh HsR).grown hx).text
  obtain ⟨X,hX⟩:∃X,strOfNums l=X:=⟨_,rfl⟩
  rw [hX] at t1 t2
  have cK:Hid (∀x,wX.grownBy x none→Calls Tryz.prog 10 #[.agg #[.int .i64 (s 0),.int .i64 (s 1),.int .i64 (s 2),.int .i64 (s 3),vC,vE,vI,.int .i64 (g 0),.int .i64 (g 1),.int .i64 (g 2),.int .i64 (g 3)]] x (Says x (.int .i64 R))):=fun x hx=>(uh hSn).chk x _ _ _ ((uh hN4).lis.on hx)
  have cR':Hid (∀x,wX.grownBy x none→Calls Tryz.prog 11 #[.agg #[.int .i64 (s 0),.int .i64 (s 1),.int .i64 (s 2),.int .i64 (s 3),uC,uE,uI,.int .i64 (g 0),.int .i64 (g 1),.int .i64 (g 2),.int .i64 (g 3)]] x (Says x (.int .i64 R))):=fun x hx=>(uh hSn).ref x _ _ _ ((uh hLU4).on hx)
  have cD:Hid (∀x,wX.grownBy x none→Calls Tryz.prog 12 #[.agg #[.int .i64 (s 0),.int .i64 (s 1),.int .i64 (s 2),.int .i64 (s 3),vC,vE,vI,.int .i64 (g 0),.int .i64 (g 1),.int .i64 (g 2),.int .i64 (g 3)]] x (Says x (.int .u64 Dg))):=fun x hx=>(uh hSn).dig x _ _ _ ((uh hN4).lis.on hx)
  have cE':Hid (∀x,wX.grownBy x none→Calls Tryz.prog 13 #[.agg #[.int .i64 (s 0),.int .i64 (s 1),.int .i64 (s 2),.int .i64 (s 3),uC,uE,uI,.int .i64 (g 0),.int .i64 (g 1),.int .i64 (g 2),.int .i64 (g 3)]] x (Says x (.int .u64 Dg))):=fun x hx=>(uh hSn).rdig x _ _ _ ((uh hLU4).on hx)
  have cS:Hid (∀x,wX.grownBy x none→Calls Tryz.prog 14 #[.agg #[.int .i64 (s 0),.int .i64 (s 1),.int .i64 (s 2),.int .i64 (s 3),vC,vE,vI,.int .i64 (g 0),.int .i64 (g 1),.int .i64 (g 2),.int .i64 (g 3)],.agg #[.int .i64 (s 0),.int .i64 (s 1),.int .i64 (s 2),.int .i64 (s 3),uC,uE,uI,.int .i64 (g 0),.int .i64 (g 1),.int .i64 (g 2),.int .i64 (g 3)]] x (Says x (.bool true))):=fun x hx=>same7_alike s g c E I _ _ _ _ _ _ nC nE nI x ((uh hN4).lis.on hx) ((uh hLU4).on hx) (by have:=(uh hN4).may.2.2.2.2.2;omega) (by have:=(uh hN4).most;have:=uh HL;omega)
  clear hX HsB4 HsR
  refine wp_region_till (h:=29) (S:=fun x=>Hid (wX.grownBy x none)) (by kernel_rfl) ?_
  refine wtk (i:=0) (v:=?_) [1,3,5,12,17,21,24,29] rfl (by kernel_rfl) (by kernel_rfl) (by kernel_rfl) (by kernel_rfl) (fun _ _ _ h=>h) hS0 (Or.inl ⟨by rfl,?_⟩) ?_
  rotate_left
  ·intro x hSx
   obtain ⟨b0,b1,b2,b3,b4,b5,b6,b7,b8,b9,b10⟩:=uh rw_ x (uh hSx)
   clear hSx
   go_simp
   try with_reducible rfl
  simp only [Act.put,List.getElem_toArray,List.getElem_cons_zero,List.setIfInBounds_toArray,List.set_cons_succ,List.set_cons_zero]
  refine wtk (i:=2) (v:=?_) [3,5,12,17,21,24,29] rfl (by kernel_rfl) (by kernel_rfl) (by kernel_rfl) (by kernel_rfl) (fun _ _ _ h=>h) hS0 (Or.inl ⟨by rfl,?_⟩) ?_
  rotate_left
  ·intro x hSx
   obtain ⟨b0,b1,b2,b3,b4,b5,b6,b7,b8,b9,b10⟩:=uh ru_ x (uh hSx)
   clear hSx
   go_simp
   try with_reducible rfl
  simp only [Act.put,List.getElem_toArray,List.getElem_cons_zero,List.getElem_cons_succ,List.setIfInBounds_toArray,List.set_cons_succ,List.set_cons_zero]
  refine wto (j:=1) (by kernel_rfl) rfl (fun K hK=>?_)
  go_simp
  refine (uh cK _ (uh hS0)).mono ?_
  rintro e y1 ⟨rfl,hgy⟩
  have hS1:=hide (gtr (uh hS0) hgy)
  clear hgy
  try go_simp
  refine hK.out _ _ (fun _=>hS1) ?_
  clear hK K hS0
  refine wto (j:=3) (by kernel_rfl) rfl (fun K hK=>?_)
  go_simp
  refine (uh cR' _ (uh hS1)).mono ?_
  rintro e y3 ⟨rfl,hgy⟩
  have hS3:=hide (gtr (uh hS1) hgy)
  clear hgy
  try go_simp
  refine hK.out _ _ (fun _=>hS3) ?_
  clear hK K hS1
  refine wtk (i:=4) (v:=?_) [5,12,17,21,24,29] rfl (by kernel_rfl) (by kernel_rfl) (by kernel_rfl) (by kernel_rfl) (fun _ _ _ h=>h) hS3 (Or.inl ⟨by rfl,?_⟩) ?_
  rotate_left
  ·intro x hSx
   clear hSx
   go_simp
   try with_reducible rfl
  simp only [Act.put,List.getElem_toArray,List.getElem_cons_zero,List.getElem_cons_succ,List.setIfInBounds_toArray,List.set_cons_succ,List.set_cons_zero]
  refine wtk (i:=5) (v:=?_) [12,17,21,24,29] rfl (by kernel_rfl) (by kernel_rfl) (by kernel_rfl) (by kernel_rfl) (fun _ _ _ h=>h) hS3 (Or.inl ⟨by rfl,?_⟩) ?_
  rotate_left
  ·intro x hSx
   clear hSx
   go_simp
   try with_reducible rfl
  simp only [Act.put,List.getElem_toArray,List.getElem_cons_zero,List.getElem_cons_succ,List.setIfInBounds_toArray,List.set_cons_succ,List.set_cons_zero]
  refine wtk (i:=6) (v:=?_) [7,10,11,12,17,21,24,29] rfl (by kernel_rfl) (by kernel_rfl) (by kernel_rfl) (by kernel_rfl) (fun _ _ _ h=>h) hS3 (Or.inl ⟨by rfl,?_⟩) ?_
  rotate_left
  ·intro x hSx
   clear hSx
   go_simp
   try with_reducible rfl
  simp only [Act.put,List.getElem_toArray,List.getElem_cons_zero,List.getElem_cons_succ,List.setIfInBounds_toArray,List.set_cons_succ,List.set_cons_zero]
  refine wtk (i:=7) (v:=?_) [10,11,12,17,21,24,29] rfl (by kernel_rfl) (by kernel_rfl) (by kernel_rfl) (by kernel_rfl) (fun _ _ _ h=>h) hS3 (Or.inl ⟨by rfl,?_⟩) ?_
  rotate_left
  ·intro x hSx
   have u0:=uh t1 x (uh hSx)
   clear hSx
   go_simp
   try with_reducible rfl
  simp only [Act.put,List.getElem_toArray,List.getElem_cons_zero,List.getElem_cons_succ,List.setIfInBounds_toArray,List.set_cons_succ,List.set_cons_zero]
  refine wtk (i:=8) (v:=?_) [9,10,11,12,17,21,24,29] rfl (by kernel_rfl) (by kernel_rfl) (by kernel_rfl) (by kernel_rfl) (fun _ _ _ h=>h) hS3 (Or.inl ⟨by rfl,?_⟩) ?_
  rotate_left
  ·intro x hSx
   clear hSx
   go_simp
   try with_reducible rfl
  simp only [Act.put,List.getElem_toArray,List.getElem_cons_zero,List.getElem_cons_succ,List.setIfInBounds_toArray,List.set_cons_succ,List.set_cons_zero]
  refine wtk (i:=9) (v:=?_) [10,11,12,17,21,24,29] rfl (by kernel_rfl) (by kernel_rfl) (by kernel_rfl) (by kernel_rfl) (fun _ _ _ h=>h) hS3 (Or.inl ⟨by rfl,?_⟩) ?_
  rotate_left
  ·intro x hSx
   have u0:=uh t2 x (uh hSx)
   clear hSx
   go_simp
   try with_reducible rfl
  simp only [Act.put,List.getElem_toArray,List.getElem_cons_zero,List.getElem_cons_succ,List.setIfInBounds_toArray,List.set_cons_succ,List.set_cons_zero]
  refine wtk (i:=10) (v:=?_) [11,12,17,21,24,29] rfl (by kernel_rfl) (by kernel_rfl) (by kernel_rfl) (by kernel_rfl) (fun _ _ _ h=>h) hS3 (Or.inl ⟨by rfl,?_⟩) ?_
  rotate_left
  ·intro x hSx
   clear hSx
   go_simp
   try with_reducible rfl
  simp only [Act.put,List.getElem_toArray,List.getElem_cons_zero,List.getElem_cons_succ,List.setIfInBounds_toArray,List.set_cons_succ,List.set_cons_zero]
  refine wtk (i:=11) (v:=?_) [12,17,21,24,29] rfl (by kernel_rfl) (by kernel_rfl) (by kernel_rfl) (by kernel_rfl) (fun _ _ _ h=>h) hS3 (Or.inl ⟨by rfl,?_⟩) ?_
  rotate_left
  ·intro x hSx
   clear hSx
   go_simp
   try with_reducible rfl
  simp only [Act.put,List.getElem_toArray,List.getElem_cons_zero,List.getElem_cons_succ,List.setIfInBounds_toArray,List.set_cons_succ,List.set_cons_zero]
  refine wtk (i:=12) (v:=?_) [17,21,24,29] rfl (by kernel_rfl) (by kernel_rfl) (by kernel_rfl) (by kernel_rfl) (fun _ _ _ h=>h) hS3 (Or.inl ⟨by rfl,?_⟩) ?_
  rotate_left
  ·intro x hSx
   clear hSx
   go_simp
   try with_reducible rfl
  simp only [Act.put,List.getElem_toArray,List.getElem_cons_zero,List.getElem_cons_succ,List.setIfInBounds_toArray,List.set_cons_succ,List.set_cons_zero]
  refine wtk (i:=13) (v:=?_) [15,16,17,21,24,29] rfl (by kernel_rfl) (by kernel_rfl) (by kernel_rfl) (by kernel_rfl) (fun _ _ _ h=>h) hS3 (Or.inl ⟨by rfl,?_⟩) ?_
  rotate_left
  ·intro x hSx
   clear hSx
   go_simp
   try with_reducible rfl
  simp only [Act.put,List.getElem_toArray,List.getElem_cons_zero,List.getElem_cons_succ,List.setIfInBounds_toArray,List.set_cons_succ,List.set_cons_zero]
  refine wtk (i:=14) (v:=?_) [15,16,17,21,24,29] rfl (by kernel_rfl) (by kernel_rfl) (by kernel_rfl) (by kernel_rfl) (fun _ _ _ h=>h) hS3 (Or.inl ⟨by rfl,?_⟩) ?_
  rotate_left
  ·intro x hSx
   clear hSx
   go_simp
   try with_reducible rfl
  simp only [Act.put,List.getElem_toArray,List.getElem_cons_zero,List.getElem_cons_succ,List.setIfInBounds_toArray,List.set_cons_succ,List.set_cons_zero]
  refine wtk (i:=15) (v:=?_) [16,17,21,24,29] rfl (by kernel_rfl) (by kernel_rfl) (by kernel_rfl) (by kernel_rfl) (fun _ _ _ h=>h) hS3 (Or.inl ⟨by rfl,?_⟩) ?_
  rotate_left
  ·intro x hSx
   clear hSx
   go_simp
   try with_reducible rfl
  simp only [Act.put,List.getElem_toArray,List.getElem_cons_zero,List.getElem_cons_succ,List.setIfInBounds_toArray,List.set_cons_succ,List.set_cons_zero]
  refine wtk (i:=16) (v:=?_) [17,21,24,29] rfl (by kernel_rfl) (by kernel_rfl) (by kernel_rfl) (by kernel_rfl) (fun _ _ _ h=>h) hS3 (Or.inl ⟨by rfl,?_⟩) ?_
  rotate_left
  ·intro x hSx
   clear hSx
   go_simp
   try with_reducible rfl
  simp only [Act.put,List.getElem_toArray,List.getElem_cons_zero,List.getElem_cons_succ,List.setIfInBounds_toArray,List.set_cons_succ,List.set_cons_zero]
  refine wtk (i:=17) (v:=?_) [21,24,29] rfl (by kernel_rfl) (by kernel_rfl) (by kernel_rfl) (by kernel_rfl) (fun _ _ _ h=>h) hS3 (Or.inl ⟨by rfl,?_⟩) ?_
  rotate_left
  ·intro x hSx
   clear hSx
   go_simp
   try with_reducible rfl
  simp only [Act.put,List.getElem_toArray,List.getElem_cons_zero,List.getElem_cons_succ,List.setIfInBounds_toArray,List.set_cons_succ,List.set_cons_zero]
  refine wtk (i:=18) (v:=?_) [19,21,24,29] rfl (by kernel_rfl) (by kernel_rfl) (by kernel_rfl) (by kernel_rfl) (fun _ _ _ h=>h) hS3 (Or.inl ⟨by rfl,?_⟩) ?_
  rotate_left
  ·intro x hSx
   obtain ⟨b0,b1,b2,b3,b4,b5,b6,b7,b8,b9,b10⟩:=uh rw_ x (uh hSx)
   clear hSx
   go_simp
   try with_reducible rfl
  simp only [Act.put,List.getElem_toArray,List.getElem_cons_zero,List.getElem_cons_succ,List.setIfInBounds_toArray,List.set_cons_succ,List.set_cons_zero]
  refine wtk (i:=20) (v:=?_) [21,24,29] rfl (by kernel_rfl) (by kernel_rfl) (by kernel_rfl) (by kernel_rfl) (fun _ _ _ h=>h) hS3 (Or.inl ⟨by rfl,?_⟩) ?_
  rotate_left
  ·intro x hSx
   obtain ⟨b0,b1,b2,b3,b4,b5,b6,b7,b8,b9,b10⟩:=uh ru_ x (uh hSx)
   clear hSx
   go_simp
   try with_reducible rfl
  simp only [Act.put,List.getElem_toArray,List.getElem_cons_zero,List.getElem_cons_succ,List.setIfInBounds_toArray,List.set_cons_succ,List.set_cons_zero]
  refine wto (j:=19) (by kernel_rfl) rfl (fun K hK=>?_)
  go_simp
  refine (uh cD _ (uh hS3)).mono ?_
  rintro e y19 ⟨rfl,hgy⟩
  have hS19:=hide (gtr (uh hS3) hgy)
  clear hgy
  try go_simp
  refine hK.out _ _ (fun _=>hS19) ?_
  clear hK K hS3
  refine wto (j:=21) (by kernel_rfl) rfl (fun K hK=>?_)
  go_simp
  refine (uh cE' _ (uh hS19)).mono ?_
  rintro e y21 ⟨rfl,hgy⟩
  have hS21:=hide (gtr (uh hS19) hgy)
  clear hgy
  try go_simp
  refine hK.out _ _ (fun _=>hS21) ?_
  clear hK K hS19
  refine wtk (i:=22) (v:=?_) [23,24,29] rfl (by kernel_rfl) (by kernel_rfl) (by kernel_rfl) (by kernel_rfl) (fun _ _ _ h=>h) hS21 (Or.inl ⟨by rfl,?_⟩) ?_
  rotate_left
  ·intro x hSx
   clear hSx
   go_simp
   try with_reducible rfl
  simp only [Act.put,List.getElem_toArray,List.getElem_cons_zero,List.getElem_cons_succ,List.setIfInBounds_toArray,List.set_cons_succ,List.set_cons_zero]
  refine wtk (i:=23) (v:=?_) [24,29] rfl (by kernel_rfl) (by kernel_rfl) (by kernel_rfl) (by kernel_rfl) (fun _ _ _ h=>h) hS21 (Or.inl ⟨by rfl,?_⟩) ?_
  rotate_left
  ·intro x hSx
   clear hSx
   go_simp
   try with_reducible rfl
  simp only [Act.put,List.getElem_toArray,List.getElem_cons_zero,List.getElem_cons_succ,List.setIfInBounds_toArray,List.set_cons_succ,List.set_cons_zero]
  refine wtk (i:=24) (v:=?_) [29] rfl (by kernel_rfl) (by kernel_rfl) (by kernel_rfl) (by kernel_rfl) (fun _ _ _ h=>h) hS21 (Or.inl ⟨by rfl,?_⟩) ?_
  rotate_left
  ·intro x hSx
   clear hSx
   go_simp
   try with_reducible rfl
  simp only [Act.put,List.getElem_toArray,List.getElem_cons_zero,List.getElem_cons_succ,List.setIfInBounds_toArray,List.set_cons_succ,List.set_cons_zero]
  refine wtk (i:=25) (v:=?_) [27,28,29] rfl (by kernel_rfl) (by kernel_rfl) (by kernel_rfl) (by kernel_rfl) (fun _ _ _ h=>h) hS21 (Or.inl ⟨by rfl,?_⟩) ?_
  rotate_left
  ·intro x hSx
   obtain ⟨b0,b1,b2,b3,b4,b5,b6,b7,b8,b9,b10⟩:=uh rw_ x (uh hSx)
   clear hSx
   go_simp
   try with_reducible rfl
  simp only [Act.put,List.getElem_toArray,List.getElem_cons_zero,List.getElem_cons_succ,List.setIfInBounds_toArray,List.set_cons_succ,List.set_cons_zero]
  refine wtk (i:=26) (v:=?_) [27,28,29] rfl (by kernel_rfl) (by kernel_rfl) (by kernel_rfl) (by kernel_rfl) (fun _ _ _ h=>h) hS21 (Or.inl ⟨by rfl,?_⟩) ?_
  rotate_left
  ·intro x hSx
   obtain ⟨b0,b1,b2,b3,b4,b5,b6,b7,b8,b9,b10⟩:=uh ru_ x (uh hSx)
   clear hSx
   go_simp
   try with_reducible rfl
  simp only [Act.put,List.getElem_toArray,List.getElem_cons_zero,List.getElem_cons_succ,List.setIfInBounds_toArray,List.set_cons_succ,List.set_cons_zero]
  refine wto (j:=27) (by kernel_rfl) rfl (fun K hK=>?_)
  go_simp
  refine (uh cS _ (uh hS21)).mono ?_
  rintro e y27 ⟨rfl,hgy⟩
  have hS27:=hide (gtr (uh hS21) hgy)
  clear hgy
  try go_simp
  refine hK.out _ _ (fun _=>hS27) ?_
  clear hK K hS21
  refine wtk (i:=28) (v:=?_) [29] rfl (by kernel_rfl) (by kernel_rfl) (by kernel_rfl) (by kernel_rfl) (fun _ _ _ h=>h) hS27 (Or.inl ⟨by rfl,?_⟩) ?_
  rotate_left
  ·intro x hSx
   clear hSx
   go_simp
   try with_reducible rfl
  simp only [Act.put,List.getElem_toArray,List.getElem_cons_zero,List.getElem_cons_succ,List.setIfInBounds_toArray,List.set_cons_succ,List.set_cons_zero]
  refine wto (j:=29) (by kernel_rfl) rfl (fun K hK=>?_)
  go_simp
  refine hK.out _ _ (fun hx=>absurd (hx.symm.trans (by kernel_rfl)) Bool.false_ne_true) ?_
  clear hK K
  refine wpTill_done (by kernel_rfl) ?_ _
  have hNd:=hide ((uh hN4).on (uh hS27))
  have hUd:=hide ((uh hU4).on (uh hS27))
  have hLUd:=hide ((uh hLU4).on (uh hS27))
  have hBd:Hid (R=0→∃G,aB=some ⟨G,0,none⟩∧nB=918∧∃b,Sn.Buf b y27 G 918 cB l):=fun h=>by
   obtain ⟨G,h1,h2,b,h3⟩:=uh hBf h
   exact ⟨G,h1,h2,b,h3.on (uh hS27)⟩
  clear hS27 rw_ ru_ t1 t2 cK cR' cD cE' cS hN4 hU4 hLU4 hBf
  go_upto_if 79 with fail
  go_cut [] from 79 to 116 (fun wx=>Hid (Sn.Now w1 wx T a0 k0 iE iC t s g c E I vC vE vI nC nE nI))
  case first =>
   by_cases h0:R=0
   case neg =>
    have h0':(R == 0)=false:=by simp [h0]
    clear h0
    go_wp2_with fail
    go_meet
    exact hNd
   subst h0
   obtain ⟨f1,f2,f3,hChk,hlb⟩:=(uh hSn).full rfl
   subst f1
   subst f2
   subst f3
   subst hlb
   have hNd':=hide hNd
   obtain ⟨gC,gE,gI,cC,cE,cI,rfl,rfl,rfl,hcE,hLw0⟩:=(uh hNd).lis.lists
   obtain ⟨hC,hE,hI,dC,dE,dI,rfl,rfl,rfl,-,hLu0⟩:=(uh hLUd).lists
   obtain ⟨Gb,rfl,rfl,bb,hBuf⟩:=uh hBd rfl
   have hBuf':=hide hBuf
   have hChk':=hide hChk
   have hLw:=hide hLw0
   have hLu:=hide hLu0
   have hby:=hide (uh hNd).byte
   have hgy1:=hide (uh hNd).grown
   obtain ⟨wX,hwX⟩:∃wX,y27=wX:=⟨_,rfl⟩
   rw [hwX] at hNd hUd hLw hLu hBuf' hgy1 ⊢
   clear hwX hBuf hChk hLw0 hLu0 hBd hLUd hSn hNd'
   have rw_:Hid (∀x,wX.grownBy x none→x.cell? ⟨T,0,none⟩=some (.int .i64 (s 0))∧x.cell? ⟨T,1,none⟩=some (.int .i64 (s 1))∧x.cell? ⟨T,2,none⟩=some (.int .i64 (s 2))∧x.cell? ⟨T,3,none⟩=some (.int .i64 (s 3))∧x.cell? ⟨T,4,none⟩=some (.slice (some ⟨gC,0,none⟩) 384 cC)∧x.cell? ⟨T,5,none⟩=some (.slice (some ⟨gE,0,none⟩) 32 cE)∧x.cell? ⟨T,6,none⟩=some (.slice (some ⟨gI,0,none⟩) 40 cI)∧x.cell? ⟨T,7,none⟩=some (.int .i64 (g 0))∧x.cell? ⟨T,8,none⟩=some (.int .i64 (g 1))∧x.cell? ⟨T,9,none⟩=some (.int .i64 (g 2))∧x.cell? ⟨T,10,none⟩=some (.int .i64 (g 3))):=fun x hx=>Sn.wbox_cells ((uh hNd).box.on hx)
   have ru_:Hid (∀x,wX.grownBy x none→x.cell? ⟨U,0,none⟩=some (.int .i64 (s 0))∧x.cell? ⟨U,1,none⟩=some (.int .i64 (s 1))∧x.cell? ⟨U,2,none⟩=some (.int .i64 (s 2))∧x.cell? ⟨U,3,none⟩=some (.int .i64 (s 3))∧x.cell? ⟨U,4,none⟩=some (.slice (some ⟨hC,0,none⟩) 384 dC)∧x.cell? ⟨U,5,none⟩=some (.slice (some ⟨hE,0,none⟩) 32 dE)∧x.cell? ⟨U,6,none⟩=some (.slice (some ⟨hI,0,none⟩) 40 dI)∧x.cell? ⟨U,7,none⟩=some (.int .i64 (g 0))∧x.cell? ⟨U,8,none⟩=some (.int .i64 (g 1))∧x.cell? ⟨U,9,none⟩=some (.int .i64 (g 2))∧x.cell? ⟨U,10,none⟩=some (.int .i64 (g 3))):=fun x hx=>Sn.wbox_cells ((uh hUd).on hx)
   have cT:Hid (∀x,wX.grownBy x none→Calls Tryz.prog 15 #[.agg #[.int .i64 (s 0),.int .i64 (s 1),.int .i64 (s 2),.int .i64 (s 3),.slice (some ⟨gC,0,none⟩) 384 cC,.slice (some ⟨gE,0,none⟩) 32 cE,.slice (some ⟨gI,0,none⟩) 40 cI,.int .i64 (g 0),.int .i64 (g 1),.int .i64 (g 2),.int .i64 (g 3)]] x fun e w'=>∃tC tE tI oC oE oI,e=.returned (.agg #[.int .i64 (s 0),.int .i64 (s 1),.int .i64 (s 2),.int .i64 (s 3),.slice (some ⟨tC,0,none⟩) 384 oC,.slice (some ⟨tE,0,none⟩) 32 oE,.slice (some ⟨tI,0,none⟩) 40 oI,.int .i64 (g 0),.int .i64 (g 1),.int .i64 (g 2),.int .i64 (g 3)])∧Gd.Lists w' tC tE tI c E I∧x.grownBy w' none):=fun x hx=>(snTwin_any s g c E I gC gE gI cC cE cI x ((uh hLw).on hx)).mono fun e w' ⟨tC,tE,tI,oC,oE,oI,h1,_,_,_,_,_,_,_,h2,h3⟩=>⟨tC,tE,tI,oC,oE,oI,h1,h2,h3⟩
   have cS1:Hid (∀x tC tE tI oC oE oI,wX.grownBy x none→Gd.Lists x tC tE tI c E I→Calls Tryz.prog 14 #[.agg #[.int .i64 (s 0),.int .i64 (s 1),.int .i64 (s 2),.int .i64 (s 3),.slice (some ⟨tC,0,none⟩) 384 oC,.slice (some ⟨tE,0,none⟩) 32 oE,.slice (some ⟨tI,0,none⟩) 40 oI,.int .i64 (g 0),.int .i64 (g 1),.int .i64 (g 2),.int .i64 (g 3)],.agg #[.int .i64 (s 0),.int .i64 (s 1),.int .i64 (s 2),.int .i64 (s 3),.slice (some ⟨hC,0,none⟩) 384 dC,.slice (some ⟨hE,0,none⟩) 32 dE,.slice (some ⟨hI,0,none⟩) 40 dI,.int .i64 (g 0),.int .i64 (g 1),.int .i64 (g 2),.int .i64 (g 3)]] x (Says x (.bool true))):=fun x tC tE tI oC oE oI hx hT=>same7_any s g c E I tC tE tI oC oE oI hC hE hI dC dE dI x hT ((uh hLu).on hx)
   have cS2:Hid (∀x,wX.grownBy x none→Calls Tryz.prog 16 #[.agg #[.int .i64 (s 0),.int .i64 (s 1),.int .i64 (s 2),.int .i64 (s 3),.slice (some ⟨gC,0,none⟩) 384 cC,.slice (some ⟨gE,0,none⟩) 32 cE,.slice (some ⟨gI,0,none⟩) 40 cI,.int .i64 (g 0),.int .i64 (g 1),.int .i64 (g 2),.int .i64 (g 3)],.agg #[.int .i64 (s 0),.int .i64 (s 1),.int .i64 (s 2),.int .i64 (s 3),.slice (some ⟨hC,0,none⟩) 384 dC,.slice (some ⟨hE,0,none⟩) 32 dE,.slice (some ⟨hI,0,none⟩) 40 dI,.int .i64 (g 0),.int .i64 (g 1),.int .i64 (g 2),.int .i64 (g 3)]] x (Says x (.bool true))):=fun x hx=>by
    have h:=snSame_any s s g g c c E E I I gC gE gI cC cE cI hC hE hI dC dE dI x ((uh hLw).on hx) ((uh hLu).on hx)
    rw [Sn.sameW_yes] at h
    exact h
   obtain ⟨bs,hbs⟩:∃b,Sn.sameW s sP g gP c cP E eP I iP=b:=⟨_,rfl⟩
   have cS3:Hid (∀x,wX.grownBy x none→Calls Tryz.prog 16 #[.agg #[.int .i64 (s 0),.int .i64 (s 1),.int .i64 (s 2),.int .i64 (s 3),.slice (some ⟨gC,0,none⟩) 384 cC,.slice (some ⟨gE,0,none⟩) 32 cE,.slice (some ⟨gI,0,none⟩) 40 cI,.int .i64 (g 0),.int .i64 (g 1),.int .i64 (g 2),.int .i64 (g 3)],.agg #[.int .i64 (sP 0),.int .i64 (sP 1),.int .i64 (sP 2),.int .i64 (sP 3),.slice (some ⟨pC,0,none⟩) 384 jC,.slice (some ⟨pE,0,none⟩) 32 jE,.slice (some ⟨pI,0,none⟩) 40 jI,.int .i64 (gP 0),.int .i64 (gP 1),.int .i64 (gP 2),.int .i64 (gP 3)]] x (Says x (.bool bs))):=fun x hx=>by
    have h:=snSame_any s sP g gP c cP E eP I iP gC gE gI cC cE cI pC pE pI jC jE jI x ((uh hLw).on hx) ((uh hFP).2 x (gtr (uh hgy1) hx)).2
    rw [hbs] at h
    exact h
   have cS4:Hid (∀x,wX.grownBy x none→Calls Tryz.prog 14 #[.agg #[.int .i64 (s 0),.int .i64 (s 1),.int .i64 (s 2),.int .i64 (s 3),.slice (some ⟨gC,0,none⟩) 384 cC,.slice (some ⟨gE,0,none⟩) 32 cE,.slice (some ⟨gI,0,none⟩) 40 cI,.int .i64 (g 0),.int .i64 (g 1),.int .i64 (g 2),.int .i64 (g 3)],.agg #[.int .i64 (sP 0),.int .i64 (sP 1),.int .i64 (sP 2),.int .i64 (sP 3),.slice (some ⟨pC,0,none⟩) 384 jC,.slice (some ⟨pE,0,none⟩) 32 jE,.slice (some ⟨pI,0,none⟩) 40 jI,.int .i64 (gP 0),.int .i64 (gP 1),.int .i64 (gP 2),.int .i64 (gP 3)]] x (Says x (.bool bs))):=fun x hx=>by
    have h:=same7_two s sP g gP c cP E eP I iP gC gE gI cC cE cI pC pE pI jC jE jI x ((uh hLw).on hx) ((uh hFP).2 x (gtr (uh hgy1) hx)).2 (uh hby) (uh hFP).1
    rw [hbs] at h
    exact h
   have rp_:Hid (∀x,wX.grownBy x none→x.cell? ⟨q,0,none⟩=some (.int .i64 (sP 0))∧x.cell? ⟨q,1,none⟩=some (.int .i64 (sP 1))∧x.cell? ⟨q,2,none⟩=some (.int .i64 (sP 2))∧x.cell? ⟨q,3,none⟩=some (.int .i64 (sP 3))∧x.cell? ⟨q,4,none⟩=some (.slice (some ⟨pC,0,none⟩) 384 jC)∧x.cell? ⟨q,5,none⟩=some (.slice (some ⟨pE,0,none⟩) 32 jE)∧x.cell? ⟨q,6,none⟩=some (.slice (some ⟨pI,0,none⟩) 40 jI)∧x.cell? ⟨q,7,none⟩=some (.int .i64 (gP 0))∧x.cell? ⟨q,8,none⟩=some (.int .i64 (gP 1))∧x.cell? ⟨q,9,none⟩=some (.int .i64 (gP 2))∧x.cell? ⟨q,10,none⟩=some (.int .i64 (gP 3))):=fun x hx=>((uh hFP).2 x (gtr (uh hgy1) hx)).1
   clear hbs
   go_upto_region 14 with fail
   have hS0:Hid (wX.grownBy wX.drew none):=gd1 (World.grownBy.refl wX none)
   refine wp_region_till (h:=23) (S:=fun x=>Hid (wX.grownBy x none)) (by kernel_rfl) ?_
   refine wtk (i:=0) (v:=?_) [1,3,5,8,11,23] rfl (by kernel_rfl) (by kernel_rfl) (by kernel_rfl) (by kernel_rfl) (fun _ _ _ h=>h) hS0 (Or.inl ⟨by rfl,?_⟩) ?_
   rotate_left
   ·intro x hSx
    obtain ⟨b0,b1,b2,b3,b4,b5,b6,b7,b8,b9,b10⟩:=uh rw_ x (uh hSx)
    clear hSx
    go_simp
    try with_reducible rfl
   simp only [Act.put,List.getElem_toArray,List.getElem_cons_zero,List.setIfInBounds_toArray,List.set_cons_succ,List.set_cons_zero]
   refine wtk (i:=2) (v:=?_) [3,5,8,11,23] rfl (by kernel_rfl) (by kernel_rfl) (by kernel_rfl) (by kernel_rfl) (fun _ _ _ h=>h) hS0 (Or.inl ⟨by rfl,?_⟩) ?_
   rotate_left
   ·intro x hSx
    obtain ⟨b0,b1,b2,b3,b4,b5,b6,b7,b8,b9,b10⟩:=uh ru_ x (uh hSx)
    clear hSx
    go_simp
    try with_reducible rfl
   simp only [Act.put,List.getElem_toArray,List.getElem_cons_zero,List.getElem_cons_succ,List.setIfInBounds_toArray,List.set_cons_succ,List.set_cons_zero]
   refine wto (j:=1) (by kernel_rfl) rfl (fun K hK=>?_)
   go_simp
   refine (uh cT _ (uh hS0)).mono ?_
   rintro e y1 ⟨tC,tE,tI,oC,oE,oI,rfl,hTw,hgy⟩
   have hS1:=hide (gtr (uh hS0) hgy)
   have hTw1:=hide hTw
   clear hTw
   clear hgy
   try go_simp
   refine hK.out _ _ (fun _=>hS1) ?_
   clear hK K hS0
   refine wto (j:=3) (by kernel_rfl) rfl (fun K hK=>?_)
   go_simp
   refine (uh cS1 _ tC tE tI oC oE oI (uh hS1) (uh hTw1)).mono ?_
   rintro e y3 ⟨rfl,hgy⟩
   have hS3:=hide (gtr (uh hS1) hgy)
   clear hTw1
   clear hgy
   try go_simp
   refine hK.out _ _ (fun _=>hS3) ?_
   clear hK K hS1
   refine wtk (i:=4) (v:=?_) [5,8,11,23] rfl (by kernel_rfl) (by kernel_rfl) (by kernel_rfl) (by kernel_rfl) (fun _ _ _ h=>h) hS3 (Or.inl ⟨by rfl,?_⟩) ?_
   rotate_left
   ·intro x hSx
    clear hSx
    go_simp
    try with_reducible rfl
   simp only [Act.put,List.getElem_toArray,List.getElem_cons_zero,List.getElem_cons_succ,List.setIfInBounds_toArray,List.set_cons_succ,List.set_cons_zero]
   refine wtk (i:=5) (v:=?_) [8,11,23] rfl (by kernel_rfl) (by kernel_rfl) (by kernel_rfl) (by kernel_rfl) (fun _ _ _ h=>h) hS3 (Or.inl ⟨by rfl,?_⟩) ?_
   rotate_left
   ·intro x hSx
    clear hSx
    go_simp
    try with_reducible rfl
   simp only [Act.put,List.getElem_toArray,List.getElem_cons_zero,List.getElem_cons_succ,List.setIfInBounds_toArray,List.set_cons_succ,List.set_cons_zero]
   refine wtk (i:=6) (v:=?_) [8,11,23] rfl (by kernel_rfl) (by kernel_rfl) (by kernel_rfl) (by kernel_rfl) (fun _ _ _ h=>h) hS3 (Or.inl ⟨by rfl,?_⟩) ?_
   rotate_left
   ·intro x hSx
    obtain ⟨b0,b1,b2,b3,b4,b5,b6,b7,b8,b9,b10⟩:=uh rw_ x (uh hSx)
    clear hSx
    go_simp
    try with_reducible rfl
   simp only [Act.put,List.getElem_toArray,List.getElem_cons_zero,List.getElem_cons_succ,List.setIfInBounds_toArray,List.set_cons_succ,List.set_cons_zero]
   refine wtk (i:=7) (v:=?_) [8,11,23] rfl (by kernel_rfl) (by kernel_rfl) (by kernel_rfl) (by kernel_rfl) (fun _ _ _ h=>h) hS3 (Or.inl ⟨by rfl,?_⟩) ?_
   rotate_left
   ·intro x hSx
    obtain ⟨b0,b1,b2,b3,b4,b5,b6,b7,b8,b9,b10⟩:=uh ru_ x (uh hSx)
    clear hSx
    go_simp
    try with_reducible rfl
   simp only [Act.put,List.getElem_toArray,List.getElem_cons_zero,List.getElem_cons_succ,List.setIfInBounds_toArray,List.set_cons_succ,List.set_cons_zero]
   refine wto (j:=8) (by kernel_rfl) rfl (fun K hK=>?_)
   go_simp
   refine (uh cS2 _ (uh hS3)).mono ?_
   rintro e y8 ⟨rfl,hgy⟩
   have hS8:=hide (gtr (uh hS3) hgy)
   clear hgy
   try go_simp
   refine hK.out _ _ (fun _=>hS8) ?_
   clear hK K hS3
   refine wtk (i:=9) (v:=?_) [10,11,23] rfl (by kernel_rfl) (by kernel_rfl) (by kernel_rfl) (by kernel_rfl) (fun _ _ _ h=>h) hS8 (Or.inl ⟨by rfl,?_⟩) ?_
   rotate_left
   ·intro x hSx
    clear hSx
    go_simp
    try with_reducible rfl
   simp only [Act.put,List.getElem_toArray,List.getElem_cons_zero,List.getElem_cons_succ,List.setIfInBounds_toArray,List.set_cons_succ,List.set_cons_zero]
   refine wtk (i:=10) (v:=?_) [11,23] rfl (by kernel_rfl) (by kernel_rfl) (by kernel_rfl) (by kernel_rfl) (fun _ _ _ h=>h) hS8 (Or.inl ⟨by rfl,?_⟩) ?_
   rotate_left
   ·intro x hSx
    clear hSx
    go_simp
    try with_reducible rfl
   simp only [Act.put,List.getElem_toArray,List.getElem_cons_zero,List.getElem_cons_succ,List.setIfInBounds_toArray,List.set_cons_succ,List.set_cons_zero]
   refine wtk (i:=11) (v:=?_) [23] rfl (by kernel_rfl) (by kernel_rfl) (by kernel_rfl) (by kernel_rfl) (fun _ _ _ h=>h) hS8 (Or.inl ⟨by rfl,?_⟩) ?_
   rotate_left
   ·intro x hSx
    clear hSx
    go_simp
    try with_reducible rfl
   simp only [Act.put,List.getElem_toArray,List.getElem_cons_zero,List.getElem_cons_succ,List.setIfInBounds_toArray,List.set_cons_succ,List.set_cons_zero]
   refine wtk (i:=12) (v:=?_) [16,22,23] rfl (by kernel_rfl) (by kernel_rfl) (by kernel_rfl) (by kernel_rfl) (fun _ _ _ h=>h) hS8 (Or.inl ⟨by rfl,?_⟩) ?_
   rotate_left
   ·intro x hSx
    obtain ⟨b0,b1,b2,b3,b4,b5,b6,b7,b8,b9,b10⟩:=uh rw_ x (uh hSx)
    clear hSx
    go_simp
    try with_reducible rfl
   simp only [Act.put,List.getElem_toArray,List.getElem_cons_zero,List.getElem_cons_succ,List.setIfInBounds_toArray,List.set_cons_succ,List.set_cons_zero]
   refine wtk (i:=13) (v:=?_) [14,15,16,22,23] rfl (by kernel_rfl) (by kernel_rfl) (by kernel_rfl) (by kernel_rfl) (fun _ _ _ h=>h) hS8 (Or.inl ⟨by rfl,?_⟩) ?_
   rotate_left
   ·intro x hSx
    clear hSx
    go_simp
    try with_reducible rfl
   simp only [Act.put,List.getElem_toArray,List.getElem_cons_zero,List.getElem_cons_succ,List.setIfInBounds_toArray,List.set_cons_succ,List.set_cons_zero]
   refine wtk (i:=14) (v:=?_) [15,16,22,23] rfl (by kernel_rfl) (by kernel_rfl) (by kernel_rfl) (by kernel_rfl) (fun _ _ _ h=>h) hS8 (Or.inl ⟨by rfl,?_⟩) ?_
   rotate_left
   ·intro x hSx
    clear hSx
    go_simp
    try with_reducible rfl
   simp only [Act.put,List.getElem_toArray,List.getElem_cons_zero,List.getElem_cons_succ,List.setIfInBounds_toArray,List.set_cons_succ,List.set_cons_zero]
   refine wtk (i:=15) (v:=?_) [16,22,23] rfl (by kernel_rfl) (by kernel_rfl) (by kernel_rfl) (by kernel_rfl) (fun _ _ _ h=>h) hS8 (Or.inl ⟨by rfl,?_⟩) ?_
   rotate_left
   ·intro x hSx
    obtain ⟨b0,b1,b2,b3,b4,b5,b6,b7,b8,b9,b10⟩:=uh rp_ x (uh hSx)
    clear hSx
    go_simp
    try with_reducible rfl
   simp only [Act.put,List.getElem_toArray,List.getElem_cons_zero,List.getElem_cons_succ,List.setIfInBounds_toArray,List.set_cons_succ,List.set_cons_zero]
   refine wtk (i:=17) (v:=?_) [21,22,23] rfl (by kernel_rfl) (by kernel_rfl) (by kernel_rfl) (by kernel_rfl) (fun _ _ _ h=>h) hS8 (Or.inl ⟨by rfl,?_⟩) ?_
   rotate_left
   ·intro x hSx
    obtain ⟨b0,b1,b2,b3,b4,b5,b6,b7,b8,b9,b10⟩:=uh rw_ x (uh hSx)
    clear hSx
    go_simp
    try with_reducible rfl
   simp only [Act.put,List.getElem_toArray,List.getElem_cons_zero,List.getElem_cons_succ,List.setIfInBounds_toArray,List.set_cons_succ,List.set_cons_zero]
   refine wtk (i:=18) (v:=?_) [19,20,21,22,23] rfl (by kernel_rfl) (by kernel_rfl) (by kernel_rfl) (by kernel_rfl) (fun _ _ _ h=>h) hS8 (Or.inl ⟨by rfl,?_⟩) ?_
   rotate_left
   ·intro x hSx
    clear hSx
    go_simp
    try with_reducible rfl
   simp only [Act.put,List.getElem_toArray,List.getElem_cons_zero,List.getElem_cons_succ,List.setIfInBounds_toArray,List.set_cons_succ,List.set_cons_zero]
   refine wtk (i:=19) (v:=?_) [20,21,22,23] rfl (by kernel_rfl) (by kernel_rfl) (by kernel_rfl) (by kernel_rfl) (fun _ _ _ h=>h) hS8 (Or.inl ⟨by rfl,?_⟩) ?_
   rotate_left
   ·intro x hSx
    clear hSx
    go_simp
    try with_reducible rfl
   simp only [Act.put,List.getElem_toArray,List.getElem_cons_zero,List.getElem_cons_succ,List.setIfInBounds_toArray,List.set_cons_succ,List.set_cons_zero]
   refine wtk (i:=20) (v:=?_) [21,22,23] rfl (by kernel_rfl) (by kernel_rfl) (by kernel_rfl) (by kernel_rfl) (fun _ _ _ h=>h) hS8 (Or.inl ⟨by rfl,?_⟩) ?_
   rotate_left
   ·intro x hSx
    obtain ⟨b0,b1,b2,b3,b4,b5,b6,b7,b8,b9,b10⟩:=uh rp_ x (uh hSx)
    clear hSx
    go_simp
    try with_reducible rfl
   simp only [Act.put,List.getElem_toArray,List.getElem_cons_zero,List.getElem_cons_succ,List.setIfInBounds_toArray,List.set_cons_succ,List.set_cons_zero]
   refine wto (j:=16) (by kernel_rfl) rfl (fun K hK=>?_)
   go_simp
   refine (uh cS3 _ (uh hS8)).mono ?_
   rintro e y16 ⟨rfl,hgy⟩
   have hS16:=hide (gtr (uh hS8) hgy)
   clear hgy
   try go_simp
   refine hK.out _ _ (fun _=>hS16) ?_
   clear hK K hS8
   refine wto (j:=21) (by kernel_rfl) rfl (fun K hK=>?_)
   go_simp
   refine (uh cS4 _ (uh hS16)).mono ?_
   rintro e y21 ⟨rfl,hgy⟩
   have hS21:=hide (gtr (uh hS16) hgy)
   clear hgy
   try go_simp
   refine hK.out _ _ (fun _=>hS21) ?_
   clear hK K hS16
   refine wtk (i:=22) (v:=?_) [23] rfl (by kernel_rfl) (by kernel_rfl) (by kernel_rfl) (by kernel_rfl) (fun _ _ _ h=>h) hS21 (Or.inl ⟨by rfl,?_⟩) ?_
   rotate_left
   ·intro x hSx
    clear hSx
    go_simp
    try with_reducible rfl
   simp only [Act.put,List.getElem_toArray,List.getElem_cons_zero,List.getElem_cons_succ,List.setIfInBounds_toArray,List.set_cons_succ,List.set_cons_zero]
   refine wto (j:=23) (by kernel_rfl) rfl (fun K hK=>?_)
   go_simp
   refine hK.out _ _ (fun hx=>absurd (hx.symm.trans (by kernel_rfl)) Bool.false_ne_true) ?_
   clear hK K
   refine wpTill_done (by kernel_rfl) ?_ _
   have hN5:=hide ((uh hNd).on (uh hS21))
   have hU5:=hide ((uh hUd).on (uh hS21))
   have hLu5:=hide ((uh hLu).on (uh hS21))
   have hBu5:=hide ((uh hBuf').on (uh hS21))
   have cd:=hide (Sn.decode_chk (uh hChk') (by rw [(uh hNd).seed];exact uh hz64) (uh hby) (uh hBu5))
   clear hS21 rw_ ru_ rp_ cT cS1 cS2 cS3 cS4 hNd hUd hLw hLu hBuf' hBu5 hChk' hgy1
   go_wp2_with fail
   refine (uh cd).mono ?_
   rintro e z1 ⟨u,rfl,kC,kE,kI,lC,lE,lI,hu,-,-,-,-,-,-,-,hLx,hgz⟩
   obtain rfl:u=.agg (Gd.world s kC kE kI lC lE lI g):=by simpa using hu
   obtain ⟨z2,hz2⟩:∃z,z=z1.alloc (.cells (Gd.world s kC kE kI lC lE lI g) 31):=⟨_,rfl⟩
   have gz2:z1.grownBy z2 none:=by rw [hz2];exact World.grownBy_alloc _ _ _
   have hX6:Hid (Lie z2 z1.heap.size 31 11 (Gd.box s kC kE kI lC lE lI g)):=by
    show Lie z2 _ _ _ _
    rw [hz2]
    exact (Arr.world (heap_alloc_new z1 _)).lie
   have hN6:=hide ((uh hN5).on (gtr hgz gz2))
   have hU6:=hide ((uh hU5).on (gtr hgz gz2))
   have cs:=hide (same7_any s g c E I kC kE kI lC lE lI hC hE hI dC dE dI z2 (hLx.on gz2) ((uh hLu5).on (gtr hgz gz2)))
   clear cd hu hLx hgz gz2 hN5 hU5 hLu5 hby
   unfold Gd.world at hz2 cs ⊢
   go_upto_region 17 with fail
   rw [←hz2]
   clear hz2
   obtain ⟨Q,hQe⟩:∃Q,z1.heap.size=Q:=⟨_,rfl⟩
   rw [hQe] at hX6 ⊢
   clear hQe z1
   obtain ⟨b0,b1,b2,b3,b4,b5,b6,b7,b8,b9,b10⟩:=(uh hX6).eleven
   obtain ⟨y0,y1,y2,y3,y4,y5,y6,y7,y8,y9,y10⟩:=Sn.wbox_cells (uh hU6)
   go_wp2_with fail
   refine (uh cs).mono ?_
   rintro e z3 ⟨rfl,hgz⟩
   have hN7:=hide ((uh hN6).on hgz)
   clear cs hgz hN6 hU6 hX6 b0 b1 b2 b3 b4 b5 b6 b7 b8 b9 b10 y0 y1 y2 y3 y4 y5 y6 y7 y8 y9 y10
   go_wp2_with fail
   go_meet
   exact hN7
  case rest =>
   have hN9:Hid (Sn.Now w1 wc T a0 k0 iE iC t s g c E I vC vE vI nC nE nI):=hcut
   clear hcut hNd hUd hLUd hBd hSn
   have csq:=hide (uh csp s g c E I vC vE vI nC nE nI wc (uh hN9).lis (uh hN9).byte (uh hN9).may (by have:=(uh hN9).most;have:=uh HL;omega))
   obtain ⟨b0,b1,b2,b3,b4,b5,b6,b7,b8,b9,b10⟩:=Sn.wbox_cells (uh hN9).box
   unfold Sn.wide at csq
   go_wp2_with fail
   refine (uh csq).mono ?_
   rintro e y4 ⟨s',g',c',E',I',mC,mE,mI,p1,p2,p3,p4,hC,hE,hI,dC,dE,dI,rfl,hNew,hgy⟩
   have hZ:Hid (Sn.Now w1 (((((((((((y4.setCell ⟨T,0,none⟩ (.int .i64 (s' 0))).setCell ⟨T,1,none⟩ (.int .i64 (s' 1))).setCell ⟨T,2,none⟩ (.int .i64 (s' 2))).setCell ⟨T,3,none⟩ (.int .i64 (s' 3))).setCell ⟨T,4,none⟩ (.slice (some ⟨hC,0,none⟩) mC dC)).setCell ⟨T,5,none⟩ (.slice (some ⟨hE,0,none⟩) mE dE)).setCell ⟨T,6,none⟩ (.slice (some ⟨hI,0,none⟩) mI dI)).setCell ⟨T,7,none⟩ (.int .i64 (g' 0))).setCell ⟨T,8,none⟩ (.int .i64 (g' 1))).setCell ⟨T,9,none⟩ (.int .i64 (g' 2))).setCell ⟨T,10,none⟩ (.int .i64 (g' 3))) T a0 k0 iE iC (t+1) s' g' c' E' I' (.slice (some ⟨hC,0,none⟩) mC dC) (.slice (some ⟨hE,0,none⟩) mE dE) (.slice (some ⟨hI,0,none⟩) mI dI) mC mE mI):=Sn.Now.nest (Sn.Now.over (uh hN9) hgy hNew.lis p1 (p2.trans (uh hN9).seed) p3 p4 _ rfl)
   have hN10:=hide ((uh hN9).on hgy)
   have fT:=(uh hN10).box.free
   clear b0 b1 b2 b3 b4 b5 b6 b7 b8 b9 b10
   obtain ⟨b0,b1,b2,b3,b4,b5,b6,b7,b8,b9,b10⟩:=Sn.wbox_cells (uh hN10).box
   clear csq p1 p2 p3 p4 hNew hgy hN9
   unfold Sn.wide
   go_upto_region 7 with fail
   have hZ2:Hid (SomeNow w1 (((((((((((y4.setCell ⟨T,0,none⟩ (.int .i64 (s' 0))).setCell ⟨T,1,none⟩ (.int .i64 (s' 1))).setCell ⟨T,2,none⟩ (.int .i64 (s' 2))).setCell ⟨T,3,none⟩ (.int .i64 (s' 3))).setCell ⟨T,4,none⟩ (.slice (some ⟨hC,0,none⟩) mC dC)).setCell ⟨T,5,none⟩ (.slice (some ⟨hE,0,none⟩) mE dE)).setCell ⟨T,6,none⟩ (.slice (some ⟨hI,0,none⟩) mI dI)).setCell ⟨T,7,none⟩ (.int .i64 (g' 0))).setCell ⟨T,8,none⟩ (.int .i64 (g' 1))).setCell ⟨T,9,none⟩ (.int .i64 (g' 2))).setCell ⟨T,10,none⟩ (.int .i64 (g' 3))) T a0 k0 iE iC (t+1)):=⟨_,_,_,_,_,_,_,_,_,_,_,uh hZ⟩
   generalize (((((((((((y4.setCell ⟨T,0,none⟩ (.int .i64 (s' 0))).setCell ⟨T,1,none⟩ (.int .i64 (s' 1))).setCell ⟨T,2,none⟩ (.int .i64 (s' 2))).setCell ⟨T,3,none⟩ (.int .i64 (s' 3))).setCell ⟨T,4,none⟩ (.slice (some ⟨hC,0,none⟩) mC dC)).setCell ⟨T,5,none⟩ (.slice (some ⟨hE,0,none⟩) mE dE)).setCell ⟨T,6,none⟩ (.slice (some ⟨hI,0,none⟩) mI dI)).setCell ⟨T,7,none⟩ (.int .i64 (g' 0))).setCell ⟨T,8,none⟩ (.int .i64 (g' 1))).setCell ⟨T,9,none⟩ (.int .i64 (g' 2))).setCell ⟨T,10,none⟩ (.int .i64 (g' 3)))=z at hZ2 ⊢
   clear hZ hN10 fT b0 b1 b2 b3 b4 b5 b6 b7 b8 b9 b10
   go_wp2_with fail
   go_roundw
   case rel=>first | exact ⟨t+1,by have:=uh HL;omega,by go_num,hZ2⟩ | ((repeat apply Exists.intro);exact ⟨⟨t+1,by have:=uh HL;omega,by go_num,hZ2⟩,rfl⟩)
   case measure=>simp [intOf];have:=uh HL;omega

set_option maxRecDepth 100000 in
theorem lifted (os:Os) (started:os.Started) (H:Type) (enc:TypeId × Value→H) :
  ReturnsInHanded {} Tryz.checked os 3 .any (Rows.snapWorldsSpec.pre6 enc Tryz.prog Tryz.f3 Rows.snapWorldsRow.domain false) (Rows.snapWorldsSpec.post enc Tryz.prog Tryz.f3 false true false false):=by
 refine returnsInHanded_of_change (C:=Tryz.checked) own started (by kernel_rfl) Tryz.func3
  (ChangeSpec.witness6 (enc:=enc) (C:=Tryz.checked) false ⟨#[],#[.int .i64 0,.slice none 0 0,.int .i64 0,.int .i64 0,.int .i64 0],[]⟩ 8 (by kernel_rfl) (by kernel_rfl) (by kernel_rfl) (by kernel_rfl)) ?_
 intro W base args ds gs before hval0 hW hcnd _
 have hval:∀(j:Nat) t v,Tryz.f3.params[j]?=some t→args[j]?=some v→Value.okWide Tryz.prog W .any base t v:=hval0
 have hW':=hW
 obtain ⟨p,q,hA0,hV,rfl,hfz,hnd⟩:=hW
 have hA:DataW.TrodAll enc Tryz.prog W 0 (fun _=>true) true Tryz.f3.params.toList args.toList ds p:=hA0
 rw [Tryz.params3] at hA hval
 obtain ⟨v0,vs0,d0,ds0,p0,q0,hargs,rfl,rfl,h0,r0⟩:=trodAll_cons hA
 obtain ⟨v1,vs1,d1,ds1,p1,q1,rfl,rfl,rfl,h1,r1⟩:=trodAll_cons r0
 obtain ⟨v2,vs2,d2,ds2,p2,q2,rfl,rfl,rfl,h2,r2⟩:=trodAll_cons r1
 obtain ⟨v3,vs3,d3,ds3,p3,q3,rfl,rfl,rfl,h3,r3⟩:=trodAll_cons r2
 obtain ⟨v4,vs4,d4,ds4,p4,q4,rfl,rfl,rfl,h4,r4⟩:=trodAll_cons r3
 obtain ⟨rfl,rfl,rfl⟩:=trodAll_nil r4
 obtain rfl:args=#[v0,v1,v2,v3,v4]:=by cases args;simp_all
 obtain ⟨rfl,rfl⟩:=trodVars_none hV
 obtain ⟨a0,rfl,rfl,rfl,w0⟩:=open_int Tryz.underlying2 (hval 0 2 v0 rfl rfl) h0
 obtain ⟨a1,len1,cap1,rfl⟩:=okWide_slice Tryz.underlying22 (hval 1 22 v1 rfl rfl)
 have k1:=h1
 have lt1:∀x∈p1,x.block<W.heap.size:=by obtain ⟨m,hm⟩:=k1;exact DataW.trod_lt m _ _ _ hm
 obtain ⟨z1,w1⟩:∃z:(Nat→Option Addr × Nat × Nat) × (Nat→Nat→Int),Cr.Came W a1 len1 z.1 z.2:=by
  obtain ⟨fuel,hf⟩:=h1
  obtain ⟨V,z,h⟩:=open_rows (by simpa [Value.cells] using hf)
  exact ⟨(V,z),h⟩
 obtain ⟨a2,rfl,rfl,rfl,w2⟩:=open_int Tryz.underlying3 (hval 2 3 v2 rfl rfl) h2
 obtain ⟨a3,rfl,rfl,rfl,w3⟩:=open_int Tryz.underlying3 (hval 3 3 v3 rfl rfl) h3
 obtain ⟨a4,rfl,rfl,rfl,w4⟩:=open_int Tryz.underlying3 (hval 4 3 v4 rfl rfl) h4
 clear hA0 hval0
 refine (walk a0 a1 len1 cap1 z1 a2 a3 a4 W w0 w1 w2 w3 w4).mono fun e W' ⟨he,bel⟩=>?_
 subst he
 exact ⟨_,rfl,_,_,_,[],_,[],hW',trodAll_mk1 (shut_bool Tryz.underlying4 _),(trodAll_cons_mk (shut_int Tryz.underlying2 w0) (trodAll_cons_mk (Below.trod laidOut (by kernel_rfl) (of_decide_eq_true (by kernel_rfl)) k1 bel lt1) (trodAll_cons_mk (shut_int Tryz.underlying3 w2) (trodAll_cons_mk (shut_int Tryz.underlying3 w3) (trodAll_cons_mk (shut_int Tryz.underlying3 w4) trodAll_mk0))))),rfl,bel.frame _,fun h=>by cases h⟩

theorem over:Rows.snapWorldsRow.holds Tryz.pinned (OpenSpec.ofChange Rows.snapWorldsSpec) :=
 OpenClaim.holds_of_wide 3 Tryz.f3 rfl rfl rfl rfl rfl rfl rfl ⟨rfl,rfl,rfl,rfl,rfl⟩ rfl rfl rfl rfl rfl (by kernel_rfl) Tryz.func3 (by kernel_rfl)
  (of_decide_eq_true (by kernel_rfl)) (by unfold Func.isWrapper;first | (rw [if_pos (by decide +kernel)];kernel_rfl) | (rw [if_neg (by decide +kernel)];exact ⟨rfl,rfl⟩))
  (fun os started H enc _=>lifted os started H enc)

theorem proved:Rows.SnapWorldsSaid:=over
#print axioms proved

end Go.Proofs.YtepppmepilffcaaGreat.snapWorlds
