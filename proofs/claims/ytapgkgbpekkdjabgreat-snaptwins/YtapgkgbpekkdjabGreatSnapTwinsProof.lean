/-
  A twin of a world is the same and has the same sum, and is apart: what is written to it does not turn the world: for every seed, every list of rows of numbers and every place, at this commit; no condition.
-/
import Derived.ProofKit
import Derived.Test.YtapgkgbpekkdjabGreatPart54
import Derived.ShutString
import Derived.ChangeOld
namespace Go.Proofs.YtapgkgbpekkdjabGreat.snapTwins
open Go.ChangeShapes Go.WideShapes Go.ChangeAt Go.RowKit
open Go.ChangeMaps (open_string shut_string)
set_option linter.unusedVariables false

theorem own:ownKnob Tryz.prog.godebug=none:=by kernel_rfl
theorem laidOut:laidOutB Tryz.prog=true:=by kernel_rfl

def IsRow (k:IntKind) (w:World) (a:Option Addr) (len cap:Nat) (zs:List Int):Prop :=
 (a=none∧len=0∧cap=0∧zs=[]) ∨
 ∃x,a=some x∧len≤cap∧cap≤maxLen∧zs.length=cap∧(∀i,i<zs.length→w.cell? (x.add i)=some (.int k (zs.getD i 0)))∧∀n∈zs,(Lit.int k n).wf=true

theorem atw {p:World→Prop} {w w0:World} (e:w=w0) (h:p w0):p w:=e ▸ h

set_option maxRecDepth 16000 in
set_option maxHeartbeats 6400000 in

theorem walk (a0:Int) (a1:Option Addr) (len1 cap1:Nat) (z1:(Nat→Option Addr × Nat × Nat) × (Nat→Nat→Int)) (a2:Int) (w:World) (w0:(Lit.int .i64 a0).wf=true) (w1:Cr.Came w a1 len1 z1.1 z1.2) (w2:(Lit.int .i64 a2).wf=true) :
  Calls Tryz.prog 3 #[.int .i64 a0,.slice a1 len1 cap1,.int .i64 a2] w fun e w'=>e=.returned (.bool true)∧Below w.heap.size w w':=by
 obtain ⟨V0,z⟩:=z1
 have hC:=hide w1
 clear w0 w1 w2
 go_enter Tryz.func3,Tryz.ntmps3
 go_wp2_with fail
 refine (known11_any _).mono ?_
 rintro e wk ⟨rfl,hgk⟩
 have hCk:=hide ((uh hC).on hgk)
 have hgk':=hide hgk
 clear hgk hC
 go_wp2_with fail
 refine (story_any a0 a1 len1 cap1 _ _ wk (uh hCk)).mono ?_
 rintro e w1 ⟨v,base,L,rfl,hbase,hL0,hL31,hBk,hg1⟩
 obtain ⟨n,hn⟩:∃n,L.length=n+1:=⟨L.length - 1,by omega⟩
 obtain ⟨q,cap,rfl,hq,hcap,⟨s,g,c,E,I⟩,gC,gE,gI,cC,cE,cI,hcell,hLs,hcE,hGood,hs0,hs1⟩:=hBk.at (k:=n) (by omega)
 have hGo:Hid (Cr.Good ⟨s,g,c,E,I⟩∧32≤cE∧0≤s 1∧s 1<1073741824):=⟨hGood,hcE,by have h:s 1=(n:Int):=hs1;omega,by have h:s 1=(n:Int):=hs1;omega⟩
 have hn31:n<31:=by omega
 have hg1':=hide (gtr (uh hgk') hg1)
 have hLs':=hide hLs
 have hcl:=hide hcell
 rw [hn]
 clear hgk' hg1 hLs hcE hGood hs0 hs1 hBk hL0 hL31 hbase hq hcap hCk hcell hn
 have b0:w1.cell? ⟨q,n*11,none⟩=some (.int .i64 (s 0)):=uh hcl 0 (by omega)
 have b1:w1.cell? ⟨q,n*11+1,none⟩=some (.int .i64 (s 1)):=uh hcl 1 (by omega)
 have b2:w1.cell? ⟨q,n*11+2,none⟩=some (.int .i64 (s 2)):=uh hcl 2 (by omega)
 have b3:w1.cell? ⟨q,n*11+3,none⟩=some (.int .i64 (s 3)):=uh hcl 3 (by omega)
 have b4:w1.cell? ⟨q,n*11+4,none⟩=some (.slice (some ⟨gC,0,none⟩) 384 cC):=uh hcl 4 (by omega)
 have b5:w1.cell? ⟨q,n*11+5,none⟩=some (.slice (some ⟨gE,0,none⟩) 32 cE):=uh hcl 5 (by omega)
 have b6:w1.cell? ⟨q,n*11+6,none⟩=some (.slice (some ⟨gI,0,none⟩) 40 cI):=uh hcl 6 (by omega)
 have b7:w1.cell? ⟨q,n*11+7,none⟩=some (.int .i64 (g 0)):=uh hcl 7 (by omega)
 have b8:w1.cell? ⟨q,n*11+8,none⟩=some (.int .i64 (g 1)):=uh hcl 8 (by omega)
 have b9:w1.cell? ⟨q,n*11+9,none⟩=some (.int .i64 (g 2)):=uh hcl 9 (by omega)
 have b10:w1.cell? ⟨q,n*11+10,none⟩=some (.int .i64 (g 3)):=uh hcl 10 (by omega)
 go_wp2_with fail
 have hO2:Hid (Sn.Shown w (w1.alloc (.cells (Gd.world s gC gE gI cC cE cI g) 31)) w1.heap.size gC gE gI cC cE cI s g c E I):=by
  have g2:w1.grownBy (w1.alloc (.cells (Gd.world s gC gE gI cC cE cI g) 31)) none:=World.grownBy_alloc _ _ _
  exact ⟨(Arr.world (heap_alloc_new w1 _)).lie,(uh hLs').on g2,gtr (uh hg1') g2⟩
 clear b0 b1 b2 b3 b4 b5 b6 b7 b8 b9 b10 hcl hLs'
 obtain ⟨T,hT⟩:∃T,w1.heap.size=T:=⟨_,rfl⟩
 have HT:Hid (w.heap.size≤T):=(show w.heap.size≤T by rw [←hT];exact (uh hg1').size)
 rw [hT] at hO2 ⊢
 unfold Gd.world at hO2
 obtain ⟨w2,hw2⟩:∃w2,w1.alloc (.cells #[.int .i64 (s 0),.int .i64 (s 1),.int .i64 (s 2),.int .i64 (s 3),.slice (some ⟨gC,0,none⟩) 384 cC,.slice (some ⟨gE,0,none⟩) 32 cE,.slice (some ⟨gI,0,none⟩) 40 cI,.int .i64 (g 0),.int .i64 (g 1),.int .i64 (g 2),.int .i64 (g 3)] 31)=w2:=⟨_,rfl⟩
 rw [hw2] at hO2 ⊢
 clear hw2 hT hg1'
 clear w1 wk
 have c1:=hide (fun z (hz:Gd.Lists z gC gE gI c E I)=>snTwin_any s g c E I gC gE gI cC cE cI z hz)
 unfold Gd.world at c1
 refine (uh c1 _ (uh hO2).lists).mono ?_
 rintro e w3 ⟨jC,jE,jI,dC,dE,dI,rfl,hdE,l1,l2,l3,n1,n2,n3,hLj,hg3⟩
 have HdE:=hide hdE
 have hD:Hid (Sn.Two w (w3.alloc (.cells (Gd.world s jC jE jI dC dE dI g) 31)) w2.heap.size T gC gE gI cC cE cI w3.heap.size jC jE jI dC dE dI s g c E I g):=by
  have g4:w3.grownBy (w3.alloc (.cells (Gd.world s jC jE jI dC dE dI g) 31)) none:=World.grownBy_alloc _ _ _
  have k1:=hg3.size
  have k2:=(uh hO2).grown.size
  exact ⟨((uh hO2).box.on hg3).on g4,((uh hO2).lists.on hg3).on g4,(Arr.world (heap_alloc_new w3 _)).lie,hLj.on g4,(uh hO2).box.lt,(uh hO2).lists.cells.lt,(uh hO2).lists.ents.lt,(uh hO2).lists.items.lt,by omega,l1,l2,l3,k2,gtr (uh hO2).grown (gtr hg3 g4)⟩
 clear hdE l1 l2 l3 n1 n2 n3 hLj hg3 hO2 c1
 unfold Gd.world at hD ⊢
 go_upto_region 6 with fail
 obtain ⟨V,hV⟩:∃V,w3.heap.size=V:=⟨_,rfl⟩
 rw [hV] at hD ⊢
 obtain ⟨b,hb⟩:∃b,w2.heap.size=b:=⟨_,rfl⟩
 rw [hb] at hD
 obtain ⟨w4,hw4⟩:∃w4,w3.alloc (.cells #[.int .i64 (s 0),.int .i64 (s 1),.int .i64 (s 2),.int .i64 (s 3),.slice (some ⟨jC,0,none⟩) 384 dC,.slice (some ⟨jE,0,none⟩) 32 dE,.slice (some ⟨jI,0,none⟩) 40 dI,.int .i64 (g 0),.int .i64 (g 1),.int .i64 (g 2),.int .i64 (g 3)] 31)=w4:=⟨_,rfl⟩
 rw [hw4] at hD ⊢
 clear hw4 hV hb
 clear w3 w2
 have c1:Hid (∀z,Gd.Lists z jC jE jI c E I→Gd.Lists z gC gE gI c E I→Calls Tryz.prog 7 #[.agg #[.int .i64 (s 0),.int .i64 (s 1),.int .i64 (s 2),.int .i64 (s 3),.slice (some ⟨jC,0,none⟩) 384 dC,.slice (some ⟨jE,0,none⟩) 32 dE,.slice (some ⟨jI,0,none⟩) 40 dI,.int .i64 (g 0),.int .i64 (g 1),.int .i64 (g 2),.int .i64 (g 3)],.agg #[.int .i64 (s 0),.int .i64 (s 1),.int .i64 (s 2),.int .i64 (s 3),.slice (some ⟨gC,0,none⟩) 384 cC,.slice (some ⟨gE,0,none⟩) 32 cE,.slice (some ⟨gI,0,none⟩) 40 cI,.int .i64 (g 0),.int .i64 (g 1),.int .i64 (g 2),.int .i64 (g 3)]] z (Says z (.bool true))):=fun z hz hz2=>by
  have q:=snSame_any s s g g c c E E I I jC jE jI dC dE dI gC gE gI cC cE cI z hz hz2
  rw [Sn.sameW_yes] at q
  exact q
 obtain ⟨N,hN⟩:∃N,Sn.dig (Sn.bytes s g c E I)=N:=⟨_,rfl⟩
 have hdg:Hid (∀gC gE gI cC cE cI z,Gd.Lists z gC gE gI c E I→32≤cE→Calls Tryz.prog 8 #[.agg (Gd.world s gC gE gI cC cE cI g)] z (Says z (.int .u64 N))):=fun gC gE gI cC cE cI z hz hcE =>
  (snDigest_any s g c E I gC gE gI cC cE cI z hz (uh hGo).1.sane.fit.cells hcE).mono fun e w' h=>by
   obtain ⟨r,he,hr,hg⟩:=h
   obtain rfl:(0:Int)=r:=hr.one (Sn.chk_good (uh hGo).1 (uh hGo).2.2.1 (uh hGo).2.2.2)
   rw [if_pos rfl,hN] at he
   exact ⟨he,hg⟩
 have c2:=hide (fun z (hz:Gd.Lists z jC jE jI c E I)=>uh hdg jC jE jI dC dE dI z hz (uh HdE))
 have c3:=hide (fun z (hz:Gd.Lists z gC gE gI c E I)=>uh hdg gC gE gI cC cE cI z hz (uh hGo).2.1)
 unfold Gd.world at c2 c3
 have hgold:=hide (uh hGo).1.gold
 clear hN hdg hGo HdE
 refine wp_region_grown (by kernel_rfl) (by kernel_rfl) ?_
 intro St hN W hI hx
 have d:∀σ,Sn.Two w (W σ) b T gC gE gI cC cE cI V jC jE jI dC dE dI s g c E I g:=fun σ=>(uh hD).on (hI σ)
 have e0:∀σ,(W σ).cell? ⟨T,0,none⟩=some (.int .i64 (s 0)):=fun σ=>(d σ).a.eleven.1
 have e1:∀σ,(W σ).cell? ⟨T,1,none⟩=some (.int .i64 (s 1)):=fun σ=>(d σ).a.eleven.2.1
 have e2:∀σ,(W σ).cell? ⟨T,2,none⟩=some (.int .i64 (s 2)):=fun σ=>(d σ).a.eleven.2.2.1
 have e3:∀σ,(W σ).cell? ⟨T,3,none⟩=some (.int .i64 (s 3)):=fun σ=>(d σ).a.eleven.2.2.2.1
 have e4:∀σ,(W σ).cell? ⟨T,4,none⟩=some (.slice (some ⟨gC,0,none⟩) 384 cC):=fun σ=>(d σ).a.eleven.2.2.2.2.1
 have e5:∀σ,(W σ).cell? ⟨T,5,none⟩=some (.slice (some ⟨gE,0,none⟩) 32 cE):=fun σ=>(d σ).a.eleven.2.2.2.2.2.1
 have e6:∀σ,(W σ).cell? ⟨T,6,none⟩=some (.slice (some ⟨gI,0,none⟩) 40 cI):=fun σ=>(d σ).a.eleven.2.2.2.2.2.2.1
 have e7:∀σ,(W σ).cell? ⟨T,7,none⟩=some (.int .i64 (g 0)):=fun σ=>(d σ).a.eleven.2.2.2.2.2.2.2.1
 have e8:∀σ,(W σ).cell? ⟨T,8,none⟩=some (.int .i64 (g 1)):=fun σ=>(d σ).a.eleven.2.2.2.2.2.2.2.2.1
 have e9:∀σ,(W σ).cell? ⟨T,9,none⟩=some (.int .i64 (g 2)):=fun σ=>(d σ).a.eleven.2.2.2.2.2.2.2.2.2.1
 have e10:∀σ,(W σ).cell? ⟨T,10,none⟩=some (.int .i64 (g 3)):=fun σ=>(d σ).a.eleven.2.2.2.2.2.2.2.2.2.2
 have f0:∀σ,(W σ).cell? ⟨V,0,none⟩=some (.int .i64 (s 0)):=fun σ=>(d σ).v.eleven.1
 have f1:∀σ,(W σ).cell? ⟨V,1,none⟩=some (.int .i64 (s 1)):=fun σ=>(d σ).v.eleven.2.1
 have f2:∀σ,(W σ).cell? ⟨V,2,none⟩=some (.int .i64 (s 2)):=fun σ=>(d σ).v.eleven.2.2.1
 have f3:∀σ,(W σ).cell? ⟨V,3,none⟩=some (.int .i64 (s 3)):=fun σ=>(d σ).v.eleven.2.2.2.1
 have f4:∀σ,(W σ).cell? ⟨V,4,none⟩=some (.slice (some ⟨jC,0,none⟩) 384 dC):=fun σ=>(d σ).v.eleven.2.2.2.2.1
 have f5:∀σ,(W σ).cell? ⟨V,5,none⟩=some (.slice (some ⟨jE,0,none⟩) 32 dE):=fun σ=>(d σ).v.eleven.2.2.2.2.2.1
 have f6:∀σ,(W σ).cell? ⟨V,6,none⟩=some (.slice (some ⟨jI,0,none⟩) 40 dI):=fun σ=>(d σ).v.eleven.2.2.2.2.2.2.1
 have f7:∀σ,(W σ).cell? ⟨V,7,none⟩=some (.int .i64 (g 0)):=fun σ=>(d σ).v.eleven.2.2.2.2.2.2.2.1
 have f8:∀σ,(W σ).cell? ⟨V,8,none⟩=some (.int .i64 (g 1)):=fun σ=>(d σ).v.eleven.2.2.2.2.2.2.2.2.1
 have f9:∀σ,(W σ).cell? ⟨V,9,none⟩=some (.int .i64 (g 2)):=fun σ=>(d σ).v.eleven.2.2.2.2.2.2.2.2.2.1
 have f10:∀σ,(W σ).cell? ⟨V,10,none⟩=some (.int .i64 (g 3)):=fun σ=>(d σ).v.eleven.2.2.2.2.2.2.2.2.2.2
 have k1:∀σ,Calls Tryz.prog 7 #[.agg #[.int .i64 (s 0),.int .i64 (s 1),.int .i64 (s 2),.int .i64 (s 3),.slice (some ⟨jC,0,none⟩) 384 dC,.slice (some ⟨jE,0,none⟩) 32 dE,.slice (some ⟨jI,0,none⟩) 40 dI,.int .i64 (g 0),.int .i64 (g 1),.int .i64 (g 2),.int .i64 (g 3)],.agg #[.int .i64 (s 0),.int .i64 (s 1),.int .i64 (s 2),.int .i64 (s 3),.slice (some ⟨gC,0,none⟩) 384 cC,.slice (some ⟨gE,0,none⟩) 32 cE,.slice (some ⟨gI,0,none⟩) 40 cI,.int .i64 (g 0),.int .i64 (g 1),.int .i64 (g 2),.int .i64 (g 3)]] (W σ) fun e w''=>e=.returned (.bool true)∧∃σ',w''=W σ':=fun σ=>calls_class hI hx (uh c1 _ (d σ).lv (d σ).la)
 have k2:∀σ,Calls Tryz.prog 8 #[.agg #[.int .i64 (s 0),.int .i64 (s 1),.int .i64 (s 2),.int .i64 (s 3),.slice (some ⟨jC,0,none⟩) 384 dC,.slice (some ⟨jE,0,none⟩) 32 dE,.slice (some ⟨jI,0,none⟩) 40 dI,.int .i64 (g 0),.int .i64 (g 1),.int .i64 (g 2),.int .i64 (g 3)]] (W σ) fun e w''=>e=.returned (.int .u64 N)∧∃σ',w''=W σ':=fun σ=>calls_class hI hx (uh c2 _ (d σ).lv)
 have k3:∀σ,Calls Tryz.prog 8 #[.agg #[.int .i64 (s 0),.int .i64 (s 1),.int .i64 (s 2),.int .i64 (s 3),.slice (some ⟨gC,0,none⟩) 384 cC,.slice (some ⟨gE,0,none⟩) 32 cE,.slice (some ⟨gI,0,none⟩) 40 cI,.int .i64 (g 0),.int .i64 (g 1),.int .i64 (g 2),.int .i64 (g 3)]] (W σ) fun e w''=>e=.returned (.int .u64 N)∧∃σ',w''=W σ':=fun σ=>calls_class hI hx (uh c3 _ (d σ).la)
 have hI2:=hide hI
 clear hI hx d c1 c2 c3
 repeat (go_big_quiet_step (first | (go_at_call 7;exact k1 _) | (go_at_call 8;with_reducible exact k2 _) | (go_at_call 8;with_reducible exact k3 _)))
 refine wpQuiet_nil ?_
 rintro _ ⟨σ,rfl⟩
 obtain ⟨w5,hw5⟩:∃wq,W σ=wq:=⟨_,rfl⟩
 have hD5:=hide ((uh hD).on (uh hI2 σ))
 rw [hw5] at hD5 ⊢
 clear e0 e1 e2 e3 e4 e5 e6 e7 e8 e9 e10 f0 f1 f2 f3 f4 f5 f6 f7 f8 f9 f10 k1 k2 k3 hI2 hw5 hD
 clear σ W hN St
 obtain ⟨b0,b1,b2,b3,b4,b5,b6,b7,b8,b9,b10⟩:=(uh hD5).a.eleven
 have c1:=hide (fun z (hz:Gd.Lists z gC gE gI c E I)=>refTwin_any s g c E I gC gE gI cC cE cI z hz)
 unfold Gd.world at c1
 go_wp2_with fail
 refine (uh c1 _ (uh hD5).la).mono ?_
 rintro e w6 ⟨kC,kE,kI,eC,eE,eI,rfl,hdE,l1,l2,l3,n1,n2,n3,hLk,hg6⟩
 obtain ⟨d5,hd5⟩:∃d,w5.heap.size=d:=⟨_,rfl⟩
 have hall:Hid (Sn.Ends w (w6.alloc (.cells (Gd.world s kC kE kI eC eE eI g) 31)) T gC gE gI cC cE cI w6.heap.size kC kE kI eC eE eI s g c E I∧Sn.Left (w6.alloc (.cells (Gd.world s kC kE kI eC eE eI g) 31)) V jC jE jI dC dE dI s g c E I):=by
  have g7:w6.grownBy (w6.alloc (.cells (Gd.world s kC kE kI eC eE eI g) 31)) none:=World.grownBy_alloc _ _ _
  have hz:=(uh hD5).on (gtr hg6 g7)
  exact ⟨⟨hz.a,hz.la,(Arr.world (heap_alloc_new w6 _)).lie,hLk.on g7,hz.grown⟩,⟨hz.v,hz.lv⟩⟩
 have hb1:Hid (T<b∧gC<b∧gE<b∧gI<b):=⟨(uh hD5).lT,(uh hD5).lC,(uh hD5).lE,(uh hD5).lI⟩
 have hb2:Hid (d5≤w6.heap.size∧d5≤kC∧d5≤kE∧d5≤kI):=⟨by rw [←hd5];exact hg6.size,by omega,by omega,by omega⟩
 have hb3:Hid ((b≤V∧V<d5)∧(b≤jC∧jC<d5)∧(b≤jE∧jE<d5)∧b≤jI∧jI<d5):=by
  rw [←hd5]
  exact ⟨⟨(uh hD5).mV,(uh hD5).v.lt⟩,⟨(uh hD5).mC,(uh hD5).lv.cells.lt⟩,⟨(uh hD5).mE,(uh hD5).lv.ents.lt⟩,(uh hD5).mI,(uh hD5).lv.items.lt⟩
 have hwb:=hide (uh hD5).wb
 clear hdE l1 l2 l3 n1 n2 n3 hLk hg6 hD5 c1 b0 b1 b2 b3 b4 b5 b6 b7 b8 b9 b10 hd5
 unfold Gd.world at hall ⊢
 go_upto_region 9 with fail
 obtain ⟨U,hU⟩:∃U,w6.heap.size=U:=⟨_,rfl⟩
 rw [hU] at hall hb2 ⊢
 obtain ⟨w7,hw7⟩:∃w7,w6.alloc (.cells #[.int .i64 (s 0),.int .i64 (s 1),.int .i64 (s 2),.int .i64 (s 3),.slice (some ⟨kC,0,none⟩) 384 eC,.slice (some ⟨kE,0,none⟩) 32 eE,.slice (some ⟨kI,0,none⟩) 40 eI,.int .i64 (g 0),.int .i64 (g 1),.int .i64 (g 2),.int .i64 (g 3)] 31)=w7:=⟨_,rfl⟩
 rw [hw7] at hall ⊢
 clear hw7 hU
 clear w6 w5 w4
 obtain ⟨hD,hF⟩:Hid (Sn.Ends w w7 T gC gE gI cC cE cI U kC kE kI eC eE eI s g c E I)∧Hid (Sn.Left w7 V jC jE jI dC dE dI s g c E I):=uh hall
 clear hall
 obtain ⟨k,hk,hk4⟩:∃k:Nat,a2 % 4=(k:Int)∧k<4:=⟨(a2 % 4).toNat,by omega,by omega⟩
 have hk0:(0:Int)≤(k:Int):=by omega
 have hk1:(k:Int)<4:=by omega
 have HK:=hide hk4
 have hb7:w7.cell? ⟨V,7+k,none⟩=some (.int .i64 (g k)):=by
  obtain ⟨b0,b1,b2,b3,b4,b5,b6,b7,b8,b9,b10⟩:=(uh hF).v.eleven
  rcases (show k=0∨k=1∨k=2∨k=3 by omega) with rfl | rfl | rfl | rfl <;> assumption
 have fV:=(uh hF).v.free
 have hgk:=uh hgold k hk4
 obtain ⟨y,hy⟩:∃y,g k=y:=⟨_,rfl⟩
 have Hy:=hide hy
 rw [hy] at hb7 hgk
 have hy0:0≤y:=hgk.1
 have hy1:y≤999:=hgk.2
 clear hk4 hgk hy
 go_wp2_with fail
 refine (within11_any a2 4 _ (by omega) (by omega)).mono ?_
 rintro e wq ⟨rfl,hq⟩
 obtain rfl:w7=wq:=hq.symm
 rw [hk]
 go_wp2_with fail
 refine (within11_any a2 4 _ (by omega) (by omega)).mono ?_
 rintro e wq ⟨rfl,hq⟩
 obtain rfl:w7=wq:=hq.symm
 rw [hk]
 clear hk
 go_upto_region 10 with fail
 obtain ⟨X,hX⟩:∃X,(y+1) % 999=X:=⟨_,rfl⟩
 rw [hX]
 have hne:Hid (X≠g k):=by
  rw [uh Hy]
  show X≠y
  omega
 have hD2:=hide ((uh hD).put (uh hb1) (uh hb2) (uh hb3).1 (uh hwb) (7+k) (.int .i64 X))
 have hF2:=hide ((uh hF).gold (uh HK) X)
 obtain ⟨w8,hw8⟩:∃w8,w7.setCell ⟨V,7+k,none⟩ (.int .i64 X)=w8:=⟨_,rfl⟩
 rw [hw8] at hD2 hF2 ⊢
 obtain ⟨h,hh⟩:∃h,Cr.num g k X=h:=⟨_,rfl⟩
 have hne2:Hid (h k≠g k):=by
  rw [←hh,Cr.num_at]
  exact uh hne
 rw [hh] at hF2
 clear hw8 hD hF hb7 fV hk0 hk1 hy0 hy1 hX hne Hy hh
 obtain ⟨b0,b1,b2,b3,b4,b5,b6,b7,b8,b9,b10⟩:=(uh hD2).a.eleven
 obtain ⟨e0,e1,e2,e3,e4,e5,e6,e7,e8,e9,e10⟩:=(uh hF2).v.eleven
 have c1:Hid (∀z,Gd.Lists z jC jE jI c E I→Gd.Lists z gC gE gI c E I→Calls Tryz.prog 7 #[.agg #[.int .i64 (s 0),.int .i64 (s 1),.int .i64 (s 2),.int .i64 (s 3),.slice (some ⟨jC,0,none⟩) 384 dC,.slice (some ⟨jE,0,none⟩) 32 dE,.slice (some ⟨jI,0,none⟩) 40 dI,.int .i64 (h 0),.int .i64 (h 1),.int .i64 (h 2),.int .i64 (h 3)],.agg #[.int .i64 (s 0),.int .i64 (s 1),.int .i64 (s 2),.int .i64 (s 3),.slice (some ⟨gC,0,none⟩) 384 cC,.slice (some ⟨gE,0,none⟩) 32 cE,.slice (some ⟨gI,0,none⟩) 40 cI,.int .i64 (g 0),.int .i64 (g 1),.int .i64 (g 2),.int .i64 (g 3)]] z (Says z (.bool false))):=fun z hz hz2=>by
  have q:=snSame_any s s h g c c E E I I jC jE jI dC dE dI gC gE gI cC cE cI z hz hz2
  rw [Sn.sameW_gold (uh HK) (uh hne2)] at q
  exact q
 go_wp2_with fail
 refine (uh c1 _ (uh hF2).lv (uh hD2).la).mono ?_
 rintro e wx0 ⟨rfl,hg9⟩
 have hD:=hide ((uh hD2).on hg9)
 have hF:=hide ((uh hF2).on hg9)
 clear hD2 hF2 hg9 c1 b0 b1 b2 b3 b4 b5 b6 b7 b8 b9 b10 e0 e1 e2 e3 e4 e5 e6 e7 e8 e9 e10 hne2 HK
 obtain ⟨k,hk,hk4⟩:∃k:Nat,a2 % 384=(k:Int)∧k<384:=⟨(a2 % 384).toNat,by omega,by omega⟩
 have hk0:(0:Int)≤(k:Int):=by omega
 have hk1:(k:Int)<384:=by omega
 have HK:=hide hk4
 have cw:Hid (∀x,Calls Tryz.prog 10 #[.int .i64 a2,.int .i64 384] x fun e w'=>e=.returned (.int .i64 (k:Int))∧w'=x):=fun x=>by rw [←hk];exact within11_any a2 384 x (by omega) (by omega)
 clear hk hk4
 have hD1:=hide ((uh hD).on (gd1 (World.grownBy.refl _ none)))
 have hF1:=hide ((uh hF).on (gd1 (World.grownBy.refl _ none)))
 have v4:=(uh hF).v.eleven.2.2.2.2.1
 have hold:wx0.cell? ⟨jC,k,none⟩=some (.int .u8 (c k)):=(uh hF).lv.cells.cell (uh HK)
 have fB:=(uh hF).lv.cells.free
 obtain ⟨X,hX⟩:∃X,bits .xor .u8 (c k) 1=X:=⟨_,rfl⟩
 go_upto_region 12 with fail
 go_cut [] from 51 to 58 (fun wx=>Hid (Sn.Ends w wx T gC gE gI cC cE cI U kC kE kI eC eE eI s g c E I)∧Hid (Sn.Left wx V jC jE jI dC dE dI s h (Gr.upd c k X) E I))
 case first =>
  refine wp_region_till (h:=8) (S:=fun x=>x.cell? ⟨V,4,none⟩=some (.slice (some ⟨jC,0,none⟩) 384 dC)∧x.cell? ⟨jC,k,none⟩=some (.int .u8 (c k))) (by kernel_rfl) ?_
  have hS0:wx0.drew.cell? ⟨V,4,none⟩=some (.slice (some ⟨jC,0,none⟩) 384 dC)∧wx0.drew.cell? ⟨jC,k,none⟩=some (.int .u8 (c k)):=⟨(uh hF1).v.eleven.2.2.2.2.1,(uh hF1).lv.cells.cell (uh HK)⟩
  refine wtk (i:=0) (v:=?_) [8] rfl (by kernel_rfl) (by kernel_rfl) (by kernel_rfl) (by kernel_rfl) (fun _ _ _ h=>h) hS0 (Or.inl ⟨by rfl,?_⟩) ?_
  rotate_left
  ·intro x hSx
   try dsimp only at hSx
   go_simp
   try with_reducible rfl
  simp only [Act.put]
  refine wtk (i:=1) (v:=?_) [8] rfl (by kernel_rfl) (by kernel_rfl) (by kernel_rfl) (by kernel_rfl) (fun _ _ _ h=>h) hS0 (Or.inl ⟨by rfl,?_⟩) ?_
  rotate_left
  ·intro x hSx
   try dsimp only at hSx
   go_simp
   try with_reducible rfl
  simp only [Act.put]
  refine wtk (i:=2) (v:=?_) [8] rfl (by kernel_rfl) (by kernel_rfl) (by kernel_rfl) (by kernel_rfl) (fun _ _ _ h=>h) hS0 (Or.inl ⟨by rfl,?_⟩) ?_
  rotate_left
  ·intro x hSx
   try dsimp only at hSx
   go_simp
   try with_reducible rfl
  simp only [Act.put]
  refine wto (j:=3) (by kernel_rfl) rfl (fun K hK=>?_)
  go_simp
  refine (uh cw _).mono ?_
  rintro e wq ⟨rfl,hq⟩
  obtain rfl:=hq
  try go_simp
  refine hK.out _ _ (fun _=>hS0) ?_
  clear hK K
  refine wtk (i:=4) (v:=?_) [8] rfl (by kernel_rfl) (by kernel_rfl) (by kernel_rfl) (by kernel_rfl) (fun _ _ _ h=>h) hS0 (Or.inl ⟨by rfl,?_⟩) ?_
  rotate_left
  ·intro x hSx
   try dsimp only at hSx
   go_simp
   try with_reducible rfl
  simp only [Act.put]
  refine wtk (i:=5) (v:=?_) [8] rfl (by kernel_rfl) (by kernel_rfl) (by kernel_rfl) (by kernel_rfl) (fun _ _ _ h=>h) hS0 (Or.inl ⟨by rfl,?_⟩) ?_
  rotate_left
  ·intro x hSx
   try dsimp only at hSx
   go_simp
   try with_reducible rfl
  simp only [Act.put]
  refine wtk (i:=6) (v:=?_) [8] rfl (by kernel_rfl) (by kernel_rfl) (by kernel_rfl) (by kernel_rfl) (fun _ _ _ h=>h) hS0 (Or.inl ⟨by rfl,?_⟩) ?_
  rotate_left
  ·intro x hSx
   try dsimp only at hSx
   go_simp
   try with_reducible rfl
  simp only [Act.put]
  refine wtk (i:=7) (v:=?_) [8] rfl (by kernel_rfl) (by kernel_rfl) (by kernel_rfl) (by kernel_rfl) (fun _ _ _ h=>h) hS0 (Or.inl ⟨by rfl,?_⟩) ?_
  rotate_left
  ·intro x hSx
   try dsimp only at hSx
   go_simp
   try with_reducible rfl
  simp only [Act.put]
  refine wto (j:=8) (by kernel_rfl) rfl (fun K hK=>?_)
  go_simp
  refine hK.out _ _ (fun hx=>absurd (hx.symm.trans (by kernel_rfl)) Bool.false_ne_true) ?_
  clear hK K
  refine wpTill_done (by kernel_rfl) ?_ _
  go_wp2_with fail
  go_meet
  exact ⟨(uh hD1).put (uh hb1) (uh hb2) (uh hb3).2.1 (uh hwb) _ _,(uh hF1).cell k X⟩
 case rest =>
 obtain ⟨hD2,hF2⟩:=hcut
 clear hD hF hD1 hF1 v4 hold fB cw hk0 hk1
 have hD:=hide (uh hD2)
 have hF:=hide (uh hF2)
 clear hD2 hF2
 obtain ⟨c',hc'⟩:∃c',Gr.upd c k X=c':=⟨_,rfl⟩
 rw [hc'] at hF
 clear hc' hX HK X k
 obtain ⟨k,hk,hk4⟩:∃k:Nat,a2 % 32=(k:Int)∧k<32:=⟨(a2 % 32).toNat,by omega,by omega⟩
 have hk0:(0:Int)≤(k:Int):=by omega
 have hk1:(k:Int)<32:=by omega
 have HK:=hide hk4
 have cw:Hid (∀x,Calls Tryz.prog 10 #[.int .i64 a2,.int .i64 32] x fun e w'=>e=.returned (.int .i64 (k:Int))∧w'=x):=fun x=>by rw [←hk];exact within11_any a2 32 x (by omega) (by omega)
 clear hk hk4
 have hD1:=hide ((uh hD).on (gd1 (World.grownBy.refl _ none)))
 have hF1:=hide ((uh hF).on (gd1 (World.grownBy.refl _ none)))
 have v5:=(uh hF).v.eleven.2.2.2.2.2.1
 have hold:wc.cell? ⟨jE,k*11+5,none⟩=some (.int .i64 (E k 5)):=((uh hF).lv.own.ents.row (uh HK)).2.2.2.2.2.1
 have fB:=(uh hF).lv.ents.free
 obtain ⟨X,hX⟩:∃X,IntKind.i64.wrap (E k 5+1)=X:=⟨_,rfl⟩
 go_upto_region 13 with fail
 go_cut [] from 59 to 68 (fun wx=>Hid (Sn.Ends w wx T gC gE gI cC cE cI U kC kE kI eC eE eI s g c E I)∧Hid (Sn.Left wx V jC jE jI dC dE dI s h c' (Gd.set E k 5 X) I))
 case first =>
  refine wp_region_till (h:=10) (S:=fun x=>x.cell? ⟨V,5,none⟩=some (.slice (some ⟨jE,0,none⟩) 32 dE)∧x.cell? ⟨jE,k*11+5,none⟩=some (.int .i64 (E k 5))) (by kernel_rfl) ?_
  have hS0:wc.drew.cell? ⟨V,5,none⟩=some (.slice (some ⟨jE,0,none⟩) 32 dE)∧wc.drew.cell? ⟨jE,k*11+5,none⟩=some (.int .i64 (E k 5)):=⟨(uh hF1).v.eleven.2.2.2.2.2.1,((uh hF1).lv.own.ents.row (uh HK)).2.2.2.2.2.1⟩
  refine wtk (i:=0) (v:=?_) [10] rfl (by kernel_rfl) (by kernel_rfl) (by kernel_rfl) (by kernel_rfl) (fun _ _ _ h=>h) hS0 (Or.inl ⟨by rfl,?_⟩) ?_
  rotate_left
  ·intro x hSx
   try dsimp only at hSx
   go_simp
   try with_reducible rfl
  simp only [Act.put]
  refine wtk (i:=1) (v:=?_) [10] rfl (by kernel_rfl) (by kernel_rfl) (by kernel_rfl) (by kernel_rfl) (fun _ _ _ h=>h) hS0 (Or.inl ⟨by rfl,?_⟩) ?_
  rotate_left
  ·intro x hSx
   try dsimp only at hSx
   go_simp
   try with_reducible rfl
  simp only [Act.put]
  refine wtk (i:=2) (v:=?_) [10] rfl (by kernel_rfl) (by kernel_rfl) (by kernel_rfl) (by kernel_rfl) (fun _ _ _ h=>h) hS0 (Or.inl ⟨by rfl,?_⟩) ?_
  rotate_left
  ·intro x hSx
   try dsimp only at hSx
   go_simp
   try with_reducible rfl
  simp only [Act.put]
  refine wto (j:=3) (by kernel_rfl) rfl (fun K hK=>?_)
  go_simp
  refine (uh cw _).mono ?_
  rintro e wq ⟨rfl,hq⟩
  obtain rfl:=hq
  try go_simp
  refine hK.out _ _ (fun _=>hS0) ?_
  clear hK K
  refine wtk (i:=4) (v:=?_) [10] rfl (by kernel_rfl) (by kernel_rfl) (by kernel_rfl) (by kernel_rfl) (fun _ _ _ h=>h) hS0 (Or.inl ⟨by rfl,?_⟩) ?_
  rotate_left
  ·intro x hSx
   try dsimp only at hSx
   go_simp
   try with_reducible rfl
  simp only [Act.put]
  refine wtk (i:=5) (v:=?_) [10] rfl (by kernel_rfl) (by kernel_rfl) (by kernel_rfl) (by kernel_rfl) (fun _ _ _ h=>h) hS0 (Or.inl ⟨by rfl,?_⟩) ?_
  rotate_left
  ·intro x hSx
   try dsimp only at hSx
   go_simp
   try with_reducible rfl
  simp only [Act.put]
  refine wtk (i:=6) (v:=?_) [10] rfl (by kernel_rfl) (by kernel_rfl) (by kernel_rfl) (by kernel_rfl) (fun _ _ _ h=>h) hS0 (Or.inl ⟨by rfl,?_⟩) ?_
  rotate_left
  ·intro x hSx
   try dsimp only at hSx
   go_simp
   try with_reducible rfl
  simp only [Act.put]
  refine wtk (i:=7) (v:=?_) [10] rfl (by kernel_rfl) (by kernel_rfl) (by kernel_rfl) (by kernel_rfl) (fun _ _ _ h=>h) hS0 (Or.inl ⟨by rfl,?_⟩) ?_
  rotate_left
  ·intro x hSx
   try dsimp only at hSx
   go_simp
   try with_reducible rfl
  simp only [Act.put]
  refine wtk (i:=8) (v:=?_) [9,10] rfl (by kernel_rfl) (by kernel_rfl) (by kernel_rfl) (by kernel_rfl) (fun _ _ _ h=>h) hS0 (Or.inl ⟨by rfl,?_⟩) ?_
  rotate_left
  ·intro x hSx
   try dsimp only at hSx
   go_simp
   try with_reducible rfl
  simp only [Act.put]
  refine wtk (i:=9) (v:=?_) [10] rfl (by kernel_rfl) (by kernel_rfl) (by kernel_rfl) (by kernel_rfl) (fun _ _ _ h=>h) hS0 (Or.inl ⟨by rfl,?_⟩) ?_
  rotate_left
  ·intro x hSx
   try dsimp only at hSx
   go_simp
   try with_reducible rfl
  simp only [Act.put]
  refine wto (j:=10) (by kernel_rfl) rfl (fun K hK=>?_)
  go_simp
  refine hK.out _ _ (fun hx=>absurd (hx.symm.trans (by kernel_rfl)) Bool.false_ne_true) ?_
  clear hK K
  refine wpTill_done (by kernel_rfl) ?_ _
  go_wp2_with fail
  go_meet
  exact ⟨(uh hD1).put (uh hb1) (uh hb2) (uh hb3).2.2.1 (uh hwb) _ _,(uh hF1).ent k 5 (by omega) X⟩
 case rest =>
 obtain ⟨hD2,hF2⟩:=hcut
 clear hD hF hD1 hF1 v5 hold fB cw hk0 hk1
 have hD:=hide (uh hD2)
 have hF:=hide (uh hF2)
 clear hD2 hF2
 obtain ⟨E',hE'⟩:∃E',Gd.set E k 5 X=E':=⟨_,rfl⟩
 rw [hE'] at hF
 clear hE' hX HK X k
 obtain ⟨k,hk,hk4⟩:∃k:Nat,a2 % 40=(k:Int)∧k<40:=⟨(a2 % 40).toNat,by omega,by omega⟩
 have hk0:(0:Int)≤(k:Int):=by omega
 have hk1:(k:Int)<40:=by omega
 have HK:=hide hk4
 have cw:Hid (∀x,Calls Tryz.prog 10 #[.int .i64 a2,.int .i64 40] x fun e w'=>e=.returned (.int .i64 (k:Int))∧w'=x):=fun x=>by rw [←hk];exact within11_any a2 40 x (by omega) (by omega)
 clear hk hk4
 have hD1:=hide ((uh hD).on (gd1 (World.grownBy.refl _ none)))
 have hF1:=hide ((uh hF).on (gd1 (World.grownBy.refl _ none)))
 have v6:=(uh hF).v.eleven.2.2.2.2.2.2.1
 have hold:wc.cell? ⟨jI,k*4+2,none⟩=some (.int .i64 (I k 2)):=((uh hF).lv.its.row (uh HK)).2.2.1
 have fB:=(uh hF).lv.items.free
 obtain ⟨X,hX⟩:∃X,IntKind.i64.wrap (I k 2+1)=X:=⟨_,rfl⟩
 go_upto_region 14 with fail
 go_cut [] from 69 to 78 (fun wx=>Hid (Sn.Ends w wx T gC gE gI cC cE cI U kC kE kI eC eE eI s g c E I)∧Hid (Sn.Left wx V jC jE jI dC dE dI s h c' E' (Gd.set I k 2 X)))
 case first =>
  refine wp_region_till (h:=10) (S:=fun x=>x.cell? ⟨V,6,none⟩=some (.slice (some ⟨jI,0,none⟩) 40 dI)∧x.cell? ⟨jI,k*4+2,none⟩=some (.int .i64 (I k 2))) (by kernel_rfl) ?_
  have hS0:wc.drew.cell? ⟨V,6,none⟩=some (.slice (some ⟨jI,0,none⟩) 40 dI)∧wc.drew.cell? ⟨jI,k*4+2,none⟩=some (.int .i64 (I k 2)):=⟨(uh hF1).v.eleven.2.2.2.2.2.2.1,((uh hF1).lv.its.row (uh HK)).2.2.1⟩
  refine wtk (i:=0) (v:=?_) [10] rfl (by kernel_rfl) (by kernel_rfl) (by kernel_rfl) (by kernel_rfl) (fun _ _ _ h=>h) hS0 (Or.inl ⟨by rfl,?_⟩) ?_
  rotate_left
  ·intro x hSx
   try dsimp only at hSx
   go_simp
   try with_reducible rfl
  simp only [Act.put]
  refine wtk (i:=1) (v:=?_) [10] rfl (by kernel_rfl) (by kernel_rfl) (by kernel_rfl) (by kernel_rfl) (fun _ _ _ h=>h) hS0 (Or.inl ⟨by rfl,?_⟩) ?_
  rotate_left
  ·intro x hSx
   try dsimp only at hSx
   go_simp
   try with_reducible rfl
  simp only [Act.put]
  refine wtk (i:=2) (v:=?_) [10] rfl (by kernel_rfl) (by kernel_rfl) (by kernel_rfl) (by kernel_rfl) (fun _ _ _ h=>h) hS0 (Or.inl ⟨by rfl,?_⟩) ?_
  rotate_left
  ·intro x hSx
   try dsimp only at hSx
   go_simp
   try with_reducible rfl
  simp only [Act.put]
  refine wto (j:=3) (by kernel_rfl) rfl (fun K hK=>?_)
  go_simp
  refine (uh cw _).mono ?_
  rintro e wq ⟨rfl,hq⟩
  obtain rfl:=hq
  try go_simp
  refine hK.out _ _ (fun _=>hS0) ?_
  clear hK K
  refine wtk (i:=4) (v:=?_) [10] rfl (by kernel_rfl) (by kernel_rfl) (by kernel_rfl) (by kernel_rfl) (fun _ _ _ h=>h) hS0 (Or.inl ⟨by rfl,?_⟩) ?_
  rotate_left
  ·intro x hSx
   try dsimp only at hSx
   go_simp
   try with_reducible rfl
  simp only [Act.put]
  refine wtk (i:=5) (v:=?_) [10] rfl (by kernel_rfl) (by kernel_rfl) (by kernel_rfl) (by kernel_rfl) (fun _ _ _ h=>h) hS0 (Or.inl ⟨by rfl,?_⟩) ?_
  rotate_left
  ·intro x hSx
   try dsimp only at hSx
   go_simp
   try with_reducible rfl
  simp only [Act.put]
  refine wtk (i:=6) (v:=?_) [10] rfl (by kernel_rfl) (by kernel_rfl) (by kernel_rfl) (by kernel_rfl) (fun _ _ _ h=>h) hS0 (Or.inl ⟨by rfl,?_⟩) ?_
  rotate_left
  ·intro x hSx
   try dsimp only at hSx
   go_simp
   try with_reducible rfl
  simp only [Act.put]
  refine wtk (i:=7) (v:=?_) [10] rfl (by kernel_rfl) (by kernel_rfl) (by kernel_rfl) (by kernel_rfl) (fun _ _ _ h=>h) hS0 (Or.inl ⟨by rfl,?_⟩) ?_
  rotate_left
  ·intro x hSx
   try dsimp only at hSx
   go_simp
   try with_reducible rfl
  simp only [Act.put]
  refine wtk (i:=8) (v:=?_) [9,10] rfl (by kernel_rfl) (by kernel_rfl) (by kernel_rfl) (by kernel_rfl) (fun _ _ _ h=>h) hS0 (Or.inl ⟨by rfl,?_⟩) ?_
  rotate_left
  ·intro x hSx
   try dsimp only at hSx
   go_simp
   try with_reducible rfl
  simp only [Act.put]
  refine wtk (i:=9) (v:=?_) [10] rfl (by kernel_rfl) (by kernel_rfl) (by kernel_rfl) (by kernel_rfl) (fun _ _ _ h=>h) hS0 (Or.inl ⟨by rfl,?_⟩) ?_
  rotate_left
  ·intro x hSx
   try dsimp only at hSx
   go_simp
   try with_reducible rfl
  simp only [Act.put]
  refine wto (j:=10) (by kernel_rfl) rfl (fun K hK=>?_)
  go_simp
  refine hK.out _ _ (fun hx=>absurd (hx.symm.trans (by kernel_rfl)) Bool.false_ne_true) ?_
  clear hK K
  refine wpTill_done (by kernel_rfl) ?_ _
  go_wp2_with fail
  go_meet
  exact ⟨(uh hD1).put (uh hb1) (uh hb2) (uh hb3).2.2.2 (uh hwb) _ _,(uh hF1).item k 2 (by omega) X⟩
 case rest =>
 obtain ⟨hD2,hF2⟩:=hcut
 clear hD hF hD1 hF1 v6 hold fB cw hk0 hk1
 clear hF2 hX HK X k
 obtain ⟨b0,b1,b2,b3,b4,b5,b6,b7,b8,b9,b10⟩:=(uh hD2).a.eleven
 obtain ⟨e0,e1,e2,e3,e4,e5,e6,e7,e8,e9,e10⟩:=(uh hD2).u.eleven
 have c1:Hid (∀z,Gd.Lists z gC gE gI c E I→Gd.Lists z kC kE kI c E I→Calls Tryz.prog 7 #[.agg #[.int .i64 (s 0),.int .i64 (s 1),.int .i64 (s 2),.int .i64 (s 3),.slice (some ⟨gC,0,none⟩) 384 cC,.slice (some ⟨gE,0,none⟩) 32 cE,.slice (some ⟨gI,0,none⟩) 40 cI,.int .i64 (g 0),.int .i64 (g 1),.int .i64 (g 2),.int .i64 (g 3)],.agg #[.int .i64 (s 0),.int .i64 (s 1),.int .i64 (s 2),.int .i64 (s 3),.slice (some ⟨kC,0,none⟩) 384 eC,.slice (some ⟨kE,0,none⟩) 32 eE,.slice (some ⟨kI,0,none⟩) 40 eI,.int .i64 (g 0),.int .i64 (g 1),.int .i64 (g 2),.int .i64 (g 3)]] z (Says z (.bool true))):=fun z hz hz2=>by
  have q:=snSame_any s s g g c c E E I I gC gE gI cC cE cI kC kE kI eC eE eI z hz hz2
  rw [Sn.sameW_yes] at q
  exact q
 go_wp2_with fail
 refine (uh c1 _ (uh hD2).la (uh hD2).lu).mono ?_
 rintro e wz ⟨rfl,hgz⟩
 have hfin:=hide (gtr (uh hD2).grown hgz)
 clear hgz c1 hD2 b0 b1 b2 b3 b4 b5 b6 b7 b8 b9 b10 e0 e1 e2 e3 e4 e5 e6 e7 e8 e9 e10
 go_wp2
 go_ret
 exact ⟨rfl,none_below (uh hfin)⟩

set_option maxRecDepth 100000 in
theorem lifted (os:Os) (started:os.Started) (H:Type) (enc:TypeId × Value→H) :
  ReturnsInHanded {} Tryz.checked os 3 .any (Rows.snapTwinsSpec.pre6 enc Tryz.prog Tryz.f3 Rows.snapTwinsRow.domain false) (Rows.snapTwinsSpec.post enc Tryz.prog Tryz.f3 false true false false):=by
 refine returnsInHanded_of_change (C:=Tryz.checked) own started (by kernel_rfl) Tryz.func3
  (ChangeSpec.witness6 (enc:=enc) (C:=Tryz.checked) false ⟨#[],#[.int .i64 0,.slice none 0 0,.int .i64 0],[]⟩ 8 (by kernel_rfl) (by kernel_rfl) (by kernel_rfl) (by kernel_rfl)) ?_
 intro W base args ds gs before hval0 hW hcnd _
 have hval:∀(j:Nat) t v,Tryz.f3.params[j]?=some t→args[j]?=some v→Value.okWide Tryz.prog W .any base t v:=hval0
 have hW':=hW
 obtain ⟨p,q,hA0,hV,rfl,hfz,hnd⟩:=hW
 have hA:DataW.TrodAll enc Tryz.prog W 0 (fun _=>true) true Tryz.f3.params.toList args.toList ds p:=hA0
 rw [Tryz.params3] at hA hval
 obtain ⟨v0,vs0,d0,ds0,p0,q0,hargs,rfl,rfl,h0,r0⟩:=trodAll_cons hA
 obtain ⟨v1,vs1,d1,ds1,p1,q1,rfl,rfl,rfl,h1,r1⟩:=trodAll_cons r0
 obtain ⟨v2,vs2,d2,ds2,p2,q2,rfl,rfl,rfl,h2,r2⟩:=trodAll_cons r1
 obtain ⟨rfl,rfl,rfl⟩:=trodAll_nil r2
 obtain rfl:args=#[v0,v1,v2]:=by cases args;simp_all
 obtain ⟨rfl,rfl⟩:=trodVars_none hV
 obtain ⟨a0,rfl,rfl,rfl,w0⟩:=open_int Tryz.underlying2 (hval 0 2 v0 rfl rfl) h0
 obtain ⟨a1,len1,cap1,rfl⟩:=okWide_slice Tryz.underlying22 (hval 1 22 v1 rfl rfl)
 have k1:=h1
 have lt1:∀x∈p1,x.block<W.heap.size:=by obtain ⟨m,hm⟩:=k1;exact DataW.trod_lt m _ _ _ hm
 obtain ⟨z1,w1⟩:∃z:(Nat→Option Addr × Nat × Nat) × (Nat→Nat→Int),Cr.Came W a1 len1 z.1 z.2:=by
  obtain ⟨fuel,hf⟩:=h1
  obtain ⟨V,z,h⟩:=open_rows (by simpa [Value.cells] using hf)
  exact ⟨(V,z),h⟩
 obtain ⟨a2,rfl,rfl,rfl,w2⟩:=open_int Tryz.underlying3 (hval 2 3 v2 rfl rfl) h2
 clear hA0 hval0
 refine (walk a0 a1 len1 cap1 z1 a2 W w0 w1 w2).mono fun e W' ⟨he,bel⟩=>?_
 subst he
 exact ⟨_,rfl,_,_,_,[],_,[],hW',trodAll_mk1 (shut_bool Tryz.underlying4 _),(trodAll_cons_mk (shut_int Tryz.underlying2 w0) (trodAll_cons_mk (Below.trod laidOut (by kernel_rfl) (of_decide_eq_true (by kernel_rfl)) k1 bel lt1) (trodAll_cons_mk (shut_int Tryz.underlying3 w2) trodAll_mk0))),rfl,bel.frame _,fun h=>by cases h⟩

theorem over:Rows.snapTwinsRow.holds Tryz.pinned (OpenSpec.ofChange Rows.snapTwinsSpec) :=
 OpenClaim.holds_of_wide 3 Tryz.f3 rfl rfl rfl rfl rfl rfl rfl ⟨rfl,rfl,rfl,rfl,rfl⟩ rfl rfl rfl rfl rfl (by kernel_rfl) Tryz.func3 (by kernel_rfl)
  (of_decide_eq_true (by kernel_rfl)) (by unfold Func.isWrapper;first | (rw [if_pos (by decide +kernel)];kernel_rfl) | (rw [if_neg (by decide +kernel)];exact ⟨rfl,rfl⟩))
  (fun os started H enc _=>lifted os started H enc)

theorem proved:Rows.SnapTwinsSaid:=over
#print axioms proved

end Go.Proofs.YtapgkgbpekkdjabGreat.snapTwins
