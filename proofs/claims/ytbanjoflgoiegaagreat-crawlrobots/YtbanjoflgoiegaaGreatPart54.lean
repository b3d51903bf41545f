import Derived.Test.YtbanjoflgoiegaaGreatPart47
import Derived.Test.YtbanjoflgoiegaaGreatPart53
namespace Go.Proofs.YtbanjoflgoiegaaGreat
open Go.Proofs.Tryz
open Go.RowKit
variable{E I:N2}{F:Nat->Value}{T X cC cE cI gC gE gI kC kE kI mC mE mI:Nat}{c:N1}{w x:World}
theorem Gd.yQ.XU{jC jE jI dC dE dI:Nat}{s g s' g' c':N1}{F J:N2}(h:Gd.yQ w x T gC gE gI cC cE cI s g c E I)(ap:32<=dE)(lE:w.heap.size<=jE)(lI:w.heap.size<=jI)(n1:jC≠jE)(n2:jC≠jI)(n3:jE≠jI)(hL:Gd.av x jC jE jI c' F J):Gd.yQ w (x.setCells T 0 (Gd.world s' jC jE jI dC dE dI g').toList) T jC jE jI dC dE dI s' g' c' F J:=by
 have m1:=h.af.box.ao hL.cells (by decide);have m2:=h.af.box.ao hL.ai (by decide);have m3:=h.af.box.ao hL.aj (by decide);exact⟨⟨h.af.box.iP s' g' jC jE jI dC dE dI,⟨hL.cells.aQ m1 _ _,hL.ai.aQ m2 _ _,hL.aj.aQ m3 _ _⟩,m1,m2,m3,n1,n2,n3⟩,h.lT,lE,lI,ap,aA h.lT _ 0 x h.grown⟩
theorem Gd.yQ.ui{V:Nat}{s g:N1}(h:Gd.yQ w x T gC gE gI cC cE cI s g c E I)(hV:w.heap.size<=V)(hB:ay x V 30 11 F)(n0:V≠T)(vs:List Value):Gd.yQ w (x.setCells V 0 vs) T gC gE gI cC cE cI s g c E I :=
 h.uL hV n0 (hB.ao h.af.ab.cells (by decide)) (hB.ao h.af.ab.ai (by decide)) (hB.ao h.af.ab.aj (by decide)) vs
theorem Gd.av.ui{V:Nat}(h:Gd.av x gC gE gI c E I)(hB:ay x V 30 11 F)(vs:List Value):Gd.av (x.setCells V 0 vs) gC gE gI c E I :=
 ⟨h.cells.aQ (hB.ao h.cells (by decide)) 0 vs,h.ai.aQ (hB.ao h.ai (by decide)) 0 vs,h.aj.aQ (hB.ao h.aj (by decide)) 0 vs⟩
structure Cr.mV(w x:World)(T X gC gE gI cC cE cI kC kE kI mC mE mI:Nat)(S:Cr.W):Prop where
 bo:Gd.yQ w x T gC gE gI cC cE cI S.s S.g S.c S.E S.I
 jS:Gd.yQ w x X kC kE kI mC mE mI S.s S.g S.c S.E S.I
 ne:T≠X
theorem Cr.mV.on{y:World}{S:Cr.W}(h:Cr.mV w x T X gC gE gI cC cE cI kC kE kI mC mE mI S)(hg:x.grownBy y none):Cr.mV w y T X gC gE gI cC cE cI kC kE kI mC mE mI S:=⟨h.bo.on hg,h.jS.on hg,h.ne⟩
theorem Cr.mV.over{aC aE aI bC bE bI pC pE pI qC qE qI:Nat}{S U:Cr.W}(h:Cr.mV w x T X gC gE gI cC cE cI kC kE kI mC mE mI S)(c1:32<=bE)(lE:w.heap.size<=aE)(lI:w.heap.size<=aI)(n1:aC≠aE)(n2:aC≠aI)(n3:aE≠aI)(hL:Gd.av x aC aE aI U.c U.E U.I)(c2:32<=qE)(U5:w.heap.size<=pE)(lI':w.heap.size<=pI)(m1:pC≠pE)(m2:pC≠pI)(m3:pE≠pI)(mr:Gd.av x pC pE pI U.c U.E U.I):Cr.mV w ((x.setCells T 0 (Gd.world U.s aC aE aI bC bE bI U.g).toList).setCells X 0 (Gd.world U.s pC pE pI qC qE qI U.g).toList) T X aC aE aI bC bE bI pC pE pI qC qE qI U:=by
 have hT:=h.bo.XU (s':=U.s) (g':=U.g) (dC:=bC) (dI:=bI) c1 lE lI n1 n2 n3 hL;have hX:=h.jS.ui h.bo.lT h.bo.af.box h.ne (Gd.world U.s aC aE aI bC bE bI U.g).toList;have hL2:=mr.ui h.bo.af.box (Gd.world U.s aC aE aI bC bE bI U.g).toList;exact⟨hT.ui h.jS.lT hX.af.box h.ne.symm _,hX.XU (s':=U.s) (g':=U.g) (dC:=qC) (dI:=qI) c2 U5 lI' m1 m2 m3 hL2,h.ne⟩
theorem Cr.mV.dQ{A o:Nat}{S:Cr.W}(h:Cr.mV w x T X gC gE gI cC cE cI kC kE kI mC mE mI S)(hA:ay x A 36 12 F)(lA:w.heap.size<=A)(v:Value):Cr.mV w (x.setCell ⟨A,o,none⟩ v) T X gC gE gI cC cE cI kC kE kI mC mE mI S:=by
 have key:∀{T gC gE gI cC cE cI:Nat},Gd.yQ w x T gC gE gI cC cE cI S.s S.g S.c S.E S.I->Gd.yQ w (x.setCell ⟨A,o,none⟩ v) T gC gE gI cC cE cI S.s S.g S.c S.E S.I:=fun {T gC gE gI cC cE cI} h=>⟨⟨h.af.box.aP (hA.ao h.af.box (by decide)) _ _,⟨h.af.ab.cells.aP (hA.ao h.af.ab.cells (by decide)) _ _,h.af.ab.ai.aP (hA.ao h.af.ab.ai (by decide)) _ _,h.af.ab.aj.aP (hA.ao h.af.ab.aj (by decide)) _ _⟩,h.af.bC,h.af.bE,h.af.bI,h.af.cE,h.af.cI,h.af.eI⟩,h.lT,h.lE,h.lI,h.aG,gsr h.grown ⟨A,o,none⟩ lA _⟩;exact⟨key h.bo,key h.jS,h.ne⟩
theorem Cr.mV.d7{A t:Nat}{S:Cr.W}{how inp:N1}{sp:Nat->Bool}(h:Cr.mV w x T X gC gE gI cC cE cI kC kE kI mC mE mI S)(hA:ay x A 36 12 (Cr.iD how inp sp))(lA:w.heap.size<=A)(u v:Int)(b:Bool):Cr.mV w (((x.setCell ⟨A,t*3,none⟩ (.int .i64 u)).setCell ⟨A,t*3+1,none⟩ (.int .i64 v)).setCell ⟨A,t*3+2,none⟩ (.bool b)) T X gC gE gI cC cE cI kC kE kI mC mE mI S/\ay (((x.setCell ⟨A,t*3,none⟩ (.int .i64 u)).setCell ⟨A,t*3+1,none⟩ (.int .i64 v)).setCell ⟨A,t*3+2,none⟩ (.bool b)) A 36 12 (Cr.iD (fun k=>if k=t then u else how k) (fun k=>if k=t then v else inp k) (fun k=>if k=t then b else sp k)) :=
 ⟨((h.dQ hA lA _).dQ (hA.store (t*3) (.int .i64 u)) lA _).dQ ((hA.store (t*3) (.int .i64 u)).store (t*3+1) (.int .i64 v)) lA _,Cr.F7 hA u v b⟩
end Go.Proofs.YtbanjoflgoiegaaGreat
namespace Go.Proofs.YtbanjoflgoiegaaGreat
open Go.Proofs.Tryz
open Go.RowKit Go.ChangeShapes Go.WideShapes
variable{A T X cC cE cI gC gE gI kC kE kI mC mE mI:Nat}{how inp:N1}{sp:Nat->Bool}{w x:World}
def Cr.Vl(w:World)(a:Option Addr)(len:Nat)(z:Nat->Int × Int × Bool):Prop :=
 len<=maxLen/\∀i,i<len->∃b o,a=some ⟨b,o,none⟩/\b<w.heap.size/\w.cell? ⟨b,o+i*3,none⟩=some (.int .i64 (z i).1)/\w.cell? ⟨b,o+i*3+1,none⟩=some (.int .i64 (z i).2.1)/\w.cell? ⟨b,o+i*3+2,none⟩=some (.bool (z i).2.2)
theorem Cr.Vl.on{w':World}{a:Option Addr}{len:Nat}{z:Nat->Int × Int × Bool}(h:Cr.Vl w a len z)(hg:w.grownBy w' none):Cr.Vl w' a len z :=
 ⟨h.1,fun i hi=>by
  obtain⟨b,o,ha,hb,h0,h1,h2⟩:=h.2 i hi
  exact⟨b,o,ha,abR hb hg.size,(gce hg b _ hb (by simp)).trans h0,(gce hg b _ hb (by simp)).trans h1,(gce hg b _ hb (by simp)).trans h2⟩⟩
theorem Pc{H:Type}{enc:TypeId × Value->H}{ar:Nat}{held:Bool}{fuel:Nat}{a:Option Addr}{len aG:Nat}{x:DataW H × List MemPlace}(h:DataW.trod enc prog w ar sp held fuel 23 [.slice a len aG]=some x):∃z,Cr.Vl w a len z:=by
 rcases Go.Deep.open_slice underlying23 h with⟨fp,_⟩|⟨a',XV,oN,m,n,D,Pl,fp,_,hl,hm,zN,_,hx⟩
 ·simp only[List.cons.injEq,Value.slice.injEq,and_true]at fp;obtain⟨rfl,rfl,rfl⟩:=fp;exact⟨fun _=>(0,0,false),Nat.zero_le _,fun i hi=>absurd hi (Nat.not_lt_zero i)⟩
 ·simp only[List.cons.injEq,Value.slice.injEq,and_true]at fp;obtain⟨rfl,rfl,rfl⟩:=fp;have Yw:prog.cellsOf 34=3:=by kernel_rfl
  have VD:prog.cellsOf 3=1:=by kernel_rfl
  have SF:prog.cellsOf 4=1:=by kernel_rfl
  rw[Yw]at hx;have hlm:len<=m:=by rw[zN];split <;> omega
  obtain⟨z,hz⟩:∃z:Nat->Int × Int × Bool,∀i,i<len->w.cell? ((a'.add (i*3)).add 0)=some (.int .i64 (z i).1)/\w.cell? ((a'.add (i*3)).add 1)=some (.int .i64 (z i).2.1)/\w.cell? ((a'.add (i*3)).add 2)=some (.bool (z i).2.2):=by
   refine Go.Deep.choose_lt (α:=Int × Int × Bool) (p:=fun i e=>w.cell? ((a'.add (i*3)).add 0)=some (.int .i64 e.1)/\w.cell? ((a'.add (i*3)).add 1)=some (.int .i64 e.2.1)/\w.cell? ((a'.add (i*3)).add 2)=some (.bool e.2.2)) fun i hi=>?_;obtain⟨sB,h1,h2⟩:=hx i (by omega);obtain⟨_,hlen,hcell⟩:=World.cells?_some h1;obtain⟨xs,n',_,_,_,Rl,hf⟩:=DataW.trod_struct underlying34 h2;have hx3:xs.length=3:=Rl;have f0:DataW.trod enc prog w ar sp held n' 3 ((sB.drop 0).take (prog.cellsOf 3))=xs[0]?:=hf 0 _ rfl;have f1:DataW.trod enc prog w ar sp held n' 3 ((sB.drop 1).take (prog.cellsOf 3))=xs[1]?:=hf 1 _ rfl;have f2:DataW.trod enc prog w ar sp held n' 4 ((sB.drop 2).take (prog.cellsOf 4))=xs[2]?:=hf 2 _ rfl;rw[VD,Go.Deep.take1_drop sB 0 undef (by omega),abQ (by omega)]at f0;rw[VD,Go.Deep.take1_drop sB 1 undef (by omega),abQ (by omega)]at f1;rw[SF,Go.Deep.take1_drop sB 2 undef (by omega),abQ (by omega)]at f2;obtain⟨u,hu,_⟩:=DataW.trod_int underlying3 f0;obtain⟨v,hv,_⟩:=DataW.trod_int underlying3 f1;obtain⟨b,hb,_⟩:=DataW.trod_bool underlying4 f2;simp only[List.getD_eq_getElem?_getD,abQ (show 0<sB.length by omega),Option.getD_some,List.cons.injEq,and_true]at hu;simp only[List.getD_eq_getElem?_getD,abQ (show 1<sB.length by omega),Option.getD_some,List.cons.injEq,and_true]at hv;simp only[List.getD_eq_getElem?_getD,abQ (show 2<sB.length by omega),Option.getD_some,List.cons.injEq,and_true]at hb;refine⟨(u,v,b),(hcell 0 (by omega)).trans ?_,(hcell 1 (by omega)).trans ?_,(hcell 2 (by omega)).trans ?_⟩
   ·rw[abQ (by omega),hu]
   ·rw[abQ (by omega),hv]
   ·rw[abQ (by omega),hb]
  refine⟨z,abM hl hm,fun i hi=>?_⟩;obtain⟨b,off,spot⟩:=a';obtain⟨h0,h1,h2⟩:=hz i hi;have oY:spot=none:=by simpa [Addr.add] using World.cell?_spot (hz 0 (by omega)).1
  subst oY;rw[add_plain,add_plain]at h0 h1 h2;exact⟨b,off,rfl,Go.block_lt_of_cell h0,h0,h1,h2⟩
structure Cr.aca(w x:World)(T X A gC gE gI cC cE cI kC kE kI mC mE mI:Nat)(how inp:N1)(sp:Nat->Bool)(S:Cr.W):Prop where
 iY:Cr.mV w x T X gC gE gI cC cE cI kC kE kI mC mE mI S
 d7:ay x A 36 12 (Cr.iD how inp sp)
 lA:w.heap.size<=A
theorem Cr.aca.on{y:World}{S:Cr.W}(h:Cr.aca w x T X A gC gE gI cC cE cI kC kE kI mC mE mI how inp sp S)(hg:x.grownBy y none):Cr.aca w y T X A gC gE gI cC cE cI kC kE kI mC mE mI how inp sp S:=⟨h.iY.on hg,h.d7.on hg,h.lA⟩
theorem Cr.aca.Gi{S:Cr.W}(h:Cr.aca w x T X A gC gE gI cC cE cI kC kE kI mC mE mI how inp sp S):Cr.aca w (x.setCell ⟨A,2,none⟩ (.bool true)) T X A gC gE gI cC cE cI kC kE kI mC mE mI how inp (fun k=>if k=0 then true else sp k) S :=
 ⟨h.iY.dQ h.d7 h.lA _,(h.d7.store 2 (.bool true)).congr fun c _=>by
  unfold Cr.iD
  dsimp only
  by_cases e:c=2
  ·rw[abP e,abO (by omega),abO (by omega),abP (by omega)]
  ·rw[abO e]
   by_cases e3:c%3=0
   ·rw[abP e3,abP e3]
   ·rw[abO e3,abO e3]
    by_cases e1:c%3=1
    ·rw[abP e1,abP e1]
    ·rw[abO e1,abO e1,abO (by omega)],h.lA⟩
theorem Cr.aca.dQ{S:Cr.W}(h:Cr.aca w x T X A gC gE gI cC cE cI kC kE kI mC mE mI how inp sp S)(t:Nat)(u v:Int)(b:Bool):Cr.aca w (((x.setCell ⟨A,t*3,none⟩ (.int .i64 u)).setCell ⟨A,t*3+1,none⟩ (.int .i64 v)).setCell ⟨A,t*3+2,none⟩ (.bool b)) T X A gC gE gI cC cE cI kC kE kI mC mE mI (fun k=>if k=t then u else how k) (fun k=>if k=t then v else inp k) (fun k=>if k=t then b else sp k) S :=
 ⟨(h.iY.d7 h.d7 h.lA u v b).1,(h.iY.d7 h.d7 h.lA u v b).2,h.lA⟩
