import Derived.Test.YtbanjoflgoiegaaGreatPart16
import Derived.Test.YtbanjoflgoiegaaGreatPart14
set_option maxHeartbeats 6400000
namespace Go.Proofs.YtbanjoflgoiegaaGreat
open Go.Proofs.Tryz
open Go.RowKit
structure Gd.oF(c g:N1)(E I:N2):Prop where
 cells:∀i,0<=c i/\c i<=255
 ir:∀t,t<4->0<=g t/\g t<=999
 hp:∀k,k<32->0<=E k 5/\E k 5<=1000
 ok:Gd.Ok c 40 I
def Gd.dN(I:N2)(s X Y:Int)(jK:Bool)(G input:Int):Int :=
 if input=5 then(if 0<=Gd.an I 40 1 X Y/\I (Gd.an I 40 1 X Y).toNat 0=4 then min (G+5) 999 else G)
 else if input=10 then(if Gd.ze I 40 s jK G=true then G-5 else G)else G
def Gd.eQ(E I:N2)(k:Nat)(s input:Int):Nat->Nat->Int:=if input=6/\0<=Gd.lF I 40 s 1 1 then Gd.oT E k else E
theorem Gd.dM(g:N1)(t:Nat):Gd.jw g t (g t)=g:=by
 funext i;unfold Gd.jw;split
 ·rename_i h;rw[h]
 ·rfl
theorem Gd.RU(I:N2)(s:Int):Gd.IY I 40 s (fun k=>Gd.g5 k 6)=Gd.lF I 40 s 1 1:=by
 rw[Gd.uo];refine Gd.sv fun k _ _=>?_;show(if (6:Int)=6 then decide (I k 0=1)else _)=_;rw[abP rfl];by_cases h:I k 0=1
 ·simp[h]
 ·rw[abI h];by_cases h1:1<=I k 0
  ·rw[abI (show¬I k 0<=1 by omega),Bool.and_false]
  ·rw[abI h1,Bool.false_and]
theorem Gd.RV(I:N2)(s:Int):Gd.IY I 40 s (fun k=>Gd.g5 k 7)=Gd.lF I 40 s 2 3:=by
 rw[Gd.uo];refine Gd.sv fun k _ _=>?_;show(if (7:Int)=6 then _ else if (7:Int)=7 then decide (I k 0=2)||decide (I k 0=3)else true)=_;rw[abO (by decide),abP rfl];by_cases h:I k 0=2\/I k 0=3
 ·rcases h with h|h <;> simp[h]
 ·rw[abI (show¬I k 0=2 by omega),abI (show¬I k 0=3 by omega)];by_cases h1:2<=I k 0
  ·rw[abI (show¬I k 0<=3 by omega),Bool.and_false];rfl
  ·rw[abI h1,Bool.false_and];rfl
theorem Gd.RW{c:N1}{I:N2}(h:Gd.Ok c 40 I)(s:Int):Gd.IY I 40 s (fun k=>Gd.g5 k 8)=Gd.lF I 40 s 1 3:=by
 rw[Gd.uo];refine Gd.sv fun k hk hw=>?_;show(if (8:Int)=6 then _ else if (8:Int)=7 then _ else true)=_;rw[abO (by decide),abO (by decide)];obtain⟨h1,h2,h3⟩:=h.of hk (by omega);have:I k 0<=3:=by rcases h3 with h3|h3|h3|h3 <;> omega
 rw[abJ h1,abJ this];rfl
theorem Qn(ar:Nat->Prop)(B gC gE gI cC cE cI k t:Nat)(s g c:N1)(E I:N2)(input:Int)(x:World)(H:Gd.eE x B gC gE gI cC cE cI s g c E I)(hk:k<32)(ht:t<4)(he:E k 2=(t:Int))(F:Gd.oF c g E I)(MW:¬ar B)(NY:¬ar gE)(uq:¬ar gI):Calls prog 170 #[.pointer (some ⟨B,0,none⟩),.pointer (some ⟨gE,k*11,none⟩),.int .i64 input] x (Gd.pL ar x B gC gE gI cC cE cI s (Gd.jw g t (Gd.dN I (t:Int) (E k 3) (E k 4) (decide (Gr.at 384 c (E k 3) (E k 4)=5)) (g t) input)) c (Gd.eQ E I k (t:Int) input) (Gd.dQ I 40 (t:Int) (E k 3) (E k 4) (decide (Gr.at 384 c (E k 3) (E k 4)=5)) (g t) input)):=by
 obtain⟨X,hX⟩:=abV (E k 3);obtain⟨Y,hY⟩:=abV (E k 4);obtain⟨sh,js⟩:∃sh,decide (Gr.at 384 c (E k 3) (E k 4)=5)=sh:=⟨_,rfl⟩;have none:=Nf ar B gC gE gI cC cE cI k t s g c E I input x H hk ht he F.cells;have Vt:=F.ir t ht;have gs:=Gd.dM g t;by_cases h5:input=5
 ·subst h5;have e6:Gd.eQ E I k (t:Int) 5=E:=abO (by rintro⟨h,_⟩;omega);have ew:∀sh,Gd.jt I (t:Int) (E k 3) (E k 4) sh (g t) 5=Gd.an I 40 1 (E k 3) (E k 4):=fun _=>abP rfl;have ea:∀sh,Gd.dQ I 40 (t:Int) (E k 3) (E k 4) sh (g t) 5=Gd.pick I 40 (t:Int) (E k 3) (E k 4):=fun _=>abP rfl;have eg:∀sh,Gd.dN I (t:Int) (E k 3) (E k 4) sh (g t) 5=(if 0<=Gd.an I 40 1 (E k 3) (E k 4)/\I (Gd.an I 40 1 (E k 3) (E k 4)).toNat 0=4 then min (g t+5) 999 else g t):=fun _=>abP rfl;rw[ea,eg,e6];unfold Gd.pick;by_cases hf:0<=Gd.an I 40 1 (E k 3) (E k 4)
  ·obtain⟨m,hm,em,m1,_⟩:=Gd.gd hf;rw[em,abG];by_cases h4:I m 0=4
   ·rw[abP ⟨by omega,h4⟩,abP ⟨by omega,h4⟩];exact Nd ar B gC gE gI cC cE cI k t m s g c E I x H hk ht he F.cells uq hm MW h4 Vt.1 Vt.2 (by rw[ew,em])
   ·rw[abO (fun h=>h4 h.2),abO (fun h=>h4 h.2),gs];by_cases hs:0<=Gd.cY I 40 (t:Int)
    ·obtain⟨f,fb⟩:∃f:Nat,Gd.cY I 40 (t:Int)=(f:Int):=⟨(Gd.cY I 40 (t:Int)).toNat,by omega⟩;rw[abP ⟨by omega,hs⟩,fb];have r:=Ng ar B gC gE gI cC cE cI k t m s g c E I x H hk ht he F.cells uq hm MW Vt.1 Vt.2 h4 m1 f fb (by rw[ew,em])
     rwa [gs]at r
    ·rw[abO (fun h=>hs h.2)];exact wY ar B gC gE gI cC cE cI k t m s g c E I x H hk ht he F.cells hm h4 (by omega) (by rw[ew,em])
  ·rw[abO (fun h=>hf h.1),abO (fun h=>hf h.1),abO (fun h=>hf h.1),gs];exact none (by rw[ew];omega)
 ·by_cases sH:input=10
  ·subst sH;have e6:Gd.eQ E I k (t:Int) 10=E:=abO (by rintro⟨h,_⟩;omega);have ew:∀sh:Bool,Gd.jt I (t:Int) (E k 3) (E k 4) sh (g t) 10=(if sh=true/\5<=g t then Gd.ja I 40 else -1):=fun _=>by
    unfold Gd.jt;rw[abO (by decide),abP rfl]
   have ea:∀sh,Gd.dQ I 40 (t:Int) (E k 3) (E k 4) sh (g t) 10=Gd.Qw I 40 (t:Int) sh (g t):=fun _=>by
    unfold Gd.dQ;rw[abO (by decide),abO (by decide),abO (by decide),abO (by decide),abP rfl]
   have eg:∀sh,Gd.dN I (t:Int) (E k 3) (E k 4) sh (g t) 10=(if Gd.ze I 40 (t:Int) sh (g t)=true then g t-5 else g t):=fun _=>by
    unfold Gd.dN;rw[abO (by decide),abP rfl]
   rw[ea,eg,e6,js];rw[js]at none;unfold Gd.Qw Gd.ze;by_cases VM:sh=true/\5<=g t
   ·by_cases sS:0<=Gd.ja I 40
    ·obtain⟨m,hm,em,m1⟩:=Gd.wI sS;have ew':Gd.jt I (t:Int) (E k 3) (E k 4) (decide (Gr.at 384 c (E k 3) (E k 4)=5)) (g t) 10=(m:Int):=by rw[js,ew,abP VM,em]
     by_cases hs:0<=Gd.cY I 40 (t:Int)
     ·obtain⟨f,fb⟩:∃f:Nat,Gd.cY I 40 (t:Int)=(f:Int):=⟨(Gd.cY I 40 (t:Int)).toNat,by omega⟩;have vr:(sh&&(decide (5<=g t)&&(decide (0<=Gd.cY I 40 (t:Int))&&decide (0<=Gd.ja I 40))))=true:=(by simp[VM.1,VM.2,hs,sS]);rw[abP vr,abP vr,em,abG,fb];exact Qo ar B gC gE gI cC cE cI k t m s g c E I x H hk ht he F.cells uq hm MW Vt.1 Vt.2 m1 f fb ew'
     ·have vr:¬(sh&&(decide (5<=g t)&&(decide (0<=Gd.cY I 40 (t:Int))&&decide (0<=Gd.ja I 40))))=true:=(by simp[hs]);rw[abO vr,abO vr,gs];exact yX ar B gC gE gI cC cE cI k t m s g c E I x H hk ht he F.cells hm (by omega) ew'
    ·have vr:¬(sh&&(decide (5<=g t)&&(decide (0<=Gd.cY I 40 (t:Int))&&decide (0<=Gd.ja I 40))))=true:=(by simp[sS]);rw[abO vr,abO vr,gs];exact none (by rw[ew,abP VM];omega)
   ·have vr:¬(sh&&(decide (5<=g t)&&(decide (0<=Gd.cY I 40 (t:Int))&&decide (0<=Gd.ja I 40))))=true:=by
     intro h;simp only[Bool.and_eq_true,decide_eq_true_eq]at h;exact VM ⟨h.1,h.2.1⟩
    rw[abO vr,abO vr,gs];exact none (by rw[ew,abO VM];omega)
  ·have eg:∀sh,Gd.dN I (t:Int) (E k 3) (E k 4) sh (g t) input=g t:=fun _=>by
    unfold Gd.dN;rw[abO h5,abO sH]
   rw[eg,gs];by_cases h8:input=8
   ·subst h8;have e6:Gd.eQ E I k (t:Int) 8=E:=abO (by rintro⟨h,_⟩;omega);have ew:∀sh:Bool,Gd.jt I (t:Int) (E k 3) (E k 4) sh (g t) 8=(if 0<=Gd.an I 40 1 (E k 3) (E k 4)then -1 else Gd.lF I 40 (t:Int) 1 3):=fun _=>by
     unfold Gd.jt;rw[abO (by decide),abO (by decide),abP rfl,Gd.RW F.ok]
    have ea:∀sh,Gd.dQ I 40 (t:Int) (E k 3) (E k 4) sh (g t) 8=Gd.drop I 40 (t:Int) (E k 3) (E k 4):=fun _=>by
     unfold Gd.dQ;rw[abO (by decide),abO (by decide),abO (by decide),abP rfl]
    rw[ea,e6];unfold Gd.drop;by_cases hf:0<=Gd.an I 40 1 (E k 3) (E k 4)
    ·rw[abO (fun h=>by omega)];exact none (by rw[ew,abP hf];omega)
    ·by_cases hh:0<=Gd.lF I 40 (t:Int) 1 3
     ·obtain⟨m,hm,em,_⟩:=Gd.kO hh;rw[abP ⟨hh,by omega⟩,em,abG];exact Nc ar B gC gE gI cC cE cI k t m s g c E I x H hk ht he F.cells uq hm (by rw[ew,abO hf,em])
     ·rw[abO (fun h=>hh h.1)];exact none (by rw[ew,abO hf];omega)
   ·by_cases h6:input=6
    ·subst h6;have ew:∀sh:Bool,Gd.jt I (t:Int) (E k 3) (E k 4) sh (g t) 6=Gd.lF I 40 (t:Int) 1 1:=fun _=>by
      unfold Gd.jt;rw[abO (by decide),abO (by decide),abO (by decide),abP rfl,Gd.RU]
     have ea:∀sh,Gd.dQ I 40 (t:Int) (E k 3) (E k 4) sh (g t) 6=Gd.use I 40 (t:Int):=fun _=>by
      unfold Gd.dQ;rw[abO (by decide),abP rfl]
     rw[ea];unfold Gd.use Gd.eQ;by_cases hh:0<=Gd.lF I 40 (t:Int) 1 1
     ·obtain⟨m,hm,em,_⟩:=Gd.kO hh;rw[abP hh,abP ⟨rfl,hh⟩,em,abG];exact Qp ar B gC gE gI cC cE cI k t m s g c E I x H hk ht he F.cells NY uq (F.hp k hk).1 (F.hp k hk).2 hm (by rw[ew,em])
     ·rw[abO hh,abO (fun h=>hh h.2)];exact none (by rw[ew];omega)
    ·have e6:Gd.eQ E I k (t:Int) input=E:=abO (fun h=>h6 h.1);rw[e6];by_cases h7:input=7
     ·subst h7;have ew:∀sh:Bool,Gd.jt I (t:Int) (E k 3) (E k 4) sh (g t) 7=Gd.lF I 40 (t:Int) 2 3:=fun _=>by
       unfold Gd.jt;rw[abO (by decide),abO (by decide),abO (by decide),abO (by decide),abP rfl,Gd.RV]
      have ea:∀sh,Gd.dQ I 40 (t:Int) (E k 3) (E k 4) sh (g t) 7=Gd.FP I 40 (t:Int):=fun _=>by
       unfold Gd.dQ;rw[abO (by decide),abO (by decide),abP rfl]
      rw[ea];unfold Gd.FP;by_cases hh:0<=Gd.lF I 40 (t:Int) 2 3
      ·obtain⟨m,hm,em,m1,m2,_,_,l0,l1⟩:=Gd.kO hh;rw[abP hh,em,abG];have r:=Ni ar B gC gE gI cC cE cI k t m s g c E I x H hk ht he F.cells uq hm (by omega) (by omega) m1 (by rw[ew,em])
       rwa [m2]at r
      ·rw[abO hh];exact none (by rw[ew];omega)
     ·have ew:∀sh:Bool,Gd.jt I (t:Int) (E k 3) (E k 4) sh (g t) input=-1:=fun _=>by
       unfold Gd.jt;rw[abO h5,abO sH,abO h8,abO h6,abO h7]
      have ea:∀sh,Gd.dQ I 40 (t:Int) (E k 3) (E k 4) sh (g t) input=I:=fun _=>by
       unfold Gd.dQ;rw[abO h5,abO h6,abO h7,abO h8,abO sH]
      rw[ea];exact none (by rw[ew];omega)
variable{B cC cE cI gC gE gI:Nat}{E I:N2}{c g s:N1}{w x:World}
structure Gd.au(w x:World)(B gC gE gI cC cE cI:Nat)(s g c:N1)(E I:N2):Prop where
 af:Gd.eE x B gC gE gI cC cE cI s g c E I
 jo:w.heap.size=B
 lC:B+2<=gC
 lE:B+2<=gE
 lI:B+2<=gI
 aG:32<=cE
 bl:ay x (B+1) 30 11 (fun j=>#[.int .i64 0,.int .i64 0,.int .i64 0,.int .i64 0,.slice none 0 0,.slice none 0 0,.slice none 0 0,.int .i64 0,.int .i64 0,.int .i64 0,Value.int .i64 0][j]?.getD undef)
 grown:w.grownBy x none
theorem Gd.au.on{y:World}(h:Gd.au w x B gC gE gI cC cE cI s g c E I)(hg:x.grownBy y none):Gd.au w y B gC gE gI cC cE cI s g c E I :=
 { h with af:=h.af.on hg,bl:=h.bl.on hg,grown:=gtr h.grown hg }
theorem Gd.au.bN(h:Gd.au w x B gC gE gI cC cE cI s g c E I)(vs:List Value):Gd.cL w s g c E I (.returned (.agg (Gd.world s gC gE gI cC cE cI g))) (x.setCells (B+1) 0 vs):=by
 have hB:=h.jo;have lC:=h.lC;have lE:=h.lE;have lI:=h.lI;have r:=gss (g:=B+1) vs 0 x (abF _ _);exact⟨gC,gE,gI,cC,cE,cI,rfl,h.aG,by omega,by omega,by omega,h.af.cE,h.af.cI,h.af.eI,⟨h.af.ab.cells.grown r (by simp;omega),h.af.ab.ai.grown r (by simp;omega),h.af.ab.aj.grown r (by simp;omega)⟩,aA (by omega) vs 0 x h.grown⟩
structure Gd.bU(w x:World)(B gC gE gI cC cE cI:Nat)(s g c:N1)(E I:N2):Prop where
 af:Gd.eE x B gC gE gI cC cE cI s g c E I
 jo:w.heap.size=B
 lC:B+2<=gC
 lE:B+2<=gE
 lI:B+2<=gI
 aG:32<=cE/\384<=cC
 bl:ay x (B+1) 30 11 (fun j=>#[.int .i64 0,.int .i64 0,.int .i64 0,.int .i64 0,.slice none 0 0,.slice none 0 0,.slice none 0 0,.int .i64 0,.int .i64 0,.int .i64 0,Value.int .i64 0][j]?.getD undef)
 grown:w.grownBy x none
theorem Gd.bU.on{y:World}(h:Gd.bU w x B gC gE gI cC cE cI s g c E I)(hg:x.grownBy y none):Gd.bU w y B gC gE gI cC cE cI s g c E I :=
 { h with af:=h.af.on hg,bl:=h.bl.on hg,grown:=gtr h.grown hg }
theorem Gd.bU.bN(h:Gd.bU w x B gC gE gI cC cE cI s g c E I)(vs:List Value):Gd.gH w s g c E I (.returned (.agg (Gd.world s gC gE gI cC cE cI g))) (x.setCells (B+1) 0 vs):=by
 have hB:=h.jo;have lC:=h.lC;have lE:=h.lE;have lI:=h.lI;have r:=gss (g:=B+1) vs 0 x (abF _ _);exact⟨gC,gE,gI,cC,cE,cI,rfl,h.aG,by omega,by omega,by omega,h.af.cE,h.af.cI,h.af.eI,⟨h.af.ab.cells.grown r (by simp;omega),h.af.ab.ai.grown r (by simp;omega),h.af.ab.aj.grown r (by simp;omega)⟩,aA (by omega) vs 0 x h.grown⟩
theorem Gd.bU.aaS(h:Gd.bU w x B gC gE gI cC cE cI s g c E I):Gd.au w x B gC gE gI cC cE cI s g c E I :=
 ⟨h.af,h.jo,h.lC,h.lE,h.lI,h.aG.1,h.bl,h.grown⟩
theorem Gd.kr(w:World)(gC gE gI cC cE cI:Nat)(s g:N1):∃x,x=(w.alloc (.cells (Gd.world s gC gE gI cC cE cI g) 30)).alloc (.cells #[.int .i64 0,.int .i64 0,.int .i64 0,.int .i64 0,.slice none 0 0,.slice none 0 0,.slice none 0 0,.int .i64 0,.int .i64 0,.int .i64 0,.int .i64 0] 30)/\ay x w.heap.size 30 11 (Gd.box s gC gE gI cC cE cI g)/\ay x (w.heap.size+1) 30 11 (fun j=>#[.int .i64 0,.int .i64 0,.int .i64 0,.int .i64 0,.slice none 0 0,.slice none 0 0,.slice none 0 0,.int .i64 0,.int .i64 0,.int .i64 0,Value.int .i64 0][j]?.getD undef)/\w.grownBy x none/\x.heap.size=w.heap.size+2:=by
 refine⟨_,rfl,((ax.world (abH w (.cells (Gd.world s gC gE gI cC cE cI g) 30))).alloc _).lie,?_,gal (abE _ _ _) _,by simp⟩;have h:=ax.lit (abH (w.alloc (.cells (Gd.world s gC gE gI cC cE cI g) 30)) (.cells #[.int .i64 0,.int .i64 0,.int .i64 0,.int .i64 0,.slice none 0 0,.slice none 0 0,.slice none 0 0,.int .i64 0,.int .i64 0,.int .i64 0,.int .i64 0] 30));rw[show(w.alloc (.cells (Gd.world s gC gE gI cC cE cI g) 30)).heap.size=w.heap.size+1 by simp]at h;exact h.lie
theorem ay.iP{T:TypeId}{F:Nat->Value}(h:ay x B T 11 F)(s g:N1)(gC gE gI cC cE cI:Nat):ay (x.setCells B 0 (Gd.world s gC gE gI cC cE cI g).toList) B T 11 (Gd.box s gC gE gI cC cE cI g):=by
 refine(h.kl 0 _).congr fun j hj=>?_;show(if 0<=j/\j<0+11 then(Gd.world s gC gE gI cC cE cI g).toList[j-0]?.getD undef else F j)=_;rw[abP (by omega),Nat.sub_zero,Array.getElem?_toList,Gd.wK s gC gE gI cC cE cI g j hj];rfl
theorem Gd.aq{R:Nat}(h:ay x R 30 11 (fun j=>#[.int .i64 0,.int .i64 0,.int .i64 0,.int .i64 0,.slice none 0 0,.slice none 0 0,.slice none 0 0,.int .i64 0,.int .i64 0,.int .i64 0,Value.int .i64 0][j]?.getD undef)):x.cell? ⟨R,0,none⟩=some (.int .i64 0)/\x.cell? ⟨R,1,none⟩=some (.int .i64 0)/\x.cell? ⟨R,2,none⟩=some (.int .i64 0)/\x.cell? ⟨R,3,none⟩=some (.int .i64 0)/\x.cell? ⟨R,4,none⟩=some (.slice none 0 0)/\x.cell? ⟨R,5,none⟩=some (.slice none 0 0)/\x.cell? ⟨R,6,none⟩=some (.slice none 0 0)/\x.cell? ⟨R,7,none⟩=some (.int .i64 0)/\x.cell? ⟨R,8,none⟩=some (.int .i64 0)/\x.cell? ⟨R,9,none⟩=some (.int .i64 0)/\x.cell? ⟨R,10,none⟩=some (.int .i64 0) :=
 ⟨h.cell (by omega),h.cell (by omega),h.cell (by omega),h.cell (by omega),h.cell (by omega),h.cell (by omega),h.cell (by omega),h.cell (by omega),h.cell (by omega),h.cell (by omega),h.cell (by omega)⟩
def Gd.aV(E:N2)(ag:Int):Int:=En.first (En.dg E ag) 32
def Gd.eJ(c g:N1)(E I:N2)(ag input:Int):Nat->Nat->Int :=
 if 0<=ag/\ag<4/\0<=Gd.aV E ag then Gd.dQ I 40 ag (E (Gd.aV E ag).toNat 3) (E (Gd.aV E ag).toNat 4) (decide (Gr.at 384 c (E (Gd.aV E ag).toNat 3) (E (Gd.aV E ag).toNat 4)=5)) (g ag.toNat) input else I
def Gd.eH(E I:N2)(ag input:Int):Nat->Nat->Int :=
 if 0<=ag/\ag<4/\0<=Gd.aV E ag then Gd.eQ E I (Gd.aV E ag).toNat ag input else E
def Gd.bW(c g:N1)(E I:N2)(ag input:Int):Nat->Int :=
 if 0<=ag/\ag<4/\0<=Gd.aV E ag then Gd.jw g ag.toNat (Gd.dN I ag (E (Gd.aV E ag).toNat 3) (E (Gd.aV E ag).toNat 4) (decide (Gr.at 384 c (E (Gd.aV E ag).toNat 3) (E (Gd.aV E ag).toNat 4)=5)) (g ag.toNat) input)else g
theorem Gd.gV{ag:Int}(h:0<=Gd.aV E ag):∃k:Nat,k<32/\Gd.aV E ag=(k:Int)/\E k 2=ag/\E k 0=1:=by
 unfold Gd.aV at *;rcases En.aw (En.dg E ag) 32 with⟨h',_⟩|⟨k,hk,h',hq,_⟩
 ·omega
 ·simp only[En.dg,Bool.and_eq_true,decide_eq_true_eq]at hq;exact⟨k,hk,h',hq.2,hq.1⟩
theorem QE(s g c:N1)(E I:N2)(gC gE gI cC cE cI:Nat)(ag input:Int)(w:World)(hL:Gd.av w gC gE gI c E I)(g':N1)(E' I':N2)(hno:¬(0<=ag/\ag<4/\0<=Gd.aV E ag)->g'=g/\E'=E/\I'=I)(gw:0<=ag->ag<4->∀k:Nat,k<32->Gd.aV E ag=(k:Int)->∀(B g1 g2 g3 c1 c2 c3:Nat)(x:World),Gd.bU w x B g1 g2 g3 c1 c2 c3 s g c E I->Calls prog 170 #[.pointer (some ⟨B,0,none⟩),.pointer (some ⟨g2,k*11,none⟩),.int .i64 input] x fun e x'=>e=.returned (.tuple #[])/\Gd.bU w x' B g1 g2 g3 c1 c2 c3 s g' c E' I'):Calls prog 147 #[.agg (Gd.world s gC gE gI cC cE cI g),.int .i64 ag,.int .i64 input] w (Gd.gH w s g' c E' I'):=by
 obtain⟨w0,aD,aF,aM,aN,eC⟩:=Gd.kr w gC gE gI cC cE cI s g;have ca:=uK s g c E I gC gE gI cC cE cI w0 (hL.on aN);have aT:=aa hno;have OC:=aa gw;obtain⟨b0,b1,b2,b3,b4,b5,b6,b7,b8,b9,b10⟩:=aF.ae;have da:=aa aF;have jM:=aa aM;have dv:=aa aN;have en:=aa eC;have gQ:=aa ca;have kB:=aF.free;clear hL hno gw ca aF aM aN eC;unfold Gd.world at aD gQ|-;go_enter func147,ntmps147;go_upto_region 1 with fail;rw[<-aD];clear aD;obtain⟨B,hB⟩:=abV w.heap.size;rw[hB]at da jM en b0 b1 b2 b3 b4 b5 b6 b7 b8 b9 b10|-;have eu:=aa hB;rw[hB]at kB;clear hB;go_cut [] from 8 (fun wx=>∃g1 g2 g3 c1 c2 c3,Hid (Gd.bU w wx B g1 g2 g3 c1 c2 c3 s g c E I))
 case first =>
  go_wp2_with fail;refine(uh gQ).mono ?_;rintro e w1 ⟨g1,g2,g3,c1,c2,c3,rfl,ap,l1,l2,l3,n1,n2,n3,hL1,hg1⟩;obtain⟨y0,y1,y2,y3,y4,y5,y6,y7,y8,y9,y10⟩:=((uh da).on hg1).ae;have fB:=((uh da).on hg1).free;have fin:Hid (Gd.bU w (w1.setCells B 0 (Gd.world s g1 g2 g3 c1 c2 c3 g).toList) B g1 g2 g3 c1 c2 c3 s g c E I):=by
   have r:=gss (g:=B) (Gd.world s g1 g2 g3 c1 c2 c3 g).toList 0 w1 (abF _ _);have hB:=uh eu;have hs:=uh en;exact⟨⟨((uh da).on hg1).iP s g g1 g2 g3 c1 c2 c3,⟨hL1.cells.grown r (by simp;omega),hL1.ai.grown r (by simp;omega),hL1.aj.grown r (by simp;omega)⟩,by omega,by omega,by omega,n1,n2,n3⟩,hB,by omega,by omega,by omega,ap,((uh jM).on hg1).grown r (by simp),aA (by omega) _ 0 w1 (gtr (uh dv) hg1)⟩
  unfold Gd.world at fin|-;clear ap l1 l2 l3 n1 n2 n3 hL1 hg1 b0 b1 b2 b3 b4 b5 b6 b7 b8 b9 b10 kB gQ;go_wp2_with fail;go_meet;exact⟨g1,g2,g3,c1,c2,c3,fin⟩
 case rest =>
  obtain⟨g1,g2,g3,c1,c2,c3,hX⟩:=hcut;clear b0 b1 b2 b3 b4 b5 b6 b7 b8 b9 b10 kB gQ da jM dv en eu;clear w0;have Vr:=fun wx=>JN ag wx;by_cases K5:0<=ag/\ag<4
  ·rw[show Gd.zU ag=true from abJ K5]at Vr;have cs:=aa Vr;clear Vr;obtain⟨wT,hs4⟩:=K5;go_wp2_with fail;refine abW (uh cs _) ?_;have b5:=(uh hX).af.box.ae.2.2.2.2.2.1;have Yf:=nh g2 32 c2 E ag wc (uh hX).af.ab.own.ai (uh hX).aG.1;have hp:=@Gd.gV E ag;change Calls _ _ _ _ (aJ wc (.int .i64 (Gd.aV E ag)))at Yf;obtain⟨h,hh⟩:=abV (Gd.aV E ag);rw[hh]at Yf hp;have ch:=aa Yf;have uu:=aa hp;have ov:=aa hh;clear Yf hp hh cs;go_wp2_with fail;refine aaR (uh ch) fun w2 hg2=>?_;have mu:=aa ((uh hX).on hg2);clear hg2 ch b5 hX;by_cases kf:0<=h
   ·obtain⟨k,hk,rfl,_⟩:=uh uu kf;have b5:=(uh mu).af.box.ae.2.2.2.2.2.1;have ca:=aa (uh OC wT hs4 k hk (uh ov) B g1 g2 g3 c1 c2 c3 w2 (uh mu));have jy:(k:Int)<32:=(by omega);clear uu ov;go_wp2_with fail;refine aaR (uh ca) fun w3 bP=>?_;clear ca b5 mu;have da:=aa bP;obtain⟨b0,b1,b2,b3,b4,b5,b6,b7,b8,b9,b10⟩:=(uh da).af.box.ae;have fz:=(uh da).bl.free;obtain⟨z0,z1,z2,z3,z4,z5,z6,z7,z8,z9,bO⟩:=Gd.aq (uh da).bl;have ah:=aa (fun vs=>(uh da).bN vs);go_wp2;refine abN (v:=.agg (Gd.world s g1 g2 g3 c1 c2 c3 g')) (by simp[results,results147,go_sem,Gd.world,z0,z1,z2,z3,z4,z5,z6,z7,z8,z9,bO]) rfl ?_;exact uh ah [_,_,_,_,_,_,_,_,_,_,_]
   ·obtain⟨rfl,rfl,rfl⟩:=uh aT (fun hc=>kf (by rw[<-uh ov];exact hc.2.2));have dH:h<0:=(by omega);clear uu ov OC aT;have da:=aa (uh mu);obtain⟨b0,b1,b2,b3,b4,b5,b6,b7,b8,b9,b10⟩:=(uh da).af.box.ae;have fz:=(uh da).bl.free;obtain⟨z0,z1,z2,z3,z4,z5,z6,z7,z8,z9,bO⟩:=Gd.aq (uh da).bl;have ah:=aa (fun vs=>(uh da).bN vs);go_wp2;refine abN (v:=.agg (Gd.world s g1 g2 g3 c1 c2 c3 g')) (by simp[results,results147,go_sem,Gd.world,z0,z1,z2,z3,z4,z5,z6,z7,z8,z9,bO]) rfl ?_;exact uh ah [_,_,_,_,_,_,_,_,_,_,_]
  ·rw[show Gd.zU ag=false from abI K5]at Vr;have cs:=aa Vr;obtain⟨rfl,rfl,rfl⟩:=uh aT (fun hc=>K5 ⟨hc.1,hc.2.1⟩);clear Vr aT OC;go_wp2_with fail;refine abW (uh cs _) ?_;have da:=aa (uh hX);obtain⟨b0,b1,b2,b3,b4,b5,b6,b7,b8,b9,b10⟩:=(uh da).af.box.ae;have fz:=(uh da).bl.free;obtain⟨z0,z1,z2,z3,z4,z5,z6,z7,z8,z9,bO⟩:=Gd.aq (uh da).bl;have ah:=aa (fun vs=>(uh da).bN vs);go_wp2;refine abN (v:=.agg (Gd.world s g1 g2 g3 c1 c2 c3 g')) (by simp[results,results147,go_sem,Gd.world,z0,z1,z2,z3,z4,z5,z6,z7,z8,z9,bO]) rfl ?_;exact uh ah [_,_,_,_,_,_,_,_,_,_,_]
theorem QF(s g c:N1)(E I:N2)(gC gE gI cC cE cI:Nat)(ag input:Int)(w:World)(hL:Gd.av w gC gE gI c E I)(F:Gd.oF c g E I):Calls prog 147 #[.agg (Gd.world s gC gE gI cC cE cI g),.int .i64 ag,.int .i64 input] w (Gd.gH w s (Gd.bW c g E I ag input) c (Gd.eH E I ag input) (Gd.eJ c g E I ag input)):=by
 refine QE s g c E I gC gE gI cC cE cI ag input w hL _ _ _ (fun h=>⟨abO h,abO h,abO h⟩) ?_;intro s0 s4 k hk hh B g1 g2 g3 c1 c2 c3 x hX;obtain⟨t,rfl⟩:∃t:Nat,ag=(t:Int):=⟨ag.toNat,by omega⟩;obtain⟨k',_,jy,he,_⟩:=Gd.gV (E:=E) (ag:=(t:Int)) (by omega);have ek:k'=k:=by omega
 rw[ek]at he;have c:0<=(t:Int)/\(t:Int)<4/\0<=Gd.aV E (t:Int):=⟨s0,s4,by omega⟩;unfold Gd.bW Gd.eH Gd.eJ;rw[abP c,abP c,abP c,hh,abG,abG];have b1:=hX.jo;have b2:=hX.lE;have b3:=hX.lI;have b4:=hX.lC;refine(Qn (fun i=>i≠B/\i≠g2/\i≠g3) B g1 g2 g3 c1 c2 c3 k t s g _ E I input x hX.af hk (by omega) he F (fun h=>h.1 rfl) (fun h=>h.2.1 rfl) (fun h=>h.2.2 rfl)).mono ?_;rintro e x' ⟨h1,h2,h3⟩;exact⟨h1,h2,hX.jo,hX.lC,hX.lE,hX.lI,hX.aG,hX.bl.frame h3 ⟨by omega,by omega,by omega⟩,h3.grown hX.grown (fun i hi=>⟨by omega,by omega,by omega⟩)⟩
