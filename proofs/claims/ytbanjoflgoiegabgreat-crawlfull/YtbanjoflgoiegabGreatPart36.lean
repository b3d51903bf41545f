/-
  CrawlStage CrawlActs CrawlFrm CrawlBox
-/
import Derived.Test.YtbanjoflgoiegabGreatPart35
import Derived.Test.YtbanjoflgoiegabGreatPart33
import Derived.Test.YtbanjoflgoiegabGreatPart22
import Derived.BigQuiet
import Derived.Deep.Cut
import Derived.Deep.CutRange
import Derived.Deep.CutBlock
import Derived.Deep.RegionHeld3
import Derived.Test.YtbanjoflgoiegabGreatPart23
import Derived.Test.YtbanjoflgoiegabGreatPart20
namespace Go.Proofs.YtbanjoflgoiegabGreat
open Go.RowKit

theorem Cr.join_keeps {E:Nat→Nat→Int} {e:Nat→Int} {k:Nat} (k0:E k 0≠0):Cr.join E e k=E k:=by
 rcases Cr.join_cases E e with h | ⟨f,_,f0,_,h⟩
 ·rw [h]
 ·rw [h,En.put_other (fun x=>k0 (by rw [x];exact f0))]

theorem Cr.manned_of {E:Nat→Nat→Int} {t k:Nat} (ht:t<4) (hk:k<32) (k1:E k 0=1) (k2:E k 2=(t:Int)):Cr.manned E=true:=by
 refine decide_eq_true ⟨t,ht,?_⟩
 unfold Gd.hero
 rcases En.first_cases (En.heroQ E (t:Int)) 32 with ⟨_,hno⟩ | ⟨j,_,hj,_⟩
 ·have:=hno k hk
  simp [En.heroQ,k1,k2] at this
 ·omega

theorem Cr.Comes.manned {c:Nat→Int} {t:Int} {sp:Bool} {E F:Nat→Nat→Int} (h:Cr.Comes c t sp E F) (hm:Cr.manned E=true):Cr.manned F=true:=by
 unfold Cr.Comes at h
 split at h
 ·obtain ⟨v,_,⟨_,rfl⟩ | ⟨q,_,rfl⟩⟩:=h
  ·exact hm
  ·obtain ⟨t',ht,h0⟩:=of_decide_eq_true hm
   obtain ⟨k,hk,_,k2,k1⟩:=Gd.hero_pos h0
   have e:=Cr.join_keeps (e:=Cr.one 1 t q) (E:=E) (k:=k) (by omega)
   exact Cr.manned_of ht hk (by rw [e];exact k1) (by rw [e];exact k2)
 ·rw [h];exact hm

theorem Cr.ComesTo.manned {c:Nat→Int} {sp:Nat→Bool}:∀{t:Nat} {E F:Nat→Nat→Int},Cr.ComesTo c sp t E F→Cr.manned E=true→Cr.manned F=true
 | 0,_,_,h,hm=>by rw [h];exact hm
 | _+1,_,_,⟨_,hG,hF⟩,hm=>hF.manned (hG.manned hm)

def Cr.Stage (how inp:Nat→Int) (sp:Nat→Bool) (S:Cr.W) (n:Nat) (met left:Bool) (T:Cr.W):Prop :=
 if n=0 then left=false∧T=⟨Cr.num S.s 1 (S.s 1+1),S.g,S.c,S.E,S.I⟩
 else if n=1 then ∃A,Cr.ComesTo S.c sp 4 S.E A∧met=Cr.manned A∧left=false∧T=⟨Cr.num S.s 1 (S.s 1+1),S.g,S.c,A,S.I⟩
 else if n=2 then ∃A m,Cr.ComesTo S.c sp 4 S.E A∧Cr.MovedTo (Cr.num S.s 1 (S.s 1+1)) S.c how inp 4 ⟨S.g,A,S.I,false⟩ m∧met=Cr.manned A∧left=m.left∧T=⟨Cr.num S.s 1 (S.s 1+1),m.g,S.c,m.E,m.I⟩
 else if n=3 then ∃A m F J,Cr.ComesTo S.c sp 4 S.E A∧Cr.MovedTo (Cr.num S.s 1 (S.s 1+1)) S.c how inp 4 ⟨S.g,A,S.I,false⟩ m∧Cr.ProwlTo (Cr.num S.s 1 (S.s 1+1)) S.c 32 m.E m.I F J∧met=Cr.manned A∧left=m.left∧T=⟨Cr.num S.s 1 (S.s 1+1),m.g,S.c,F,J⟩
 else if n=4 then ∃A m F J,Cr.ComesTo S.c sp 4 S.E A∧Cr.MovedTo (Cr.num S.s 1 (S.s 1+1)) S.c how inp 4 ⟨S.g,A,S.I,false⟩ m∧Cr.ProwlTo (Cr.num S.s 1 (S.s 1+1)) S.c 32 m.E m.I F J∧met=Cr.manned A∧left=m.left∧T=⟨Cr.num S.s 1 (S.s 1+1),m.g,S.c,Cr.rats (Cr.num S.s 1 (S.s 1+1)) S.c (Ft.ailE F J 32).1,(Ft.ailE F J 32).2⟩
 else Cr.IsStep how inp sp S T

theorem Cr.Stage.fit {how inp:Nat→Int} {sp:Nat→Bool} {S T:Cr.W} {n:Nat} {met left:Bool} (h:Cr.Stage how inp sp S n met left T) (hS:Cr.Good S) (hn:n≤4):Cr.Sane T.c T.E T.I∧Cr.Gold T.g∧Nv.Floor T.c∧1≤T.s 2∧T.s 2≤3:=by
 have n2:Cr.num S.s 1 (S.s 1+1) 2=S.s 2:=Cr.num_else _ _ (by omega)
 have f1:=hS.f1
 have f3:=hS.f3
 unfold Cr.Stage at h
 split at h
 ·obtain ⟨_,rfl⟩:=h
  exact ⟨hS.sane,hS.gold,hS.floor,by show 1≤Cr.num S.s 1 (S.s 1+1) 2;omega,by show Cr.num S.s 1 (S.s 1+1) 2≤3;omega⟩
 split at h
 ·obtain ⟨A,hA,_,_,rfl⟩:=h
  exact ⟨hS.sane.comesTo (by omega) hA,hS.gold,hS.floor,by show 1≤Cr.num S.s 1 (S.s 1+1) 2;omega,by show Cr.num S.s 1 (S.s 1+1) 2≤3;omega⟩
 split at h
 ·obtain ⟨A,m,hA,hm,_,_,rfl⟩:=h
  have sm:Cr.MFit S.c m:=Cr.MFit.movedTo (m:=⟨S.g,A,S.I,false⟩) ⟨hS.sane.comesTo (by omega) hA,hS.gold⟩ hm
  exact ⟨sm.1,sm.2,hS.floor,by show 1≤Cr.num S.s 1 (S.s 1+1) 2;omega,by show Cr.num S.s 1 (S.s 1+1) 2≤3;omega⟩
 split at h
 ·obtain ⟨A,m,F,J,hA,hm,hF,_,_,rfl⟩:=h
  have sm:Cr.MFit S.c m:=Cr.MFit.movedTo (m:=⟨S.g,A,S.I,false⟩) ⟨hS.sane.comesTo (by omega) hA,hS.gold⟩ hm
  exact ⟨sm.1.prowlTo (by omega) hF,sm.2,hS.floor,by show 1≤Cr.num S.s 1 (S.s 1+1) 2;omega,by show Cr.num S.s 1 (S.s 1+1) 2≤3;omega⟩
 split at h
 ·obtain ⟨A,m,F,J,hA,hm,hF,_,_,rfl⟩:=h
  have sm:Cr.MFit S.c m:=Cr.MFit.movedTo (m:=⟨S.g,A,S.I,false⟩) ⟨hS.sane.comesTo (by omega) hA,hS.gold⟩ hm
  exact ⟨((sm.1.prowlTo (by omega) hF).ail).rats hS.floor,sm.2,hS.floor,by show 1≤Cr.num S.s 1 (S.s 1+1) 2;omega,by show Cr.num S.s 1 (S.s 1+1) 2≤3;omega⟩
 ·omega

theorem Cr.Stage.come {how inp:Nat→Int} {sp:Nat→Bool} {S T:Cr.W} {met left:Bool} (h:Cr.Stage how inp sp S 0 met left T) {A:Nat→Nat→Int} (hA:Cr.ComesTo T.c sp 4 T.E A):Cr.Stage how inp sp S 1 (Cr.manned A) left ⟨T.s,T.g,T.c,A,T.I⟩:=by
 obtain ⟨h1,rfl⟩:=h
 exact ⟨A,hA,rfl,h1,rfl⟩

theorem Cr.Stage.act {how inp:Nat→Int} {sp:Nat→Bool} {S T:Cr.W} {met left:Bool} (h:Cr.Stage how inp sp S 1 met left T) {m:Cr.M} (hm:Cr.MovedTo T.s T.c how inp 4 ⟨T.g,T.E,T.I,left⟩ m):Cr.Stage how inp sp S 2 met m.left ⟨T.s,m.g,T.c,m.E,m.I⟩:=by
 obtain ⟨A,hA,h1,rfl,rfl⟩:=h
 exact ⟨A,m,hA,hm,h1,rfl,rfl⟩

theorem Cr.Stage.hunt {how inp:Nat→Int} {sp:Nat→Bool} {S T:Cr.W} {met left:Bool} (h:Cr.Stage how inp sp S 2 met left T) {F J:Nat→Nat→Int} (hF:Cr.ProwlTo T.s T.c 32 T.E T.I F J):Cr.Stage how inp sp S 3 met left ⟨T.s,T.g,T.c,F,J⟩:=by
 obtain ⟨A,m,hA,hm,h1,h2,rfl⟩:=h
 exact ⟨A,m,F,J,hA,hm,hF,h1,h2,rfl⟩

theorem Cr.Stage.ail {how inp:Nat→Int} {sp:Nat→Bool} {S T:Cr.W} {met left:Bool} (h:Cr.Stage how inp sp S 3 met left T):Cr.Stage how inp sp S 4 met left ⟨T.s,T.g,T.c,Cr.rats T.s T.c (Ft.ailE T.E T.I 32).1,(Ft.ailE T.E T.I 32).2⟩:=by
 obtain ⟨A,m,F,J,hA,hm,hF,h1,h2,rfl⟩:=h
 exact ⟨A,m,F,J,hA,hm,hF,h1,h2,rfl⟩

theorem Cr.Stage.ends {how inp:Nat→Int} {sp:Nat→Bool} {S T U:Cr.W} {met left:Bool} (h:Cr.Stage how inp sp S 4 met left T) (h0:S.s 3=0) (hU:Cr.Ends T.s T.g T.c T.E T.I met left U):Cr.Stage how inp sp S 5 met left U:=by
 obtain ⟨A,m,F,J,hA,hm,hF,h1,h2,rfl⟩:=h
 show Cr.IsStep how inp sp S U
 unfold Cr.IsStep
 rw [if_neg (fun hh=>hh h0)]
 refine ⟨A,m,F,J,hA,hm,hF,?_⟩
 have e:(Cr.manned S.E || Cr.manned A)=met:=by
  rw [h1]
  cases hm:Cr.manned S.E
  ·rfl
  ·rw [hA.manned hm];rfl
 rw [e,←h2]
 exact hU


open Go.RowKit

theorem within10_any (a n : Int) (w : World) (hn : 0 < n) (hn2 : n ≤ 4611686018427387904) :
    Calls Tryz.prog 10 #[.int .i64 a,.int .i64 n] w fun e w'=>e=.returned (.int .i64 (a % n))∧w'=w:=by
  have t1:=Int.tmod_lt_of_pos a (b:=n) hn
  have t2:=Int.lt_tmod_of_pos a (b:=n) hn
  have hn0:(n == 0)=false:=by simp;omega
  by_cases h:a.tmod n<0
  · have ha:¬0≤a:=by
      intro h0
      have:=Int.tmod_nonneg n h0
      omega
    have hd:=hide (Gr.within_neg a n hn h)
    go_enter Tryz.func10,Tryz.ntmps10
    go_wp2
    go_ret
    exact ⟨rti (uh hd),rfl⟩
  · have hd:=hide (Gr.within_pos a n hn h)
    by_cases ha:0≤a
    · have e:a.tmod n=a % n:=Int.tmod_eq_emod_of_nonneg ha
      have h':¬a % n<0:=by rw [←e];exact h
      clear h t1 t2 e
      go_enter Tryz.func10,Tryz.ntmps10
      go_wp2
      go_ret
      exact ⟨rfl,rfl⟩
    · go_enter Tryz.func10,Tryz.ntmps10
      go_wp2
      go_ret
      exact ⟨rti (uh hd),rfl⟩

def Cr.acts (h i:Nat→Int) (b:Nat→Bool):Array Value:=#[.int .i64 (h 0),.int .i64 (i 0),.bool (b 0),.int .i64 (h 1),.int .i64 (i 1),.bool (b 1),.int .i64 (h 2),.int .i64 (i 2),.bool (b 2),.int .i64 (h 3),.int .i64 (i 3),.bool (b 3)]

def Cr.actF (h i:Nat→Int) (b:Nat→Bool) (j:Nat):Value:=if j % 3=0 then .int .i64 (h (j / 3)) else if j % 3=1 then .int .i64 (i (j / 3)) else .bool (b (j / 3))

theorem Cr.acts_lie {x:World} {A:Nat} {T:TypeId} {h i:Nat→Int} {b:Nat→Bool} (hA:x.heap[A]?=some (.cells (Cr.acts h i b) T (0,0))):Lie x A T 12 (Cr.actF h i b) :=
 Lie.congr (m:=12) (Arr.lit hA).lie fun j hj=>by
  rcases (show j=0∨j=1∨j=2∨j=3∨j=4∨j=5∨j=6∨j=7∨j=8∨j=9∨j=10∨j=11 by omega) with rfl | rfl | rfl | rfl | rfl | rfl | rfl | rfl | rfl | rfl | rfl | rfl <;> rfl

theorem Cr.acts_put {x : World} {A t : Nat} {T : TypeId} {h i : Nat → Int} {b : Nat → Bool} (hA : Lie x A T 12 (Cr.actF h i b)) (u v : Int) (c : Bool) :
    Lie (((x.setCell ⟨A,t*3,none⟩ (.int .i64 u)).setCell ⟨A,t*3+1,none⟩ (.int .i64 v)).setCell ⟨A,t*3+2,none⟩ (.bool c)) A T 12 (Cr.actF (fun k=>if k=t then u else h k) (fun k=>if k=t then v else i k) (fun k=>if k=t then c else b k)):=by
  refine (((hA.store _ _).store _ _).store _ _).congr fun j _=>?_
  unfold Cr.actF
  by_cases e:j / 3=t
  · rcases (show j=t*3∨j=t*3+1∨j=t*3+2 by omega) with hj | hj | hj
    · have h0:j % 3=0:=by omega
      rw [if_neg (by omega),if_neg (by omega),if_pos hj,if_pos h0]
      simp only [e,if_true]
    · have h0:j % 3=1:=by omega
      rw [if_neg (by omega),if_pos hj,if_neg (by omega),if_pos h0]
      simp only [e,if_true]
    · have h0:j % 3=2:=by omega
      rw [if_pos hj,if_neg (by omega),if_neg (by omega)]
      simp only [e,if_true]
  · rw [if_neg (by omega),if_neg (by omega),if_neg (by omega)]
    simp only [e,if_false]


open Go.RowKit

def Cr.frm (s:Nat→Int) (gC gE gI cC cE cI:Nat) (g how inp:Nat→Int) (sp:Nat→Bool) (met left:Bool) (j:Nat):Value :=
 if j<11 then Gd.box s gC gE gI cC cE cI g j else if j<23 then Cr.actF how inp sp (j - 11) else if j=23 then .bool met else .bool left

structure Cr.Frm (v x:World) (P gC gE gI cC cE cI:Nat) (how inp:Nat→Int) (sp:Nat→Bool) (met left:Bool) (s g c:Nat→Int) (E I:Nat→Nat→Int):Prop where
 box:Lie x P 59 25 (Cr.frm s gC gE gI cC cE cI g how inp sp met left)
 lists:Gd.Lists x gC gE gI c E I
 cap:32≤cE∧384≤cC
 lP:v.heap.size≤P
 lC:v.heap.size≤gC
 lE:v.heap.size≤gE
 lI:v.heap.size≤gI
 cE:gC≠gE
 cI:gC≠gI
 eI:gE≠gI
 grown:v.grownBy x none

theorem Cr.Frm.on {v x y:World} {P gC gE gI cC cE cI:Nat} {how inp:Nat→Int} {sp:Nat→Bool} {met left:Bool} {s g c:Nat→Int} {E I:Nat→Nat→Int} (h:Cr.Frm v x P gC gE gI cC cE cI how inp sp met left s g c E I) (hg:x.grownBy y none):Cr.Frm v y P gC gE gI cC cE cI how inp sp met left s g c E I :=
 { h with box:=h.box.on hg,lists:=h.lists.on hg,grown:=gtr h.grown hg }

theorem Cr.Frm.apart {v x:World} {P gC gE gI cC cE cI:Nat} {how inp:Nat→Int} {sp:Nat→Bool} {met left:Bool} {s g c:Nat→Int} {E I:Nat→Nat→Int} (h:Cr.Frm v x P gC gE gI cC cE cI how inp sp met left s g c E I):P≠gC∧P≠gE∧P≠gI :=
 ⟨h.box.type_ne h.lists.cells (by decide),h.box.type_ne h.lists.ents (by decide),h.box.type_ne h.lists.items (by decide)⟩

theorem Cr.frm_lo {s:Nat→Int} {gC gE gI cC cE cI:Nat} {g how inp:Nat→Int} {sp:Nat→Bool} {met left:Bool} {j:Nat} (hj:j<11):Cr.frm s gC gE gI cC cE cI g how inp sp met left j=Gd.box s gC gE gI cC cE cI g j:=if_pos hj

theorem Cr.frm_act {s:Nat→Int} {gC gE gI cC cE cI:Nat} {g how inp:Nat→Int} {sp:Nat→Bool} {met left:Bool} {j:Nat} (hj:j<12):Cr.frm s gC gE gI cC cE cI g how inp sp met left (11+j)=Cr.actF how inp sp j:=by
 unfold Cr.frm
 rw [if_neg (by omega),if_pos (by omega),show 11+j - 11=j by omega]

theorem Cr.Frm.eleven {v x : World} {P gC gE gI cC cE cI : Nat} {how inp : Nat → Int} {sp : Nat → Bool} {met left : Bool} {s g c : Nat → Int} {E I : Nat → Nat → Int} (h : Cr.Frm v x P gC gE gI cC cE cI how inp sp met left s g c E I) :
    x.cell? ⟨P,0,none⟩=some (.int .i64 (s 0))∧x.cell? ⟨P,1,none⟩=some (.int .i64 (s 1))∧x.cell? ⟨P,2,none⟩=some (.int .i64 (s 2))∧x.cell? ⟨P,3,none⟩=some (.int .i64 (s 3))∧x.cell? ⟨P,4,none⟩=some (.slice (some ⟨gC,0,none⟩) 384 cC)∧x.cell? ⟨P,5,none⟩=some (.slice (some ⟨gE,0,none⟩) 32 cE)∧x.cell? ⟨P,6,none⟩=some (.slice (some ⟨gI,0,none⟩) 40 cI)∧x.cell? ⟨P,7,none⟩=some (.int .i64 (g 0))∧x.cell? ⟨P,8,none⟩=some (.int .i64 (g 1))∧x.cell? ⟨P,9,none⟩=some (.int .i64 (g 2))∧x.cell? ⟨P,10,none⟩=some (.int .i64 (g 3)):=by
  have hc:∀j,j<11→x.cell? ⟨P,j,none⟩=some (Gd.box s gC gE gI cC cE cI g j):=fun j hj=>(h.box.cell (c:=j) (by omega)).trans (by rw [Cr.frm_lo hj])
  exact ⟨hc 0 (by omega),hc 1 (by omega),hc 2 (by omega),hc 3 (by omega),hc 4 (by omega),hc 5 (by omega),hc 6 (by omega),hc 7 (by omega),hc 8 (by omega),hc 9 (by omega),hc 10 (by omega)⟩

theorem Cr.Frm.words {v x:World} {P gC gE gI cC cE cI:Nat} {how inp:Nat→Int} {sp:Nat→Bool} {met left:Bool} {s g c:Nat→Int} {E I:Nat→Nat→Int} (h:Cr.Frm v x P gC gE gI cC cE cI how inp sp met left s g c E I):x.cell? ⟨P,23,none⟩=some (.bool met)∧x.cell? ⟨P,24,none⟩=some (.bool left) :=
 ⟨h.box.cell (c:=23) (by omega),h.box.cell (c:=24) (by omega)⟩

theorem Cr.Frm.act {v x : World} {P gC gE gI cC cE cI : Nat} {how inp : Nat → Int} {sp : Nat → Bool} {met left : Bool} {s g c : Nat → Int} {E I : Nat → Nat → Int} (h : Cr.Frm v x P gC gE gI cC cE cI how inp sp met left s g c E I) {t : Nat} (ht : t < 4) :
    x.cell? ⟨P,11+t*3,none⟩=some (.int .i64 (how t))∧x.cell? ⟨P,11+t*3+1,none⟩=some (.int .i64 (inp t))∧x.cell? ⟨P,11+t*3+2,none⟩=some (.bool (sp t)):=by
  have hc:∀j,j<12→x.cell? ⟨P,11+j,none⟩=some (Cr.actF how inp sp j):=fun j hj=>(h.box.cell (c:=11+j) (by omega)).trans (by rw [Cr.frm_act hj])
  refine ⟨(hc (t*3) (by omega)).trans ?_,(hc (t*3+1) (by omega)).trans ?_,(hc (t*3+2) (by omega)).trans ?_⟩ <;> unfold Cr.actF
  · rw [if_pos (by omega),show t*3 / 3=t by omega]
  · rw [if_neg (by omega),if_pos (by omega),show (t*3+1) / 3=t by omega]
  · rw [if_neg (by omega),if_neg (by omega),show (t*3+2) / 3=t by omega]

theorem Cr.Frm.twelve {v x : World} {P gC gE gI cC cE cI : Nat} {how inp : Nat → Int} {sp : Nat → Bool} {met left : Bool} {s g c : Nat → Int} {E I : Nat → Nat → Int} (h : Cr.Frm v x P gC gE gI cC cE cI how inp sp met left s g c E I) :
    x.cell? ⟨P,11,none⟩=some (.int .i64 (how 0))∧x.cell? ⟨P,12,none⟩=some (.int .i64 (inp 0))∧x.cell? ⟨P,13,none⟩=some (.bool (sp 0))∧x.cell? ⟨P,14,none⟩=some (.int .i64 (how 1))∧x.cell? ⟨P,15,none⟩=some (.int .i64 (inp 1))∧x.cell? ⟨P,16,none⟩=some (.bool (sp 1))∧x.cell? ⟨P,17,none⟩=some (.int .i64 (how 2))∧x.cell? ⟨P,18,none⟩=some (.int .i64 (inp 2))∧x.cell? ⟨P,19,none⟩=some (.bool (sp 2))∧x.cell? ⟨P,20,none⟩=some (.int .i64 (how 3))∧x.cell? ⟨P,21,none⟩=some (.int .i64 (inp 3))∧x.cell? ⟨P,22,none⟩=some (.bool (sp 3)) :=
  ⟨(h.act (t:=0) (by omega)).1,(h.act (t:=0) (by omega)).2.1,(h.act (t:=0) (by omega)).2.2,(h.act (t:=1) (by omega)).1,(h.act (t:=1) (by omega)).2.1,(h.act (t:=1) (by omega)).2.2,(h.act (t:=2) (by omega)).1,(h.act (t:=2) (by omega)).2.1,(h.act (t:=2) (by omega)).2.2,(h.act (t:=3) (by omega)).1,(h.act (t:=3) (by omega)).2.1,(h.act (t:=3) (by omega)).2.2⟩

theorem Cr.Frm.set {v x : World} {P gC gE gI cC cE cI gC' gE' gI' cC' cE' cI' : Nat} {how inp : Nat → Int} {sp : Nat → Bool} {met left met' left' : Bool} {s g c s' g' : Nat → Int} {E I : Nat → Nat → Int} (h : Cr.Frm v x P gC gE gI cC cE cI how inp sp met left s g c E I) (k : Nat) (u : Value) (he : ∀ j, j < 25 → (if j = k then u else Cr.frm s gC gE gI cC cE cI g how inp sp met left j) = Cr.frm s' gC' gE' gI' cC' cE' cI' g' how inp sp met' left' j) :
    Lie (x.setCell ⟨P,k,none⟩ u) P 59 25 (Cr.frm s' gC' gE' gI' cC' cE' cI' g' how inp sp met' left')∧Gd.Lists (x.setCell ⟨P,k,none⟩ u) gC gE gI c E I∧v.grownBy (x.setCell ⟨P,k,none⟩ u) none:=by
  obtain ⟨n1,n2,n3⟩:=h.apart
  exact ⟨(h.box.store k u).congr he,⟨h.lists.cells.other n1 _ _,h.lists.ents.other n2 _ _,h.lists.items.other n3 _ _⟩,gsr h.grown ⟨P,k,none⟩ h.lP _⟩

theorem Cr.Frm.met {v x:World} {P gC gE gI cC cE cI:Nat} {how inp:Nat→Int} {sp:Nat→Bool} {met left:Bool} {s g c:Nat→Int} {E I:Nat→Nat→Int} (h:Cr.Frm v x P gC gE gI cC cE cI how inp sp met left s g c E I) (b:Bool):Cr.Frm v (x.setCell ⟨P,23,none⟩ (.bool b)) P gC gE gI cC cE cI how inp sp b left s g c E I:=by
 obtain ⟨h1,h2,h3⟩:=h.set 23 (.bool b) (s':=s) (gC':=gC) (gE':=gE) (gI':=gI) (cC':=cC) (cE':=cE) (cI':=cI) (g':=g) (met':=b) (left':=left) fun j _=>by
  unfold Cr.frm
  by_cases e:j=23
  ·rw [if_pos e,if_neg (by omega),if_neg (by omega),if_pos e]
  ·rw [if_neg e,if_neg e,if_neg e]
 exact { h with box:=h1,lists:=h2,grown:=h3 }

theorem Cr.Frm.left {v x:World} {P gC gE gI cC cE cI:Nat} {how inp:Nat→Int} {sp:Nat→Bool} {met left:Bool} {s g c:Nat→Int} {E I:Nat→Nat→Int} (h:Cr.Frm v x P gC gE gI cC cE cI how inp sp met left s g c E I) (b:Bool):Cr.Frm v (x.setCell ⟨P,24,none⟩ (.bool b)) P gC gE gI cC cE cI how inp sp met b s g c E I:=by
 obtain ⟨h1,h2,h3⟩:=h.set 24 (.bool b) (s':=s) (gC':=gC) (gE':=gE) (gI':=gI) (cC':=cC) (cE':=cE) (cI':=cI) (g':=g) (met':=met) (left':=b) fun j hj=>by
  unfold Cr.frm
  by_cases e:j=24
  ·rw [if_pos e,if_neg (by omega),if_neg (by omega),if_neg (by omega)]
  ·rw [if_neg e]
   by_cases e1:j<11
   ·rw [if_pos e1,if_pos e1]
   ·by_cases e2:j<23
    ·rw [if_neg e1,if_neg e1,if_pos e2,if_pos e2]
    ·rw [if_neg e1,if_neg e1,if_neg e2,if_neg e2,if_pos (show j=23 by omega),if_pos (show j=23 by omega)]
 exact { h with box:=h1,lists:=h2,grown:=h3 }

theorem Cr.frm_over {s:Nat→Int} {gC gE gI cC cE cI gC' gE' gI' cC' cE' cI' k:Nat} {g how inp s' g':Nat→Int} {sp:Nat→Bool} {met left:Bool} {u:Value} (he:∀j,j<11→(if j=k then u else Gd.box s gC gE gI cC cE cI g j)=Gd.box s' gC' gE' gI' cC' cE' cI' g' j) (hk:k<11):∀j,j<25→(if j=k then u else Cr.frm s gC gE gI cC cE cI g how inp sp met left j)=Cr.frm s' gC' gE' gI' cC' cE' cI' g' how inp sp met left j:=fun j _=>by
 by_cases e:j<11
 ·rw [Cr.frm_lo e,Cr.frm_lo e,he j e]
 ·rw [if_neg (by omega)]
  unfold Cr.frm
  rw [if_neg e,if_neg e]

theorem Cr.Frm.num {v x:World} {P gC gE gI cC cE cI:Nat} {how inp:Nat→Int} {sp:Nat→Bool} {met left:Bool} {s g c:Nat→Int} {E I:Nat→Nat→Int} (h:Cr.Frm v x P gC gE gI cC cE cI how inp sp met left s g c E I) (k:Nat) (hk:k<4) (u:Int):Cr.Frm v (x.setCell ⟨P,k,none⟩ (.int .i64 u)) P gC gE gI cC cE cI how inp sp met left (Cr.num s k u) g c E I:=by
 obtain ⟨h1,h2,h3⟩:=h.set k (.int .i64 u) (Cr.frm_over (s':=Cr.num s k u) (gC':=gC) (gE':=gE) (gI':=gI) (cC':=cC) (cE':=cE) (cI':=cI) (g':=g) (fun j hj=>by
  rcases (show k=0∨k=1∨k=2∨k=3 by omega) with rfl | rfl | rfl | rfl <;> rcases (show j=0∨j=1∨j=2∨j=3∨j=4∨j=5∨j=6∨j=7∨j=8∨j=9∨j=10 by omega) with rfl | rfl | rfl | rfl | rfl | rfl | rfl | rfl | rfl | rfl | rfl <;> rfl) (by omega))
 exact { h with box:=h1,lists:=h2,grown:=h3 }

theorem Cr.Frm.folk {v x x' : World} {P gC gE gI cC cE cI jE dE : Nat} {how inp : Nat → Int} {sp : Nat → Bool} {met left : Bool} {s g c : Nat → Int} {E I F : Nat → Nat → Int} (h : Cr.Frm v x P gC gE gI cC cE cI how inp sp met left s g c E I) (hcap : 32 ≤ dE) (hj : jE = gE ∨ x.heap.size ≤ jE) (hO : Own x' jE 32 F) (hg : x.grownBy x' none) :
    Cr.Frm v (x'.setCell ⟨P,5,none⟩ (.slice (some ⟨jE,0,none⟩) 32 dE)) P gC jE gI cC dE cI how inp sp met left s g c F I:=by
  have h':=h.on hg
  have q1:=h.lists.cells.lt
  have q2:=h.lists.items.lt
  have q3:=h.cE
  have q4:=h.eI
  have q5:=h.lE
  have q6:=h.grown.size
  have hE:=hO.lie (m:=352) (by omega)
  have nE:P≠jE:=h'.box.type_ne hE (by decide)
  obtain ⟨h1,h2,h3⟩:=h'.set 5 (.slice (some ⟨jE,0,none⟩) 32 dE) (Cr.frm_over (s':=s) (gC':=gC) (gE':=jE) (gI':=gI) (cC':=cC) (cE':=dE) (cI':=cI) (g':=g) (Gd.box_5 s g gC gE gI cC cE cI jE dE) (by omega))
  exact ⟨h1,⟨h2.cells,hE.other nE _ _,h2.items⟩,⟨hcap,h.cap.2⟩,h.lP,h.lC,by omega,h.lI,by omega,h.cI,by omega,h3⟩

theorem Cr.Frm.stat {v x:World} {P gC gE gI cC cE cI:Nat} {how inp:Nat→Int} {sp:Nat→Bool} {met left:Bool} {s g c:Nat→Int} {E I:Nat→Nat→Int} (h:Cr.Frm v x P gC gE gI cC cE cI how inp sp met left s g c E I) (k j:Nat) (hj:j<11) (u:Int):Cr.Frm v (x.setCell ⟨gE,k*11+j,none⟩ (.int .i64 u)) P gC gE gI cC cE cI how inp sp met left s g c (Gd.set E k j u) I:=by
 obtain ⟨n1,n2,n3⟩:=h.apart
 exact { h with box:=h.box.other n2.symm _ _,lists:=⟨h.lists.cells.other h.cE.symm _ _,h.lists.ents.stat k j hj u,h.lists.items.other h.eI _ _⟩,grown:=gsr h.grown ⟨gE,k*11+j,none⟩ h.lE _ }

theorem Cr.Frm.aside {v x:World} {P gC gE gI cC cE cI Q m:Nat} {T:TypeId} {H:Nat→Value} {how inp:Nat→Int} {sp:Nat→Bool} {met left:Bool} {s g c:Nat→Int} {E I:Nat→Nat→Int} (h:Cr.Frm v x P gC gE gI cC cE cI how inp sp met left s g c E I) (lQ:v.heap.size≤Q) (hQ:Lie x Q T m H) (hT:59≠T) (nE:Q≠gC∧Q≠gE∧Q≠gI) (k:Nat) (u:Value):Cr.Frm v (x.setCell ⟨Q,k,none⟩ u) P gC gE gI cC cE cI how inp sp met left s g c E I :=
 { h with box:=h.box.other (h.box.type_ne hQ hT).symm _ _,lists:=⟨h.lists.cells.other nE.1 _ _,h.lists.ents.other nE.2.1 _ _,h.lists.items.other nE.2.2 _ _⟩,grown:=gsr h.grown ⟨Q,k,none⟩ lQ _ }

theorem Cr.Frm.over {v x x' : World} {P gC gE gI cC cE cI jC jE jI dC dE dI : Nat} {how inp : Nat → Int} {sp : Nat → Bool} {met left : Bool} {s g c s' g' c' : Nat → Int} {E I F J : Nat → Nat → Int} (h : Cr.Frm v x P gC gE gI cC cE cI how inp sp met left s g c E I) (hcap : 32 ≤ dE ∧ 384 ≤ dC) (l1 : x.heap.size ≤ jC) (l2 : x.heap.size ≤ jE) (l3 : x.heap.size ≤ jI) (n1 : jC ≠ jE) (n2 : jC ≠ jI) (n3 : jE ≠ jI) (hL : Gd.Lists x' jC jE jI c' F J) (hg : x.grownBy x' none) :
    Cr.Frm v (x'.setCells P 0 (Gd.world s' jC jE jI dC dE dI g').toList) P jC jE jI dC dE dI how inp sp met left s' g' c' F J:=by
  have h':=h.on hg
  have q:=h.grown.size
  have m1:P≠jC:=h'.box.type_ne hL.cells (by decide)
  have m2:P≠jE:=h'.box.type_ne hL.ents (by decide)
  have m3:P≠jI:=h'.box.type_ne hL.items (by decide)
  refine ⟨(h'.box.stores 0 _).congr fun j hj=>?_,⟨hL.cells.others m1 _ _,hL.ents.others m2 _ _,hL.items.others m3 _ _⟩,hcap,h.lP,by omega,by omega,by omega,n1,n2,n3,own_sets h.lP _ 0 x' h'.grown⟩
  show (if 0≤j∧j<0+11 then (Gd.world s' jC jE jI dC dE dI g').toList[j - 0]?.getD undef else Cr.frm s gC gE gI cC cE cI g how inp sp met left j)=_
  by_cases e:j<11
  · rw [if_pos (by omega),Nat.sub_zero,Array.getElem?_toList,Gd.world_at s' jC jE jI dC dE dI g' j e,Cr.frm_lo e]
    rfl
  · rw [if_neg (by omega)]
    unfold Cr.frm
    rw [if_neg e,if_neg e]

def Cr.Goes (v:World) (P:Nat) (how inp:Nat→Int) (sp:Nat→Bool) (met left:Bool) (s g c:Nat→Int) (E I:Nat→Nat→Int) (e:Ending) (x:World):Prop :=
 e=.returned (.tuple #[])∧∃gC gE gI cC cE cI,Cr.Frm v x P gC gE gI cC cE cI how inp sp met left s g c E I


open Go.RowKit

structure Cr.Hand (w x:World) (B gC gE gI cC cE cI:Nat) (s g c:Nat→Int) (E I:Nat→Nat→Int):Prop where
 hold:Gd.Hold x B gC gE gI cC cE cI s g c E I
 lB:w.heap.size≤B
 cap:32≤cE
 grown:w.grownBy x none

theorem Cr.Hand.on {w x y:World} {B gC gE gI cC cE cI:Nat} {s g c:Nat→Int} {E I:Nat→Nat→Int} (h:Cr.Hand w x B gC gE gI cC cE cI s g c E I) (hg:x.grownBy y none):Cr.Hand w y B gC gE gI cC cE cI s g c E I :=
 ⟨h.hold.on hg,h.lB,h.cap,gtr h.grown hg⟩

theorem Cr.Hand.folk {w x x' : World} {B gC gE gI cC cE cI jE dE : Nat} {s g c : Nat → Int} {E I F : Nat → Nat → Int} (h : Cr.Hand w x B gC gE gI cC cE cI s g c E I) (hcap : 32 ≤ dE) (hj : jE = gE ∨ x.heap.size ≤ jE) (hO : Own x' jE 32 F) (hg : x.grownBy x' none) :
    Cr.Hand w (x'.setCell ⟨B,5,none⟩ (.slice (some ⟨jE,0,none⟩) 32 dE)) B gC jE gI cC dE cI s g c F I:=by
  have h1:=h.hold.box.lt
  have h2:=h.hold.lists.cells.lt
  have h3:=h.hold.lists.items.lt
  have h5:=h.hold.bE
  have h6:=h.hold.cE
  have h7:=h.hold.eI
  have nB:B≠jE:=by omega
  have nC:gC≠jE:=by omega
  have nI:jE≠gI:=by omega
  have r:=gs0 x' B 5 (.slice (some ⟨jE,0,none⟩) 32 dE)
  have hb:=((h.hold.box.on hg).store 5 (.slice (some ⟨jE,0,none⟩) 32 dE)).congr (Gd.box_5 s g gC gE gI cC cE cI jE dE)
  exact ⟨⟨hb,⟨(h.hold.lists.cells.on hg).grown r (by simpa using h.hold.bC),(hO.lie (m:=352) (by omega)).grown r (by simpa using nB),(h.hold.lists.items.on hg).grown r (by simpa using h.hold.bI)⟩,h.hold.bC,nB,h.hold.bI,nC,h.hold.cI,nI⟩,h.lB,hcap,gsr (gtr h.grown hg) ⟨B,5,none⟩ h.lB _⟩

theorem Cr.box_6 (s g:Nat→Int) (gC gE gI cC cE cI jI dI:Nat):∀c,c<11→(if c=6 then Value.slice (some ⟨jI,0,none⟩) 40 dI else Gd.box s gC gE gI cC cE cI g c)=Gd.box s gC gE jI cC cE dI g c:=fun c hc=>by
 rcases (show c=0∨c=1∨c=2∨c=3∨c=4∨c=5∨c=6∨c=7∨c=8∨c=9∨c=10 by omega) with rfl | rfl | rfl | rfl | rfl | rfl | rfl | rfl | rfl | rfl | rfl <;> rfl

theorem Cr.Hand.goods {w x x' : World} {B gC gE gI cC cE cI jI dI : Nat} {s g c : Nat → Int} {E I J : Nat → Nat → Int} (h : Cr.Hand w x B gC gE gI cC cE cI s g c E I) (hj : x.heap.size ≤ jI) (hJ : Lie x' jI 47 160 (Gd.flat J)) (hg : x.grownBy x' none) :
    Cr.Hand w (x'.setCell ⟨B,6,none⟩ (.slice (some ⟨jI,0,none⟩) 40 dI)) B gC gE jI cC cE dI s g c E J:=by
  have h1:=h.hold.box.lt
  have h2:=h.hold.lists.cells.lt
  have h3:=h.hold.lists.ents.lt
  have nB:B≠jI:=by omega
  have r:=gs0 x' B 6 (.slice (some ⟨jI,0,none⟩) 40 dI)
  have hb:=((h.hold.box.on hg).store 6 (.slice (some ⟨jI,0,none⟩) 40 dI)).congr (Cr.box_6 s g gC gE gI cC cE cI jI dI)
  exact ⟨⟨hb,⟨(h.hold.lists.cells.on hg).grown r (by simpa using h.hold.bC),(h.hold.lists.ents.on hg).grown r (by simpa using h.hold.bE),hJ.grown r (by simpa using nB)⟩,h.hold.bC,h.hold.bE,nB,h.hold.cE,by omega,by omega⟩,h.lB,h.cap,gsr (gtr h.grown hg) ⟨B,6,none⟩ h.lB _⟩

end Go.Proofs.YtbanjoflgoiegabGreat
