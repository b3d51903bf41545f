import Derived.Test.YtbanjoflgoiegabGreatPf35
namespace Go.Proofs.YtbanjoflgoiegabGreat
open Go.RowKit

theorem Cr.join_keeps {E:Nat→Nat→Int} {e:Nat→Int} {k:Nat} (k0:E k 0≠0):Cr.join E e k=E k:=by
 rcases Cr.join_cases E e with h | ⟨f,_,f0,_,h⟩
 ·rw [h]
 ·rw [h,En.put_other (fun x=>k0 (by rw [x];exact f0))]

theorem Cr.manned_of {E:Nat→Nat→Int} {t k:Nat} (ht:t<4) (hk:k<32) (k1:E k 0=1) (k2:E k 2=(t:Int)):Cr.manned E=true:=by
 refine decide_eq_true ⟨t,ht,?_⟩
 unfold Gd.hero
 rcases En.first_cases (En.heroQ E (t:Int)) 32 with ⟨_,hno⟩ | ⟨j,_,hj,_⟩
 ·have:=hno k hk
  simp [En.heroQ,k1,k2] at this
 ·omega

theorem Cr.Comes.manned {c:Nat→Int} {t:Int} {sp:Bool} {E F:Nat→Nat→Int} (h:Cr.Comes c t sp E F) (hm:Cr.manned E=true):Cr.manned F=true:=by
 unfold Cr.Comes at h
 split at h
 ·obtain ⟨v,_,⟨_,rfl⟩ | ⟨q,_,rfl⟩⟩:=h
  ·exact hm
  ·obtain ⟨t',ht,h0⟩:=of_decide_eq_true hm
   obtain ⟨k,hk,_,k2,k1⟩:=Gd.hero_pos h0
   have e:=Cr.join_keeps (e:=Cr.one 1 t q) (E:=E) (k:=k) (by omega)
   exact Cr.manned_of ht hk (by rw [e];exact k1) (by rw [e];exact k2)
 ·rw [h];exact hm

theorem Cr.ComesTo.manned {c:Nat→Int} {sp:Nat→Bool}:∀{t:Nat} {E F:Nat→Nat→Int},Cr.ComesTo c sp t E F→Cr.manned E=true→Cr.manned F=true
 | 0,_,_,h,hm=>by rw [h];exact hm
 | _+1,_,_,⟨_,hG,hF⟩,hm=>hF.manned (hG.manned hm)

def Cr.Stage (how inp:Nat→Int) (sp:Nat→Bool) (S:Cr.W) (n:Nat) (met left:Bool) (T:Cr.W):Prop :=
 if n=0 then left=false∧T=⟨Cr.num S.s 1 (S.s 1+1),S.g,S.c,S.E,S.I⟩
 else if n=1 then ∃A,Cr.ComesTo S.c sp 4 S.E A∧met=Cr.manned A∧left=false∧T=⟨Cr.num S.s 1 (S.s 1+1),S.g,S.c,A,S.I⟩
 else if n=2 then ∃A m,Cr.ComesTo S.c sp 4 S.E A∧Cr.MovedTo (Cr.num S.s 1 (S.s 1+1)) S.c how inp 4 ⟨S.g,A,S.I,false⟩ m∧met=Cr.manned A∧left=m.left∧T=⟨Cr.num S.s 1 (S.s 1+1),m.g,S.c,m.E,m.I⟩
 else if n=3 then ∃A m F J,Cr.ComesTo S.c sp 4 S.E A∧Cr.MovedTo (Cr.num S.s 1 (S.s 1+1)) S.c how inp 4 ⟨S.g,A,S.I,false⟩ m∧Cr.ProwlTo (Cr.num S.s 1 (S.s 1+1)) S.c 32 m.E m.I F J∧met=Cr.manned A∧left=m.left∧T=⟨Cr.num S.s 1 (S.s 1+1),m.g,S.c,F,J⟩
 else if n=4 then ∃A m F J,Cr.ComesTo S.c sp 4 S.E A∧Cr.MovedTo (Cr.num S.s 1 (S.s 1+1)) S.c how inp 4 ⟨S.g,A,S.I,false⟩ m∧Cr.ProwlTo (Cr.num S.s 1 (S.s 1+1)) S.c 32 m.E m.I F J∧met=Cr.manned A∧left=m.left∧T=⟨Cr.num S.s 1 (S.s 1+1),m.g,S.c,Cr.rats (Cr.num S.s 1 (S.s 1+1)) S.c (Ft.ailE F J 32).1,(Ft.ailE F J 32).2⟩
 else Cr.IsStep how inp sp S T

theorem Cr.Stage.fit {how inp:Nat→Int} {sp:Nat→Bool} {S T:Cr.W} {n:Nat} {met left:Bool} (h:Cr.Stage how inp sp S n met left T) (hS:Cr.Good S) (hn:n≤4):Cr.Sane T.c T.E T.I∧Cr.Gold T.g∧Nv.Floor T.c∧1≤T.s 2∧T.s 2≤3:=by
 have n2:Cr.num S.s 1 (S.s 1+1) 2=S.s 2:=Cr.num_else _ _ (by omega)
 have f1:=hS.f1
 have f3:=hS.f3
 unfold Cr.Stage at h
 split at h
 ·obtain ⟨_,rfl⟩:=h
  exact ⟨hS.sane,hS.gold,hS.floor,by show 1≤Cr.num S.s 1 (S.s 1+1) 2;omega,by show Cr.num S.s 1 (S.s 1+1) 2≤3;omega⟩
 split at h
 ·obtain ⟨A,hA,_,_,rfl⟩:=h
  exact ⟨hS.sane.comesTo (by omega) hA,hS.gold,hS.floor,by show 1≤Cr.num S.s 1 (S.s 1+1) 2;omega,by show Cr.num S.s 1 (S.s 1+1) 2≤3;omega⟩
 split at h
 ·obtain ⟨A,m,hA,hm,_,_,rfl⟩:=h
  have sm:Cr.MFit S.c m:=Cr.MFit.movedTo (m:=⟨S.g,A,S.I,false⟩) ⟨hS.sane.comesTo (by omega) hA,hS.gold⟩ hm
  exact ⟨sm.1,sm.2,hS.floor,by show 1≤Cr.num S.s 1 (S.s 1+1) 2;omega,by show Cr.num S.s 1 (S.s 1+1) 2≤3;omega⟩
 split at h
 ·obtain ⟨A,m,F,J,hA,hm,hF,_,_,rfl⟩:=h
  have sm:Cr.MFit S.c m:=Cr.MFit.movedTo (m:=⟨S.g,A,S.I,false⟩) ⟨hS.sane.comesTo (by omega) hA,hS.gold⟩ hm
  exact ⟨sm.1.prowlTo (by omega) hF,sm.2,hS.floor,by show 1≤Cr.num S.s 1 (S.s 1+1) 2;omega,by show Cr.num S.s 1 (S.s 1+1) 2≤3;omega⟩
 split at h
 ·obtain ⟨A,m,F,J,hA,hm,hF,_,_,rfl⟩:=h
  have sm:Cr.MFit S.c m:=Cr.MFit.movedTo (m:=⟨S.g,A,S.I,false⟩) ⟨hS.sane.comesTo (by omega) hA,hS.gold⟩ hm
  exact ⟨((sm.1.prowlTo (by omega) hF).ail).rats hS.floor,sm.2,hS.floor,by show 1≤Cr.num S.s 1 (S.s 1+1) 2;omega,by show Cr.num S.s 1 (S.s 1+1) 2≤3;omega⟩
 ·omega

theorem Cr.Stage.come {how inp:Nat→Int} {sp:Nat→Bool} {S T:Cr.W} {met left:Bool} (h:Cr.Stage how inp sp S 0 met left T) {A:Nat→Nat→Int} (hA:Cr.ComesTo T.c sp 4 T.E A):Cr.Stage how inp sp S 1 (Cr.manned A) left ⟨T.s,T.g,T.c,A,T.I⟩:=by
 obtain ⟨h1,rfl⟩:=h
 exact ⟨A,hA,rfl,h1,rfl⟩

theorem Cr.Stage.act {how inp:Nat→Int} {sp:Nat→Bool} {S T:Cr.W} {met left:Bool} (h:Cr.Stage how inp sp S 1 met left T) {m:Cr.M} (hm:Cr.MovedTo T.s T.c how inp 4 ⟨T.g,T.E,T.I,left⟩ m):Cr.Stage how inp sp S 2 met m.left ⟨T.s,m.g,T.c,m.E,m.I⟩:=by
 obtain ⟨A,hA,h1,rfl,rfl⟩:=h
 exact ⟨A,m,hA,hm,h1,rfl,rfl⟩

theorem Cr.Stage.hunt {how inp:Nat→Int} {sp:Nat→Bool} {S T:Cr.W} {met left:Bool} (h:Cr.Stage how inp sp S 2 met left T) {F J:Nat→Nat→Int} (hF:Cr.ProwlTo T.s T.c 32 T.E T.I F J):Cr.Stage how inp sp S 3 met left ⟨T.s,T.g,T.c,F,J⟩:=by
 obtain ⟨A,m,hA,hm,h1,h2,rfl⟩:=h
 exact ⟨A,m,F,J,hA,hm,hF,h1,h2,rfl⟩

theorem Cr.Stage.ail {how inp:Nat→Int} {sp:Nat→Bool} {S T:Cr.W} {met left:Bool} (h:Cr.Stage how inp sp S 3 met left T):Cr.Stage how inp sp S 4 met left ⟨T.s,T.g,T.c,Cr.rats T.s T.c (Ft.ailE T.E T.I 32).1,(Ft.ailE T.E T.I 32).2⟩:=by
 obtain ⟨A,m,F,J,hA,hm,hF,h1,h2,rfl⟩:=h
 exact ⟨A,m,F,J,hA,hm,hF,h1,h2,rfl⟩

theorem Cr.Stage.ends {how inp:Nat→Int} {sp:Nat→Bool} {S T U:Cr.W} {met left:Bool} (h:Cr.Stage how inp sp S 4 met left T) (h0:S.s 3=0) (hU:Cr.Ends T.s T.g T.c T.E T.I met left U):Cr.Stage how inp sp S 5 met left U:=by
 obtain ⟨A,m,F,J,hA,hm,hF,h1,h2,rfl⟩:=h
 show Cr.IsStep how inp sp S U
 unfold Cr.IsStep
 rw [if_neg (fun hh=>hh h0)]
 refine ⟨A,m,F,J,hA,hm,hF,?_⟩
 have e:(Cr.manned S.E || Cr.manned A)=met:=by
  rw [h1]
  cases hm:Cr.manned S.E
  ·rfl
  ·rw [hA.manned hm];rfl
 rw [e,←h2]
 exact hU


open Go.RowKit

set_option maxRecDepth 8000 in
set_option maxHeartbeats 12800000 in
theorem mWander_any (s g c:Nat→Int) (E I:Nat→Nat→Int) (gC gE gI cC cE cI k:Nat) (w:World) (hL:Gd.Lists w gC gE gI c E I) (hc:∀i,0≤c i∧c i≤255) (hcE:32≤cE) (hE:Md.Fine E) (hk:k<32) (hk0:E k 0≠0) :
  Calls Tryz.prog 172 #[.agg (Gd.world s gC gE gI cC cE cI g),.int .i64 (k:Int)] w (Says w (.int .i64 (Md.stray s c E k))):=by
 obtain ⟨w0,hw0⟩:∃w0,w0=w.alloc (.cells (Gd.world s gC gE gI cC cE cI g) 28):=⟨_,rfl⟩
 have hg0:w.grownBy w0 none:=by rw [hw0];exact World.grownBy_alloc _ _ _
 have hO:Hid (Gd.Shown w w0 w.heap.size gC gE gI cC cE cI s g c E I):=by
  refine ⟨?_,hL.on hg0,hg0⟩
  rw [hw0]
  exact (Arr.world (heap_alloc_new w _)).lie
 obtain ⟨x0,x9,y0,y9,-,-⟩:=hE k hk hk0
 have hc':=hide hc
 have hcE':=hide hcE
 have HK:=hide hk
 have hk':(k:Int)<32:=by omega
 have hst:Hid (Md.stray s c E k=if (1≤Dc.die 8 (s 0) [s 1,(k:Int),90]∧Dc.die 8 (s 0) [s 1,(k:Int),90]≤4)∧Gr.walkB (Gr.at 384 c (E k 3+(Fx.way (Dc.die 8 (s 0) [s 1,(k:Int),90])).1) (E k 4+(Fx.way (Dc.die 8 (s 0) [s 1,(k:Int),90])).2))=true∧En.first (En.atQ E (E k 3+(Fx.way (Dc.die 8 (s 0) [s 1,(k:Int),90])).1) (E k 4+(Fx.way (Dc.die 8 (s 0) [s 1,(k:Int),90])).2)) 32<0 then Dc.die 8 (s 0) [s 1,(k:Int),90] else 0):=rfl
 have cd:Hid (Calls Tryz.prog 127 #[.int .i64 8,.int .i64 (s 0),.slice (some ⟨w0.heap.size,0,none⟩) 3 3] (w0.alloc (.cells #[.int .i64 (s 1),.int .i64 (k:Int),.int .i64 90] 3)) fun e w'=>e=.returned (.int .i64 (Dc.die 8 (s 0) [s 1,(k:Int),90]))∧w'=w0.alloc (.cells #[.int .i64 (s 1),.int .i64 (k:Int),.int .i64 90] 3)):=die_row 8 (s 0) _ 3 3 _ _ (Row.three w0 (s 1) (k:Int) 90 3) (by omega)
 have hOd:=hide ((uh hO).on (World.grownBy_alloc w0 (.cells #[.int .i64 (s 1),.int .i64 (k:Int),.int .i64 90] 3) none))
 obtain ⟨d,hd⟩:∃d,Dc.die 8 (s 0) [s 1,(k:Int),90]=d:=⟨_,rfl⟩
 rw [hd] at hst cd
 obtain ⟨S,hS⟩:∃S,Md.stray s c E k=S:=⟨_,rfl⟩
 rw [hS] at hst ⊢
 clear hL hc hcE hE hg0 hk hk0 hd hS
 unfold Gd.world at hw0 ⊢
 go_enter Tryz.func172,Tryz.ntmps172
 go_upto_region 1 with fail
 rw [←hw0]
 clear hw0
 obtain ⟨B,hB⟩:∃B,w.heap.size=B:=⟨_,rfl⟩
 rw [hB] at hO hOd ⊢
 clear hB
 have q0:=(uh hO).box.eleven.1
 have q1:=(uh hO).box.eleven.2.1
 go_wp2_with fail
 refine (uh cd).mono ?_
 rintro x wy ⟨rfl,hw⟩
 subst hw
 clear cd q0 q1 hO
 generalize w0.alloc (.cells #[.int .i64 (s 1),.int .i64 (k:Int),.int .i64 90] 3)=w1 at hOd ⊢
 by_cases h1:d<1
 ·have hS0:Hid (S=0):=(show S=0 by rw [uh hst,if_neg (by omega)])
  clear hst
  go_wp2
  go_ret
  exact ⟨rti (uh hS0).symm,(uh hOd).grown⟩
 by_cases h4:d > 4
 ·have hS0:Hid (S=0):=(show S=0 by rw [uh hst,if_neg (by omega)])
  clear hst
  go_wp2
  go_ret
  exact ⟨rti (uh hS0).symm,(uh hOd).grown⟩
 have hd14:=hide (show 1≤d∧d≤4 by omega)
 have wb:=Fx.way_bd d
 have ca:=hide (fun wq=>mAhead_any (E k) d wq x0 x9 y0 y9)
 unfold En.cells at ca
 obtain ⟨X,hX⟩:∃X,E k 3+(Fx.way d).1=X:=⟨_,rfl⟩
 obtain ⟨Y,hY⟩:∃Y,E k 4+(Fx.way d).2=Y:=⟨_,rfl⟩
 have hb:(-1≤X∧X≤24)∧-1≤Y∧Y≤16:=by omega
 rw [hX,hY] at ca hst
 have hb':=hide hb
 clear hX hY wb x0 x9 y0 y9 hb
 have q5:=(uh hOd).box.eleven.2.2.2.2.2.1
 obtain ⟨u0,u1,u2,u3,u4,u5,u6,u7,u8,u9,u10⟩:=(uh hOd).lists.own.ents.row (uh HK)
 go_wp2_with fail
 refine (uh ca _).mono ?_
 rintro x w2 ⟨⟨a,b,rfl,Ra,Rb⟩,hg⟩
 have hO2:=hide ((uh hOd).on hg)
 have cp:Hid (∀wq,Calls Tryz.prog 177 #[.complex .f64 a b] wq fun e w'=>e=.returned (.tuple #[.int .i64 X,.int .i64 Y])∧w'=wq):=fun wq=>mParts_any a b X Y wq Ra Rb (by have:=uh hb';omega) (by have:=uh hb';omega) (by have:=uh hb';omega) (by have:=uh hb';omega)
 clear Ra Rb hg q5 u0 u1 u2 u3 u4 u5 u6 u7 u8 u9 u10 ca hOd
 go_wp2_with fail
 refine (uh cp _).mono ?_
 rintro x wy ⟨rfl,hw⟩
 subst wy
 clear cp
 have q4:=(uh hO2).box.eleven.2.2.2.2.1
 have q5:=(uh hO2).box.eleven.2.2.2.2.2.1
 have cg:=hide (at_any w2.heap.size (some ⟨gC,0,none⟩) 384 cC c X Y w2 (uh hO2).lists.vec (uh hc'))
 have ce:=hide (entAt_any gE 32 cE E X Y w2 (uh hO2).lists.own.ents (uh hcE'))
 obtain ⟨A,hA⟩:∃A,Gr.at 384 c X Y=A:=⟨_,rfl⟩
 obtain ⟨z,hz⟩:∃z,En.first (En.atQ E X Y) 32=z:=⟨_,rfl⟩
 have ck:=hide (fun wq=>walk_any A wq)
 obtain ⟨wk,hwk⟩:∃wk,Gr.walkB A=wk:=⟨_,rfl⟩
 rw [hA] at cg hst
 rw [hz] at ce hst
 rw [hwk] at ck hst
 clear hA hz hwk
 go_wp2_with fail
 refine (uh cg).mono ?_
 rintro x wy ⟨rfl,hw⟩
 subst wy
 go_wp2_with fail
 refine (uh ck _).mono ?_
 rintro x wy ⟨rfl,hw⟩
 subst wy
 clear cg ck
 cases wk
 ·have hS0:Hid (S=0):=(show S=0 by rw [uh hst,if_neg (by simp)])
  clear hst
  go_wp2
  go_ret
  exact ⟨rti (uh hS0).symm,(uh hO2).grown⟩
 go_wp2_with fail
 refine (uh ce).mono ?_
 rintro x w3 ⟨rfl,hg⟩
 have hg3:=hide (gtr (uh hO2).grown hg)
 clear hg ce q4 q5
 by_cases hz0:z<0
 ·have hS0:Hid (S=d):=(show S=d by rw [uh hst,if_pos ⟨uh hd14,by first | rfl | trivial,hz0⟩])
  have hz1:¬z≥0:=by omega
  clear hst
  go_wp2
  go_ret
  exact ⟨rti (uh hS0).symm,uh hg3⟩
 ·have hS0:Hid (S=0):=(show S=0 by rw [uh hst,if_neg (by omega)])
  have hz1:z≥0:=by omega
  clear hst
  go_wp2
  go_ret
  exact ⟨rti (uh hS0).symm,uh hg3⟩


open Go.RowKit

structure Cr.Hand (w x:World) (B gC gE gI cC cE cI:Nat) (s g c:Nat→Int) (E I:Nat→Nat→Int):Prop where
 hold:Gd.Hold x B gC gE gI cC cE cI s g c E I
 lB:w.heap.size≤B
 cap:32≤cE
 grown:w.grownBy x none

theorem Cr.Hand.on {w x y:World} {B gC gE gI cC cE cI:Nat} {s g c:Nat→Int} {E I:Nat→Nat→Int} (h:Cr.Hand w x B gC gE gI cC cE cI s g c E I) (hg:x.grownBy y none):Cr.Hand w y B gC gE gI cC cE cI s g c E I :=
 ⟨h.hold.on hg,h.lB,h.cap,gtr h.grown hg⟩

theorem Cr.Hand.folk {w x x':World} {B gC gE gI cC cE cI jE dE:Nat} {s g c:Nat→Int} {E I F:Nat→Nat→Int} (h:Cr.Hand w x B gC gE gI cC cE cI s g c E I) (hcap:32≤dE) (hj:jE=gE∨x.heap.size≤jE) (hO:Own x' jE 32 F) (hg:x.grownBy x' none) :
  Cr.Hand w (x'.setCell ⟨B,5,none⟩ (.slice (some ⟨jE,0,none⟩) 32 dE)) B gC jE gI cC dE cI s g c F I:=by
 have h1:=h.hold.box.lt
 have h2:=h.hold.lists.cells.lt
 have h3:=h.hold.lists.items.lt
 have h5:=h.hold.bE
 have h6:=h.hold.cE
 have h7:=h.hold.eI
 have nB:B≠jE:=by omega
 have nC:gC≠jE:=by omega
 have nI:jE≠gI:=by omega
 have r:=gs0 x' B 5 (.slice (some ⟨jE,0,none⟩) 32 dE)
 have hb:=((h.hold.box.on hg).store 5 (.slice (some ⟨jE,0,none⟩) 32 dE)).congr (Gd.box_5 s g gC gE gI cC cE cI jE dE)
 exact ⟨⟨hb,⟨(h.hold.lists.cells.on hg).grown r (by simpa using h.hold.bC),(hO.lie (m:=352) (by omega)).grown r (by simpa using nB),(h.hold.lists.items.on hg).grown r (by simpa using h.hold.bI)⟩,h.hold.bC,nB,h.hold.bI,nC,h.hold.cI,nI⟩,h.lB,hcap,gsr (gtr h.grown hg) ⟨B,5,none⟩ h.lB _⟩

theorem Cr.box_6 (s g:Nat→Int) (gC gE gI cC cE cI jI dI:Nat):∀c,c<11→(if c=6 then Value.slice (some ⟨jI,0,none⟩) 40 dI else Gd.box s gC gE gI cC cE cI g c)=Gd.box s gC gE jI cC cE dI g c:=fun c hc=>by
 rcases (show c=0∨c=1∨c=2∨c=3∨c=4∨c=5∨c=6∨c=7∨c=8∨c=9∨c=10 by omega) with rfl | rfl | rfl | rfl | rfl | rfl | rfl | rfl | rfl | rfl | rfl <;> rfl

theorem Cr.Hand.goods {w x x':World} {B gC gE gI cC cE cI jI dI:Nat} {s g c:Nat→Int} {E I J:Nat→Nat→Int} (h:Cr.Hand w x B gC gE gI cC cE cI s g c E I) (hj:x.heap.size≤jI) (hJ:Lie x' jI 47 160 (Gd.flat J)) (hg:x.grownBy x' none) :
  Cr.Hand w (x'.setCell ⟨B,6,none⟩ (.slice (some ⟨jI,0,none⟩) 40 dI)) B gC gE jI cC cE dI s g c E J:=by
 have h1:=h.hold.box.lt
 have h2:=h.hold.lists.cells.lt
 have h3:=h.hold.lists.ents.lt
 have nB:B≠jI:=by omega
 have r:=gs0 x' B 6 (.slice (some ⟨jI,0,none⟩) 40 dI)
 have hb:=((h.hold.box.on hg).store 6 (.slice (some ⟨jI,0,none⟩) 40 dI)).congr (Cr.box_6 s g gC gE gI cC cE cI jI dI)
 exact ⟨⟨hb,⟨(h.hold.lists.cells.on hg).grown r (by simpa using h.hold.bC),(h.hold.lists.ents.on hg).grown r (by simpa using h.hold.bE),hJ.grown r (by simpa using nB)⟩,h.hold.bC,h.hold.bE,nB,h.hold.cE,by omega,by omega⟩,h.lB,h.cap,gsr (gtr h.grown hg) ⟨B,6,none⟩ h.lB _⟩

end Go.Proofs.YtbanjoflgoiegabGreat
