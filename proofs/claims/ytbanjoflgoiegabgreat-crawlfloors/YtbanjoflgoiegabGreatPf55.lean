import Derived.Test.YtbanjoflgoiegabGreatPf54
import Derived.Test.YtbanjoflgoiegabGreatPf53
namespace Go.Proofs.YtbanjoflgoiegabGreat
open Go.RowKit

theorem Gd.Law.gold {w x:World} {T gC gE gI cC cE cI:Nat} {s g c:Nat→Int} {E I:Nat→Nat→Int} (h:Gd.Law w x T gC gE gI cC cE cI s g c E I) (k:Nat) (hk:k<4) (v:Int):Gd.Law w (x.setCell ⟨T,7+k,none⟩ (.int .i64 v)) T gC gE gI cC cE cI s (Gd.give g k v) c E I:=by
 have hh:=h.hold
 exact ⟨⟨hh.box.gold k hk v,⟨hh.lists.cells.other hh.bC _ _,hh.lists.ents.other hh.bE _ _,hh.lists.items.other hh.bI _ _⟩,hh.bC,hh.bE,hh.bI,hh.cE,hh.cI,hh.eI⟩,h.lT,h.lE,h.lI,h.cap,gsr h.grown ⟨T,7+k,none⟩ h.lT _⟩

theorem Cr.foes_le (E:Nat→Nat→Int):∀n,Cr.foes E n≤n
 | 0=>Nat.le_refl _
 | n+1=>by
  have ih:=Cr.foes_le E n
  unfold Cr.foes
  split <;> omega

structure Cr.Calm (E:Nat→Nat→Int) (r:Nat):Prop where
 lt:r<32
 one:E r 0=1
 seat:E r 2=0
 hero:Gd.hero E 0=(r:Int)
 kinds:∀k,k<32→E k 0=0∨E k 0=1
 calm:∀k,k<32→E k 0≠0→E k 9=0∧E k 10=0

theorem Cr.Sole.calm {E:Nat→Nat→Int} {r:Nat} (h:Cr.Sole E r 0) (h9:E r 9=0) (h10:E r 10=0):Cr.Calm E r∧Gd.hero E 3<0 :=
  ⟨⟨h.lt,h.one,h.seat,h.hero,fun k hk=>by
    by_cases e:k=r
    · rw [e];exact .inr h.one
    · exact .inl (h.free k hk e),fun k hk k0=>by
    by_cases e:k=r
    · rw [e];exact ⟨h9,h10⟩
    · exact absurd (h.free k hk e) k0⟩,h.none (by omega)⟩

theorem Cr.Sole.second {c:Nat→Int} {E I:Nat→Nat→Int} {r p u d:Nat} (hs:Cr.Sane c E I) (h:Cr.Sole E r 0) (h9:E r 9=0) (h10:E r 10=0) (hp:p<32) (p0:E p 0=0) (hu:u<384) (hw:Gr.walkB (c u)=true) (e3:E r 3=(d:Int) % 24) (e4:E r 4=(d:Int) / 24) (hne:d≠u) {γ:Int} (g0:0≤γ) (g9:γ≤255) :
  Cr.Sane c (En.put E p (En.gen (Cr.one 1 3 u) γ)) I∧Cr.Calm (En.put E p (En.gen (Cr.one 1 3 u) γ)) r∧0≤Gd.hero (En.put E p (En.gen (Cr.one 1 3 u) γ)) 3∧En.put E p (En.gen (Cr.one 1 3 u) γ) r=E r:=by
 have hrp:r≠p:=fun e=>by rw [←e,h.one] at p0;omega
 have hrow:En.put E p (En.gen (Cr.one 1 3 u) γ) r=E r:=En.put_other hrp
 have k0:En.gen (Cr.one 1 3 u) γ 0=1:=rfl
 have k2:En.gen (Cr.one 1 3 u) γ 2=3:=rfl
 have hroom:Ft.Room c E u:=⟨hw,by
  rw [En.first_none fun j hj=>by
   by_cases e:j=r
   ·rw [e]
    have hn:¬(E r 3=(u:Int) % 24∧E r 4=(u:Int) / 24):=by omega
    simp only [En.atQ]
    by_cases x3:E r 3=(u:Int) % 24
    ·have x4:¬E r 4=(u:Int) / 24:=fun x4=>hn ⟨x3,x4⟩
     simp [x4]
    ·simp [x3]
   ·simp [En.atQ,h.free j hj e]]
  omega⟩
 have hS:Cr.Sane c (En.put E p (En.gen (Cr.one 1 3 u) γ)) I:=hs.put hu hroom (Cr.one_row (by omega) (by omega) g0 g9) rfl rfl rfl ⟨rfl,rfl,rfl⟩ (by rw [k2];omega) (by rw [k2];omega) (fun j hj j1=>by
  by_cases e:j=r
  ·rw [e,h.seat,k2];omega
  ·rw [h.free j hj e] at j1;omega)
 refine ⟨hS,⟨h.lt,by rw [hrow];exact h.one,by rw [hrow];exact h.seat,?_,fun k hk=>?_,fun k hk kk=>?_⟩,?_,hrow⟩
 ·unfold Gd.hero
  rcases En.first_cases (En.heroQ (En.put E p (En.gen (Cr.one 1 3 u) γ)) 0) 32 with ⟨_,hno⟩ | ⟨j,hj,he,hq,_⟩
  ·have:=hno r h.lt
   simp [En.heroQ,hrow,h.one,h.seat] at this
  ·have hq':En.put E p (En.gen (Cr.one 1 3 u) γ) j 0=1∧En.put E p (En.gen (Cr.one 1 3 u) γ) j 2=0:=by simpa [En.heroQ] using hq
   rw [he,hS.seats.one j r hj h.lt hq'.1 (by rw [hrow];exact h.one) (by rw [hq'.2,hrow,h.seat])]
 ·by_cases e:k=p
  ·rw [e,En.put_same];exact .inr k0
  ·rw [En.put_other e]
   by_cases x:k=r
   ·rw [x];exact .inr h.one
   ·exact .inl (h.free k hk x)
 ·by_cases e:k=p
  ·rw [e,En.put_same];exact ⟨rfl,rfl⟩
  ·rw [En.put_other e] at kk ⊢
   by_cases x:k=r
   ·rw [x];exact ⟨h9,h10⟩
   ·exact absurd (h.free k hk x) kk
 ·unfold Gd.hero
  rcases En.first_cases (En.heroQ (En.put E p (En.gen (Cr.one 1 3 u) γ)) 3) 32 with ⟨_,hno⟩ | ⟨j,_,he,_⟩
  ·have:=hno p hp
   simp [En.heroQ,En.put_same,k0,k2] at this
  ·omega

theorem Cr.pack_step {how inp:Nat→Int} {sp:Nat→Bool} {S T:Cr.W} {r d:Nat} (hT:Cr.IsStep how inp sp S T) (hG:Cr.Good S) (hI:S.I=Cr.pack d) (hc:Cr.Calm S.E r) (h3:S.s 3=0) (h1:S.s 1=1) (h2:S.s 2≤2) (hh:how 0=1) (hi:inp 0=9) (hh':∀t,t<4→t≠0→how t=0) (hsp:∀t,t<4→sp t=false) (hat:Gr.at 384 S.c (S.E r 3) (S.E r 4)=4) :
  Cr.Good T∧T.s 2=S.s 2+1∧T.s 3=0∧T.g=S.g∧Gd.hero T.E 0=(r:Int)∧(∃u:Nat,u<384∧Gr.find 384 T.c 3=(u:Int)∧T.E r 3=(u:Int) % 24∧T.E r 4=(u:Int) / 24)∧(0≤Gd.hero T.E 3↔0≤Gd.hero S.E 3)∧(Cr.foes T.E 32:Int)≤T.s 2+2∧T.I 3=Gd.row 2 3 0 0∧T.I 4=Gd.row 1 2 0 2∧T.I 30=fun _=>0:=by
 have hGT:=(hT.good hG).1
 have hB:=Cr.descends hT h3 h1 (by omega) hc.hero hc.lt hc.one hc.seat hc.kinds hc.calm hh hi hh' hsp hat
 have n2:Cr.num S.s 1 2 2=S.s 2:=if_neg (by omega)
 have n3:Cr.num S.s 1 2 3=0:=(if_neg (by omega)).trans h3
 obtain ⟨es,eg,eh,eu,e3,ef,is,hl,ei⟩:=hB.told hG.sane hGT.sane (by rw [n2];have:=hG.f1;omega) hc.hero
 have t2:T.s 2=S.s 2+1:=by rw [es,Cr.num_at,n2]
 rw [hI] at ei
 obtain ⟨p3,p4,p30⟩:=Cr.pack_left d hl
 exact ⟨hGT,t2,by rw [es,Cr.num_else _ _ (by omega)];exact n3,eg,eh,eu,e3,by rw [t2];rw [n2] at ef;omega,by rw [ei];exact p3,by rw [ei];exact p4,by rw [ei];exact p30⟩

end Go.Proofs.YtbanjoflgoiegabGreat
