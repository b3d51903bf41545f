import Derived.Test.YtbanjoflgoiegaaGreatPs39
import Derived.Test.YtbanjoflgoiegaaGreatPs46
namespace Go.Proofs.YtbanjoflgoiegaaGreat
open Go.RowKit

def Cr.MoveTo (v:World) (P:Nat) (how inp:Nat→Int) (sp:Nat→Bool) (met:Bool) (s c:Nat→Int) (p:Cr.M→Prop) (e:Ending) (x:World):Prop :=
 ∃n:Cr.M,p n∧Cr.Goes v P how inp sp met n.left s n.g c n.E n.I e x

set_option maxRecDepth 8000 in
set_option maxHeartbeats 6400000 in
theorem cMove_any (v x:World) (P gC gE gI cC cE cI:Nat) (how inp:Nat→Int) (sp:Nat→Bool) (met left:Bool) (s g c:Nat→Int) (E I:Nat→Nat→Int) (t k:Nat) (h:Cr.Frm v x P gC gE gI cC cE cI how inp sp met left s g c E I) (hS:Cr.Sane c E I) (hG:Cr.Gold g) (ht:t<4) (hk:k<32) (hh:Gd.hero E (t:Int)=(k:Int)) (k1:E k 0=1) (hst:¬0<E k 10) :
  Calls Tryz.prog 73 #[.pointer (some ⟨P,0,none⟩),.int .i64 (t:Int),.int .i64 (k:Int)] x (Cr.MoveTo v P how inp sp met s c (Cr.Moved s c (t:Int) (how t) (inp t) ⟨g,E,I,left⟩)):=by
 have ht':(t:Int)<4:=by omega
 have hF:=hide h
 have hSa:=hide hS
 have hGo:=hide hG
 have HK:=hide (And.intro hk k1)
 obtain ⟨a0,a1,-⟩:=h.act ht
 have hyes:Hid (∀u,(how t=1∨how t=2)→(if how t=2 then Md.IsRobot c E I (t:Int) u else u=inp t)→Cr.Moved s c (t:Int) (how t) (inp t) ⟨g,E,I,left⟩ (Cr.does s c ⟨g,E,I,left⟩ (t:Int) k u)):=fun u h1 h2=>(show _ by
  unfold Cr.Moved
  show if Gd.hero E (t:Int)<0∨0<E (Gd.hero E (t:Int)).toNat 10∨(how t≠1∧how t≠2) then _ else _
  rw [hh,Int.toNat_natCast,if_neg (by omega)]
  exact ⟨u,h2,rfl⟩)
 have hnot:Hid (how t≠1→how t≠2→Cr.Moved s c (t:Int) (how t) (inp t) ⟨g,E,I,left⟩ ⟨g,E,I,left⟩):=fun h1 h2=>(show _ by
  unfold Cr.Moved
  show if Gd.hero E (t:Int)<0∨0<E (Gd.hero E (t:Int)).toNat 10∨(how t≠1∧how t≠2) then _ else _
  rw [if_pos (.inr (.inr ⟨h1,h2⟩))])
 have cd:=hide (fun u z (hz:Cr.Frm v z P gC gE gI cC cE cI how inp sp met left s g c E I)=>cDo_any v z P gC gE gI cC cE cI how inp sp met left s g c E I t k u hz hS hG hk k1)
 have cr:=hide (mindsRobot_any s g c E I gC gE gI cC cE cI (t:Int) x h.lists hS.fit.cells h.cap.1 h.cap.2 hS.good)
 obtain ⟨H,hH⟩:∃H,how t=H:=⟨_,rfl⟩
 obtain ⟨N,hN⟩:∃N,inp t=N:=⟨_,rfl⟩
 rw [hH] at a0 hyes hnot
 rw [hN] at a1 hyes hnot
 rw [hH,hN]
 obtain ⟨b0,b1,b2,b3,b4,b5,b6,b7,b8,b9,b10⟩:=h.eleven
 clear h hS hG hk hh k1 hst hH hN ht
 by_cases h2:H=2
 ·subst h2
  unfold Gd.world at cr
  have hy2:Hid (∀u,Md.IsRobot c E I (t:Int) u→Cr.Moved s c (t:Int) 2 N ⟨g,E,I,left⟩ (Cr.does s c ⟨g,E,I,left⟩ (t:Int) k u)):=fun u h=>uh hyes u (.inr rfl) (by rw [if_pos rfl];exact h)
  clear hnot hyes
  go_enter Tryz.func73,Tryz.ntmps73
  go_wp2_with fail
  refine (uh cr).mono ?_
  rintro e w1 ⟨u,hu,rfl,hg⟩
  have hm:=hide (uh hy2 u hu)
  have cd':=hide (uh cd u w1 ((uh hF).on hg))
  clear hu hg cr cd hy2 b0 b1 b2 b3 b4 b5 b6 b7 b8 b9 b10 a0 a1 hF
  go_wp2_with fail
  refine (uh cd').mono ?_
  rintro e w2 ⟨rfl,hfin⟩
  have hfin':=hide hfin
  clear hfin cd'
  go_wp2
  go_end0
  exact ⟨_,uh hm,rfl,uh hfin'⟩
 ·have e2:(H == 2)=false:=by simpa using h2
  by_cases h1:H=1
  ·subst h1
   have hm:=hide (uh hyes N (.inl rfl) (by rw [if_neg (by omega)]))
   have cd':=hide (uh cd N x (uh hF))
   clear cr cd hyes hnot b0 b1 b2 b3 b4 b5 b6 b7 b8 b9 b10 hF h2
   go_enter Tryz.func73,Tryz.ntmps73
   go_wp2_with fail
   refine (uh cd').mono ?_
   rintro e w2 ⟨rfl,hfin⟩
   have hfin':=hide hfin
   clear hfin cd'
   go_wp2
   go_end0
   exact ⟨_,uh hm,rfl,uh hfin'⟩
  ·have e1:(H == 1)=false:=by simpa using h1
   have hm:=hide (uh hnot h1 h2)
   clear cr cd hyes hnot b0 b1 b2 b3 b4 b5 b6 b7 b8 b9 b10 h1 h2
   go_enter Tryz.func73,Tryz.ntmps73
   go_wp2
   go_end0
   exact ⟨_,uh hm,rfl,gC,gE,gI,cC,cE,cI,uh hF⟩

set_option maxRecDepth 8000 in
set_option maxHeartbeats 6400000 in
theorem cAct_any (v x:World) (P gC gE gI cC cE cI:Nat) (how inp:Nat→Int) (sp:Nat→Bool) (met left:Bool) (s g c:Nat→Int) (E I:Nat→Nat→Int) (h:Cr.Frm v x P gC gE gI cC cE cI how inp sp met left s g c E I) (hS:Cr.Sane c E I) (hG:Cr.Gold g) :
  Calls Tryz.prog 30 #[.pointer (some ⟨P,0,none⟩)] x (Cr.MoveTo v P how inp sp met s c (Cr.MovedTo s c how inp 4 ⟨g,E,I,left⟩)):=by
 have hF:=hide h
 have hfit:Hid (∀t n,Cr.MovedTo s c how inp t ⟨g,E,I,left⟩ n→Cr.MFit c n):=fun t n hn=>Cr.MFit.movedTo (m:=⟨g,E,I,left⟩) ⟨hS,hG⟩ hn
 clear h hS hG
 go_enter Tryz.func30,Tryz.ntmps30
 go_wp2_with fail
 go_loopw [4] (fun v4 wr=>∃(t g1 g2 g3 c1 c2 c3:Nat) (m:Cr.M),t≤4∧v4=.int .i64 (t:Int)∧Hid (Cr.MovedTo s c how inp t ⟨g,E,I,left⟩ m)∧Hid (Cr.Frm v wr P g1 g2 g3 c1 c2 c3 how inp sp met m.left s m.g c m.E m.I)) (fun v4 _=>10 - (intOf v4).toNat)
 case atStart=>exact ⟨0,gC,gE,gI,cC,cE,cI,⟨g,E,I,left⟩,by omega,rfl,rfl,hF⟩
 case round =>
  clear hF
  obtain ⟨t,g1,g2,g3,c1,c2,c3,m,ht,rfl,hm,hF⟩:=hrel
  by_cases hlt:t<4
  ·have hlt':(t:Int)<4:=by omega
   have HL:=hide hlt
   have hsn:=hide (uh hfit t m (uh hm))
   obtain ⟨G,E,I,L⟩:=m
   have b5:=(uh hF).eleven.2.2.2.2.2.1
   have ch:=hero_any g2 32 c2 E (t:Int) wr (uh hF).lists.own.ents (uh hF).cap.1
   have hp:=@Gd.hero_pos E (t:Int)
   change Calls _ _ _ _ (Says wr (.int .i64 (Gd.hero E (t:Int)))) at ch
   have hskip:Hid (∀n,(Gd.hero E (t:Int)<0∨0<E (Gd.hero E (t:Int)).toNat 10)→n=⟨G,E,I,L⟩→Cr.MovedTo s c how inp (t+1) _ n):=fun n h1 h2=>⟨_,uh hm,(show Cr.Moved s c (t:Int) (how t) (inp t) ⟨G,E,I,L⟩ n by unfold Cr.Moved;rw [if_pos (by rcases h1 with h | h;exact .inl h;exact .inr (.inl h))];exact h2)⟩
   obtain ⟨z,hz⟩:∃z,Gd.hero E (t:Int)=z:=⟨_,rfl⟩
   rw [hz] at ch hp hskip
   have ch':=hide ch
   have hp':=hide hp
   have hz':=hide hz
   clear hlt ht ch hp hz
   go_upto_region 4 with (go_at_call 68;refine (uh ch').mono ?_;rintro e w1 ⟨rfl,hg1⟩)
   have hF1:=hide ((uh hF).on hg1)
   clear hg1 ch' b5 hF
   by_cases h0:0≤z
   ·obtain ⟨k,hk,rfl,k2,k1⟩:=uh hp' h0
    have hk':(k:Int)<32:=by omega
    have hge:(k:Int)≥0:=by omega
    have HK:=hide hk
    have HK1:=hide k1
    have b5:=(uh hF1).eleven.2.2.2.2.2.1
    obtain ⟨r0,r1,r2,r3,r4,r5,r6,r7,r8,r9,r10⟩:=(uh hF1).lists.own.ents.row hk
    have cs:=hide (cIsStunned_any (E k) w1)
    obtain ⟨b,hb⟩:∃b,decide (0<E k 10)=b:=⟨_,rfl⟩
    rw [hb] at cs
    have hb':=hide hb
    unfold En.cells at cs
    clear hp' h0 hk k1 k2 hb
    go_wp2_with fail
    refine (uh cs).mono ?_
    rintro e w2 ⟨rfl,hg2⟩
    have hF2:=hide ((uh hF1).on hg2)
    clear hg2 cs b5 r0 r1 r2 r3 r4 r5 r6 r7 r8 r9 r10 hF1
    cases b
    ·have cm:=hide (cMove_any v w2 P g1 g2 g3 c1 c2 c3 how inp sp met L s G c E I t k (uh hF2) (uh hsn).1 (uh hsn).2 (uh HL) (uh HK) (uh hz') (uh HK1) (of_decide_eq_false (uh hb')))
     clear hskip
     go_wp2_with fail
     refine (uh cm).mono ?_
     rintro e w3 ⟨n,hn,rfl,j1,j2,j3,d1,d2,d3,hF3⟩
     have hn':Hid (Cr.MovedTo s c how inp (t+1) _ n):=⟨_,uh hm,hn⟩
     have hF3':=hide hF3
     clear hn hF3 cm hF2
     go_wp2
     go_roundw
     case rel=>exact ⟨t+1,j1,j2,j3,d1,d2,d3,n,by have:=uh HL;omega,by go_num,hn',hF3'⟩
     case measure=>simp [intOf];have:=uh HL;omega
    ·have hn':=hide (uh hskip ⟨G,E,I,L⟩ (.inr (by rw [Int.toNat_natCast];exact of_decide_eq_true (uh hb'))) rfl)
     clear hskip
     go_wp2
     go_roundw
     case rel=>exact ⟨t+1,g1,g2,g3,c1,c2,c3,⟨G,E,I,L⟩,by have:=uh HL;omega,by go_num,hn',hF2⟩
     case measure=>simp [intOf];have:=uh HL;omega
   ·have hnge:¬z≥0:=by omega
    have hn':=hide (uh hskip ⟨G,E,I,L⟩ (.inl (by omega)) rfl)
    clear hskip hp' h0
    go_wp2
    go_roundw
    case rel=>exact ⟨t+1,g1,g2,g3,c1,c2,c3,⟨G,E,I,L⟩,by have:=uh HL;omega,by go_num,hn',hF1⟩
    case measure=>simp [intOf];have:=uh HL;omega
  ·obtain rfl:t=4:=by omega
   have hge:¬((4:Nat):Int)<4:=by omega
   clear hlt ht
   go_wp2
   go_end0
   exact ⟨m,uh hm,rfl,g1,g2,g3,c1,c2,c3,uh hF⟩

end Go.Proofs.YtbanjoflgoiegaaGreat
