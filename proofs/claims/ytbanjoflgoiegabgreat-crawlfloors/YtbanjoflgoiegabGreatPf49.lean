import Derived.Test.YtbanjoflgoiegabGreatPf38
import Derived.Test.YtbanjoflgoiegabGreatPf48
import Derived.Test.YtbanjoflgoiegabGreatPf36
namespace Go.Proofs.YtbanjoflgoiegabGreat
open Go.RowKit

theorem Cr.land_inv {c:Nat→Int} {E:Nat→Nat→Int} (hs:Cr.Seats E):∀{t:Nat} {F:Nat→Nat→Int},Cr.LandTo c E t (Cr.bare E) F→∀k,k<32→(F k=Cr.bare E k∧(E k 0=1→(t:Int)≤E k 2))∨(F k 0=1∧E k 0=1)
 | 0,F,h,k,hk=>by
  rw [h]
  exact .inl ⟨rfl,fun k1=>(hs.seat k hk k1).1⟩
 | t+1,F,h,k,hk=>by
  obtain ⟨G,hG,hL⟩:=h
  have ih:=Cr.land_inv hs hG k hk
  unfold Cr.Lands at hL
  split at hL
  ·rename_i hn
   rw [hL]
   refine ih.imp (fun ⟨h1,h2⟩=>⟨h1,fun k1=>?_⟩) id
   have:=h2 k1
   by_cases e:E k 2=(t:Int)
   ·exfalso
    unfold Gd.hero at hn
    rcases En.first_cases (En.heroQ E (t:Int)) 32 with ⟨_,hno⟩ | ⟨j,_,hj,_⟩
    ·have:=hno k hk
     simp [En.heroQ,k1,e] at this
    ·omega
   ·omega
  ·rename_i hn
   obtain ⟨v,_,rfl⟩:=hL
   obtain ⟨r,hr,he,r1,r2⟩:=Md.hero_row hn
   rw [he,Int.toNat_natCast]
   by_cases e:k=r
   ·refine .inr ⟨?_,by rw [e];exact r1⟩
    rw [e,En.put_same]
    split
    ·exact r1
    ·rw [En.upd_other (by omega),En.upd_other (by omega)];exact r1
   ·rw [En.put_other e]
    refine ih.imp (fun ⟨h1,h2⟩=>⟨h1,fun k1=>?_⟩) id
    have:=h2 k1
    by_cases e2:E k 2=(t:Int)
    ·exact absurd (hs.one k r hk hr k1 r1 (by omega)) e
    ·omega

def Cr.mid (E F:Nat→Nat→Int):Nat→Nat→Int:=fun k=>if F k 0=0 then Cr.kingsTo E 32 k else F k

theorem Cr.mid_bare (E:Nat→Nat→Int):Cr.mid E (Cr.bare E)=Cr.kingsTo E 32:=by
 funext k
 exact if_pos rfl

theorem Cr.kings_hero {E:Nat→Nat→Int} {k:Nat} (hk:k<32) (t:Int):En.heroQ (Cr.kingsTo E 32) t k=En.heroQ E t k:=by
 unfold En.heroQ Cr.kingsTo
 by_cases c:E k 0≠0∧E k 0≠1
 ·rw [if_pos ⟨hk,c⟩]
  simp [En.hole,c.2]
 ·rw [if_neg (fun h=>c h.2)]

theorem Cr.mid_hero {E F:Nat→Nat→Int} {t:Nat} (hl:Cr.Landed E F t):Gd.hero (Cr.mid E F) (t:Int)=Gd.hero E (t:Int):=by
 unfold Gd.hero
 refine En.first_congr fun k hk=>?_
 by_cases h0:F k 0=0
 ·have e:Cr.mid E F k=Cr.kingsTo E 32 k:=if_pos h0
  rw [←Cr.kings_hero (E:=E) hk]
  unfold En.heroQ
  rw [e]
 ·have e:Cr.mid E F k=F k:=if_neg h0
  obtain ⟨j,hj,h1,h2⟩:=hl k hk h0
  obtain ⟨r,_,hr,r2,_⟩:=Gd.hero_pos (E:=E) (seat:=(j:Int)) (by omega)
  obtain rfl:r=k:=by omega
  unfold En.heroQ
  rw [e,h2,r2]
  have:¬(j:Int)=(t:Int):=by omega
  simp [this]

theorem Cr.mid_at {E F:Nat→Nat→Int} {t k:Nat} (hl:Cr.Landed E F t) (hk:k<32) (k1:E k 0=1) (k2:E k 2=(t:Int)):F k 0=0∧Cr.mid E F k=E k:=by
 have h0:F k 0=0:=by
  by_cases h0:F k 0=0
  ·exact h0
  ·obtain ⟨j,hj,h1,h2⟩:=hl k hk h0
   obtain ⟨r,_,hr,r2,_⟩:=Gd.hero_pos (E:=E) (seat:=(j:Int)) (by omega)
   obtain rfl:r=k:=by omega
   omega
 refine ⟨h0,(if_pos h0).trans ?_⟩
 unfold Cr.kingsTo
 rw [if_neg (fun h=>h.2.2 k1)]

theorem Cr.mid_put {E F:Nat→Nat→Int} {k:Nat} {e:Nat→Int} (h:e 0≠0):En.put (Cr.mid E F) k e=Cr.mid E (En.put F k e):=by
 funext i
 unfold Cr.mid
 by_cases x:i=k
 ·rw [x,En.put_same,En.put_same,if_neg h]
 ·rw [En.put_other x,En.put_other x]

theorem Cr.mid_end {c c0:Nat→Int} {E F I:Nat→Nat→Int} (ho:Cr.Sane c0 E I) (hL:Cr.LandTo c E 4 (Cr.bare E) F):∀i j,i<32→j<11→Cr.mid E F i j=F i j:=fun i j hi hj=>by
 unfold Cr.mid
 split
 ·rename_i h0
  rcases Cr.land_inv ho.seats hL i hi with ⟨hb,h4⟩ | ⟨h1,_⟩
  ·rw [hb]
   unfold Cr.kingsTo Cr.bare
   by_cases c:E i 0≠0∧E i 0≠1
   ·rw [if_pos ⟨hi,c⟩]
   ·rw [if_neg (fun h=>c h.2)]
    have e0:E i 0=0:=by
     by_cases e1:E i 0=1
     ·have h1:=h4 e1
      have h2:=(ho.seats.seat i hi e1).2
      omega
     ·by_cases e0:E i 0=0
      ·exact e0
      ·exact absurd ⟨e0,e1⟩ c
    unfold En.hole
    by_cases e:j=1
    ·rw [if_pos e,e]
    ·rw [if_neg e]
     rcases (ho.fit.rows i hi).2.2 with hz | ht
     ·exact hz j hj e
     ·omega
  ·omega
 ·rfl

def Cr.Both (Th:Nat→Nat→Int) (n:Nat) (F:Nat→Nat→Int):Prop:=(∀i,i<n→Th i 0≠0∧∃k,k<32∧F k=Th i)∧∀k,k<32→F k 0≠0→∃i,i<n∧Th i=F k

theorem Cr.Both.st {Th F:Nat→Nat→Int} {n:Nat} (h:Cr.Both Th n F) (q:Nat):Nv.st Th n q=Nv.st F 32 q:=by
 unfold Nv.st
 rcases En.first_cases (En.atQ Th ((q % 24:Nat):Int) ((q / 24:Nat):Int)) n with ⟨h1,hno⟩ | ⟨i,hi,h1,hq,_⟩
 ·rcases En.first_cases (En.atQ F ((q % 24:Nat):Int) ((q / 24:Nat):Int)) 32 with ⟨h2,_⟩ | ⟨k,hk,h2,hq,_⟩
  ·rw [h1,h2]
  ·exfalso
   have hq':F k 0≠0∧F k 3=((q % 24:Nat):Int)∧F k 4=((q / 24:Nat):Int):=by simpa [En.atQ] using hq
   obtain ⟨i,hi,e⟩:=h.2 k hk hq'.1
   have:=hno i hi
   rw [←e] at hq'
   simp only [En.atQ,Bool.and_eq_false_iff,Bool.not_eq_eq_eq_not,Bool.not_false,decide_eq_true_eq,decide_eq_false_iff_not] at this
   rcases this with a | a | a
   ·exact hq'.1 a
   ·exact a hq'.2.1
   ·exact a hq'.2.2
 ·rcases En.first_cases (En.atQ F ((q % 24:Nat):Int) ((q / 24:Nat):Int)) 32 with ⟨h2,hno⟩ | ⟨k,_,h2,_⟩
  ·exfalso
   have hq':Th i 0≠0∧Th i 3=((q % 24:Nat):Int)∧Th i 4=((q / 24:Nat):Int):=by simpa [En.atQ] using hq
   obtain ⟨_,k,hk,e⟩:=h.1 i hi
   have:=hno k hk
   rw [←e] at hq'
   simp only [En.atQ,Bool.and_eq_false_iff,Bool.not_eq_eq_eq_not,Bool.not_false,decide_eq_true_eq,decide_eq_false_iff_not] at this
   rcases this with a | a | a
   ·exact hq'.1 a
   ·exact a hq'.2.1
   ·exact a hq'.2.2
  ·rw [h1,h2]
   refine (decide_eq_true (by omega)).trans (decide_eq_true (by omega)).symm

theorem Cr.best_st {F:Nat→Int} {st st':Nat→Bool} (h:∀q,st q=st' q):∀k,Nv.best F st k=Nv.best F st' k:=fun k=>by
 rw [show st=st' from funext h]

theorem Cr.Both.spot {Th F:Nat→Nat→Int} {n:Nat} (h:Cr.Both Th n F) {c:Nat→Int} {x y v:Int} (hv:Nv.IsSpot c Th n x y v):Nv.IsSpot c F 32 x y v:=by
 obtain ⟨G,hG,rfl⟩:=hv
 exact ⟨G,hG,Cr.best_st h.st 384⟩

theorem Cr.Both.put {Th F:Nat→Nat→Int} {n k:Nat} (h:Cr.Both Th n F) (hk:k<32) (k0:F k 0=0) {e:Nat→Int} (he:e 0≠0):Cr.Both (En.put Th n e) (n+1) (En.put F k e):=by
 refine ⟨fun i hi=>?_,fun j hj j0=>?_⟩
 ·by_cases x:i=n
  ·rw [x,En.put_same]
   exact ⟨he,k,hk,En.put_same _ _ _⟩
  ·rw [En.put_other x]
   obtain ⟨i0,j,hj,e'⟩:=h.1 i (by omega)
   have:j≠k:=fun x=>by rw [x] at e';rw [e'] at k0;exact i0 k0
   exact ⟨i0,j,hj,by rw [En.put_other this];exact e'⟩
 ·by_cases x:j=k
  ·exact ⟨n,by omega,by rw [x,En.put_same,En.put_same]⟩
  ·rw [En.put_other x] at j0 ⊢
   obtain ⟨i,hi,e'⟩:=h.2 j hj j0
   exact ⟨i,by omega,by rw [En.put_other (by omega)];exact e'⟩


open Go.RowKit

set_option maxRecDepth 8000 in
set_option maxHeartbeats 3200000 in
theorem cOnlyCarried_any (gI cI:Nat) (I:Nat→Nat→Int) (w:World) (hI:Lie w gI 47 160 (Gd.flat I)) :
  Calls Tryz.prog 56 #[.slice (some ⟨gI,0,none⟩) 40 cI] w (Gd.Gives40 w (Cr.kept I)):=by
 have ct:=hide (crawlTwinItems_any gI 40 160 cI (Gd.flat I) w (by omega) (by omega) (fun _=>rfl) (fun c hc=>hI.cell hc) hI.lt)
 have hk0:Hid (Cr.keptTo I 0=I):=Cr.keptTo_zero I
 have hke:Hid (∀i,i<40→Cr.keptTo I 40 i=Cr.kept I i):=fun i hi=>if_pos hi
 clear hI
 go_enter Tryz.func56,Tryz.ntmps56
 go_wp2_with fail
 refine (uh ct).mono ?_
 rintro e w1 ⟨j,rfl,hlo,hA,hg1⟩
 have hH:Hid (Lie w1 j 47 160 (Gd.flat (Cr.keptTo I 0))):=by
  show Lie w1 j 47 160 (Gd.flat (Cr.keptTo I 0))
  rw [uh hk0]
  exact hA.lie
 have hG1:=hide hg1
 have hlo':=hide hlo
 clear hA hg1 hlo ct hk0
 go_wp2_with fail
 go_loopw [10] (fun v10 wr=>∃i:Nat,i≤40∧v10=.int .i64 (i:Int)∧Hid (Lie wr j 47 160 (Gd.flat (Cr.keptTo I i)))∧Hid (w.grownBy wr none)) (fun v10 _=>50 - (intOf v10).toNat)
 case atStart=>exact ⟨0,by omega,rfl,hH,hG1⟩
 case round =>
  clear hH hG1
  obtain ⟨i,hi,rfl,hH,hg⟩:=hrel
  by_cases hlt:i<40
  ·have hlt':(i:Int)<40:=by omega
   have HL:=hide hlt
   have hrow:=((uh hH).its (n:=40) (by omega) (by omega)).row hlt
   rw [Cr.keptTo_at] at hrow
   obtain ⟨u0,u1,u2,u3⟩:=hrow
   obtain ⟨w0,hw0⟩:∃w0,w0=wr.alloc (.cells #[.int .i64 (I i 0),.int .i64 (I i 1),.int .i64 (I i 2),.int .i64 (I i 3)] 47):=⟨_,rfl⟩
   have hg0:wr.grownBy w0 none:=by rw [hw0];exact World.grownBy_alloc _ _ _
   have q1:w0.cell? ⟨wr.heap.size,1,none⟩=some (.int .i64 (I i 1)):=by
    rw [hw0]
    exact (Arr.lit (heap_alloc_new wr _)).cell (i:=1) (by show 1<4;omega)
   have hH0:=hide ((uh hH).on hg0)
   have hg2:=hide (gtr (uh hg) hg0)
   have hgo:=hide (Cr.keptTo_go (I:=I) (n:=i))
   have hst:=hide (Cr.keptTo_stay (I:=I) (n:=i))
   clear hlt hi hg0 hH hg
   go_upto_region 5 with fail
   rw [←hw0]
   clear hw0 u0 u1 u2 u3
   obtain ⟨B,hB⟩:∃B,wr.heap.size=B:=⟨_,rfl⟩
   rw [hB] at q1 ⊢
   clear hB
   obtain ⟨x,hx⟩:∃x,I i 1=x:=⟨_,rfl⟩
   rw [hx] at q1 hgo hst
   clear hx
   have fJ:=(uh hH0).free
   have hH1:=hide (fun he=>(show Lie (w0.setCells j (i*4) (Gd.cells (fun _=>0)).toList) j 47 160 (Gd.flat (Cr.keptTo I (i+1))) by rw [←uh hgo he];exact (uh hH0).item i (fun _=>0)))
   have hg3:=hide (fun vs=>own_sets (uh hlo') vs (i*4) w0 (uh hg2))
   have hrow:=((uh hH0).its (n:=40) (by omega) (by omega)).row (uh HL)
   obtain ⟨u0,u1,u2,u3⟩:=hrow
   by_cases h1:x=1
   ·subst h1
    have hf:=hide (uh hH1 (.inl rfl))
    clear hH1 hst hgo
    go_wp2
    go_roundw
    case rel=>exact ⟨i+1,by have:=uh HL;omega,by go_num,uh hf,uh hg3 [_,_,_,_]⟩
    case measure=>simp [intOf];have:=uh HL;omega
   ·have b1:(x == 1)=false:=by simpa using h1
    by_cases h4:x=4
    ·subst h4
     have hf:=hide (uh hH1 (.inr rfl))
     clear hH1 hst hgo h1 b1
     go_wp2
     go_roundw
     case rel=>exact ⟨i+1,by have:=uh HL;omega,by go_num,uh hf,uh hg3 [_,_,_,_]⟩
     case measure=>simp [intOf];have:=uh HL;omega
    ·have b4:(x == 4)=false:=by simpa using h4
     have hf:Hid (Lie w0 j 47 160 (Gd.flat (Cr.keptTo I (i+1)))):=by
      show Lie w0 j 47 160 (Gd.flat (Cr.keptTo I (i+1)))
      rw [←uh hst (by omega)]
      exact uh hH0
     clear hH1 hst hgo h1 h4 hg3
     go_wp2
     go_roundw
     case rel=>exact ⟨i+1,by have:=uh HL;omega,by go_num,hf,hg2⟩
     case measure=>simp [intOf];have:=uh HL;omega
  ·obtain rfl:i=40:=by omega
   have hge:¬((40:Nat):Int)<40:=by omega
   have hfin:Hid (Gd.Gives40 w (Cr.kept I) (.returned (.slice (some ⟨j,0,none⟩) 40 40)) wr):=⟨j,40,rfl,uh hlo',(uh hH).congr fun q hq=>by unfold Gd.flat;rw [uh hke (q / 4) (by omega)],uh hg⟩
   clear hlt hi
   go_wp2
   go_ret
   exact uh hfin

theorem Cr.list_more (Th:Nat→Nat→Int) (n:Nat) (e:Nat→Int):En.list (n+1) (En.put Th n e)=En.list n Th ++ [.int .i64 (e 0),.int .i64 (e 1),.int .i64 (e 2),.int .i64 (e 3),.int .i64 (e 4),.int .i64 (e 5),.int .i64 (e 6),.int .i64 (e 7),.int .i64 (e 8),.int .i64 (e 9),.int .i64 (e 10)]:=by
 apply List.ext_getElem?
 intro i
 by_cases h1:i<n*11
 ·rw [En.list_at (by omega),List.getElem?_append_left (by rw [En.list_len];exact h1),En.list_at h1]
  unfold En.flat
  rw [En.put_other (by omega)]
 ·rw [List.getElem?_append_right (by rw [En.list_len];omega),En.list_len]
  by_cases h2:i<(n+1)*11
  ·rw [En.list_at h2]
   obtain ⟨j,rfl⟩:∃j,i=n*11+j:=⟨i - n*11,by omega⟩
   have e1:(n*11+j) / 11=n:=by omega
   have e2:(n*11+j) % 11=j:=by omega
   unfold En.flat
   rw [e1,e2,En.put_same,show n*11+j - n*11=j by omega]
   rcases (show j=0∨j=1∨j=2∨j=3∨j=4∨j=5∨j=6∨j=7∨j=8∨j=9∨j=10 by omega) with rfl | rfl | rfl | rfl | rfl | rfl | rfl | rfl | rfl | rfl | rfl <;> rfl
  ·rw [List.getElem?_eq_none (by rw [En.list_len];omega),List.getElem?_eq_none (by show 11≤_;omega)]

def Cr.There (x:World) (lo:Nat) (v:Value) (n:Nat) (Th:Nat→Nat→Int):Prop:=x.ownsRow lo 42 11 v n (En.list n Th)

theorem Cr.There.form {x:World} {lo n:Nat} {v:Value} {Th:Nat→Nat→Int} (h:Cr.There x lo v n Th) (hn:n≤32):∃a k,v=.slice a n k∧Nv.Lst x a n k Th:=by
 have h0:=h
 rcases h.2 with ⟨h1,h2⟩ | ⟨g,cap,cur,h1,_,_,hnc,_⟩
 ·exact ⟨none,0,by rw [h1,h2],by omega,by omega,.inl h2⟩
 ·subst h1
  exact ⟨_,cap,rfl,hn,hnc,.inr ⟨g,rfl,(Own.of_owns h0 hn (fun c hc=>En.list_at hc)).ents⟩⟩

theorem Cr.There.low {x:World} {lo n:Nat} {v:Value} {Th:Nat→Nat→Int} (h:Cr.There x lo v n Th) {m:Nat} (hm:v.ownBlock=some m):lo≤m:=by
 rcases h.2 with ⟨h1,_⟩ | ⟨g,cap,cur,h1,hb,_⟩
 ·rw [h1] at hm;simp [Value.ownBlock] at hm
 ·rw [h1] at hm
  simp [Value.ownBlock] at hm
  omega

structure Cr.Gath (w x:World) (lo J t n:Nat) (v:Value) (c:Nat→Int) (E F Th:Nat→Nat→Int):Prop where
 own:Own x J 32 (Cr.mid E F)
 there:Cr.There x lo v n Th
 both:Cr.Both Th n F
 words:Nv.Words n Th
 land:Cr.LandTo c E t (Cr.bare E) F
 nt:n≤t
 lw:w.heap.size≤J
 lJ:J<lo
 lx:lo≤x.heap.size
 grown:w.grownBy x none

theorem Cr.Gath.on {w x y:World} {lo J t n:Nat} {v:Value} {c:Nat→Int} {E F Th:Nat→Nat→Int} (h:Cr.Gath w x lo J t n v c E F Th) (hg:x.grownBy y none):Cr.Gath w y lo J t n v c E F Th :=
 { h with own:=h.own.on hg,there:=Cr.Same.owns (lo:=lo) (x:=x) (y:=y) ⟨hg.size,fun k _ hk=>hg.block k hk (by simp)⟩ h.there,lx:=Nat.le_trans h.lx hg.size,grown:=gtr h.grown hg }

theorem Cr.Gath.skip {w x:World} {lo J t n:Nat} {v:Value} {c:Nat→Int} {E F Th:Nat→Nat→Int} (h:Cr.Gath w x lo J t n v c E F Th) (hn:Gd.hero E (t:Int)<0):Cr.Gath w x lo J (t+1) n v c E F Th :=
 { h with land:=⟨F,h.land,(show Cr.Lands c E (t:Int) F F by unfold Cr.Lands;rw [if_pos hn])⟩,nt:=by have:=h.nt;omega }

theorem Cr.Gath.put {w x:World} {lo J t n k:Nat} {v:Value} {c:Nat→Int} {E F Th:Nat→Nat→Int} (h:Cr.Gath w x lo J t n v c E F Th) (e:Nat→Int) (he:e 0≠0):Own (x.setCells J (k*11) (En.cells e).toList) J 32 (Cr.mid E (En.put F k e))∧Cr.There (x.setCells J (k*11) (En.cells e).toList) lo v n Th∧w.grownBy (x.setCells J (k*11) (En.cells e).toList) none∧lo≤(x.setCells J (k*11) (En.cells e).toList).heap.size:=by
 have hs:Cr.Same lo x (x.setCells J (k*11) (En.cells e).toList):=Cr.Same.sets (.inl h.lJ) _ _ ⟨Nat.le_refl _,fun _ _ _=>rfl⟩
 refine ⟨?_,hs.owns h.there,own_sets h.lw _ _ x h.grown,Nat.le_trans h.lx hs.1⟩
 rw [←Cr.mid_put he]
 exact h.own.store k e

def Cr.Gathers (w:World) (c:Nat→Int) (E:Nat→Nat→Int) (e:Ending) (w':World):Prop :=
 ∃(J:Nat) (F:Nat→Nat→Int),e=.returned (.slice (some ⟨J,0,none⟩) 32 32)∧w.heap.size≤J∧Own w' J 32 F∧Cr.LandTo c E 4 (Cr.bare E) F∧w.grownBy w' none


open Go.RowKit

set_option maxRecDepth 8000 in
set_option maxHeartbeats 12800000 in
theorem cGathered_any (gC cC gE cE:Nat) (c c0:Nat→Int) (E I:Nat→Nat→Int) (w:World) (hC:Lie w gC 5 384 (Byts c)) (hcC:384≤cC) (hE:Own w gE 32 (Cr.kingsTo E 32)) (ho:Cr.Sane c0 E I) (hF:Nv.Floor c) (h4:Cr.Four c) :
  Calls Tryz.prog 53 #[.slice (some ⟨gC,0,none⟩) 384 cC,.slice (some ⟨gE,0,none⟩) 32 cE] w (Cr.Gathers w c E):=by
 have ct:=hide (crawlTwinEnts_any gE 32 352 cE (En.flat (Cr.kingsTo E 32)) w (by omega) (by omega) (fun _=>rfl) (fun j hj=>hE.ents.flat (by omega)) hE.lt)
 have hc8:∀i,0≤c i∧c i≤255:=fun i=>⟨(hF.five i).1,by have:=(hF.five i).2;omega⟩
 have hbs:Cr.Sane c (Cr.bare E) (fun _ _=>0):=Cr.bare_sane hc8 (Md.ok_none c) ho.good.gens
 have hld:Hid (∀t F,t≤4→Cr.LandTo c E t (Cr.bare E) F→Cr.Landed E F t):=fun t F ht h=>(Cr.landing ho hF h4 ht hbs (fun k _ k0=>absurd rfl k0) h).2
 have hsan:Hid (∀t F,t≤4→Cr.LandTo c E t (Cr.bare E) F→Cr.Sane c F (fun _ _=>0)):=fun t F ht h=>(Cr.landing ho hF h4 ht hbs (fun k _ k0=>absurd rfl k0) h).1
 have hmb:Hid (Cr.kingsTo E 32=Cr.mid E (Cr.bare E)):=(Cr.mid_bare E).symm
 have hC':=hide hC
 have hcC':=hide hcC
 have hF':=hide hF
 have h4':=hide h4
 have hend:Hid (∀F x J,Cr.LandTo c E 4 (Cr.bare E) F→Own x J 32 (Cr.mid E F)→Own x J 32 F):=fun F x J hL hO=>hO.congr (Cr.mid_end ho hL)
 clear hC hcC hE ho hF h4 hc8 hbs
 go_enter Tryz.func53,Tryz.ntmps53
 go_wp2_with fail
 refine (uh ct).mono ?_
 rintro e w1 ⟨J,rfl,hlo,hA,hg1⟩
 have hK0:Hid (Cr.Gath w w1 w1.heap.size J 0 0 (.slice none 0 0) c E (Cr.bare E) (fun _ _=>0)):=by
  refine ⟨?_,⟨rfl,.inl ⟨rfl,rfl⟩⟩,⟨fun i hi=>by omega,fun k _ k0=>absurd rfl k0⟩,fun i hi=>by omega,rfl,by omega,hlo,hA.lt,Nat.le_refl _,hg1⟩
  rw [←uh hmb]
  exact (hA.lie).own (by omega) (by omega)
 clear hlo hA hg1 ct hmb
 generalize w1.heap.size=lo at hK0
 go_wp2_with fail
 go_loopw [6,12] (fun v6 v12 wr=>∃(t n:Nat) (F Th:Nat→Nat→Int),t≤4∧v12=.int .i64 (t:Int)∧Hid (Cr.Gath w wr lo J t n v6 c E F Th)) (fun _ v12 _=>10 - (intOf v12).toNat)
 case atStart=>exact ⟨0,0,Cr.bare E,fun _ _=>0,by omega,rfl,hK0⟩
 case round =>
  clear hK0
  obtain ⟨t,n,F,Th,ht,rfl,hK⟩:=hrel
  by_cases hlt:t<4
  ·have hlt':(t:Int)<4:=by omega
   have HL:=hide hlt
   have hl:=hide (uh hld t F ht (uh hK).land)
   have ch:=hero_any J 32 32 (Cr.mid E F) (t:Int) wr (uh hK).own.ents (Nat.le_refl _)
   change Calls _ _ _ _ (Says wr (.int .i64 (Gd.hero (Cr.mid E F) (t:Int)))) at ch
   rw [Cr.mid_hero (uh hl)] at ch
   have hp:=hide (@Gd.hero_pos E (t:Int))
   obtain ⟨z,hz⟩:∃z,Gd.hero E (t:Int)=z:=⟨_,rfl⟩
   rw [hz] at ch hp
   have ch':=hide ch
   have hz':=hide hz
   clear hlt ht ch hz
   go_wp2_with fail
   refine (uh ch').mono ?_
   rintro e w2 ⟨rfl,hg2⟩
   have hK2:=hide ((uh hK).on hg2)
   clear hg2 ch' hK
   by_cases h0:z<0
   ·have hK3:=hide ((uh hK2).skip (by rw [uh hz'];exact h0))
    clear hp hK2
    go_wp2
    go_roundw
    case rel=>exact ⟨t+1,n,F,Th,by have:=uh HL;omega,by go_num,hK3⟩
    case measure=>simp [intOf];have:=uh HL;omega
   ·obtain ⟨k,hk,rfl,k2,k1⟩:=uh hp (by omega)
    have HK:=hide hk
    have hk':(k:Int)<32:=by omega
    have hnt:=(uh hK2).nt
    have hm:=hide (Cr.mid_at (uh hl) hk k1 k2)
    obtain ⟨a,kk,hv6,hlst⟩:=(uh hK2).there.form (by omega)
    subst hv6
    have ca:=hide (cArrival_any (some ⟨gC,0,none⟩) a cC n kk c Th w2 ⟨by unfold maxLen;omega,.inr ⟨gC,0,rfl,((uh hC').on (uh hK2).grown).lt,fun i hi=>by rw [Nat.zero_add];exact ((uh hC').on (uh hK2).grown).cell hi⟩⟩ (uh hF') (uh hcC') hlst (uh hK2).words)
    have hroom:=hide (Cr.landed_room (uh h4') (by have:=uh HL;omega) (uh hl))
    have hlands:Hid (∀q:Nat,Nv.IsSpot c F 32 (Gr.find 384 c 3 % 24) (Gr.find 384 c 3 / 24) (q:Int)→Cr.LandTo c E (t+1) (Cr.bare E) (En.put F k (En.upd (En.upd (E k) 3 ((q:Int) % 24)) 4 ((q:Int) / 24)))):=fun q h1=>⟨F,(uh hK2).land,(show Cr.Lands c E (t:Int) F _ by unfold Cr.Lands;rw [uh hz',if_neg h0,Int.toNat_natCast];exact ⟨(q:Int),h1,by rw [if_neg (by omega)]⟩)⟩
    have k1':=hide k1
    clear h0 hp hk k1 k2 hlst hnt
    go_wp2_with fail
    refine (uh ca).mono ?_
    rintro e w3 ⟨v,hv,rfl,hg3⟩
    have hsp:=(uh hK2).both.spot hv
    have hK3:=hide ((uh hK2).on hg3)
    have hv0:0≤v:=by
     obtain ⟨q,hq,hcq,hst⟩:=uh hroom
     exact Cr.spot_some (uh hF') hq hcq hst hsp
    obtain ⟨q,rfl⟩:∃q:Nat,v=(q:Int):=⟨v.toNat,by omega⟩
    have hq:=(Cr.spot_room hsp).1
    have hge:(q:Int)≥0:=by omega
    have hT:=hide (uh hlands q hsp)
    have cp:=hide (fun z=>cPlaced_any (E k) q hq z)
    obtain ⟨p,hpe⟩:∃p,En.upd (En.upd (E k) 3 ((q:Int) % 24)) 4 ((q:Int) / 24)=p:=⟨_,rfl⟩
    have hp0:Hid (p 0≠0):=(show p 0≠0 by rw [←hpe,En.upd_other (by omega),En.upd_other (by omega),uh k1'];omega)
    have hp34:Hid (p 3=(q:Int) % 24∧p 4=(q:Int) / 24):=(show p 3=(q:Int) % 24∧p 4=(q:Int) / 24 by rw [←hpe];exact ⟨by rw [En.upd_other (by omega),En.upd_same],by rw [En.upd_same]⟩)
    have hq':=hide hq
    rw [hpe] at cp hT
    obtain ⟨r0,r1,r2,r3,r4,r5,r6,r7,r8,r9,r10⟩:=(uh hK3).own.ents.row (uh HK)
    rw [(uh hm).2] at r0 r1 r2 r3 r4 r5 r6 r7 r8 r9 r10
    unfold En.cells at cp
    clear hv hg3 ca hroom hlands hsp hv0 hq hpe hK2
    go_wp2_with fail
    refine (uh cp _).mono ?_
    rintro e w4 ⟨rfl,hg4⟩
    have hK4:=hide ((uh hK3).on hg4)
    have hput:=hide ((uh hK4).put (k:=k) p (uh hp0))
    have fJ:=(uh hK4).own.free
    have hb2:=hide ((uh hK4).both.put (uh HK) (uh hm).1 (uh hp0))
    have hw2:Hid (Nv.Words (n+1) (En.put Th n p)):=fun i hi=>by
     by_cases x:i=n
     ·rw [x,En.put_same,(uh hp34).1,(uh hp34).2]
      have:=uh hq'
      omega
     ·rw [En.put_other x]
      exact (uh hK4).words i (by omega)
    obtain ⟨u0,u1,u2,u3,u4,u5,u6,u7,u8,u9,u10⟩:=(uh hK4).own.ents.row (uh HK)
    clear hg4 cp r0 r1 r2 r3 r4 r5 r6 r7 r8 r9 r10 hK3
    unfold En.cells at hput
    go_upto_region 11 with fail
    have hst:Hid (∃w5,w5=((((((((((w4.setCell ⟨J,k*11,none⟩ (.int .i64 (p 0))).setCell ⟨J,k*11+1,none⟩ (.int .i64 (p 1))).setCell ⟨J,k*11+2,none⟩ (.int .i64 (p 2))).setCell ⟨J,k*11+3,none⟩ (.int .i64 (p 3))).setCell ⟨J,k*11+4,none⟩ (.int .i64 (p 4))).setCell ⟨J,k*11+5,none⟩ (.int .i64 (p 5))).setCell ⟨J,k*11+6,none⟩ (.int .i64 (p 6))).setCell ⟨J,k*11+7,none⟩ (.int .i64 (p 7))).setCell ⟨J,k*11+8,none⟩ (.int .i64 (p 8))).setCell ⟨J,k*11+9,none⟩ (.int .i64 (p 9))).setCell ⟨J,k*11+10,none⟩ (.int .i64 (p 10))∧Own w5 J 32 (Cr.mid E (En.put F k p))∧Cr.There w5 lo (.slice a n kk) n Th∧w.grownBy w5 none∧lo≤w5.heap.size):=⟨_,rfl,(uh hput).1,(uh hput).2.1,(uh hput).2.2.1,(uh hput).2.2.2⟩
    obtain ⟨w5,hw5,hO5,hT5,hg5,hlo5⟩:=uh hst
    rw [←hw5]
    have hO5':=hide hO5
    have hT5':=hide hT5
    have hg5':=hide hg5
    have hlo5':=hide hlo5
    obtain ⟨r0,r1,r2,r3,r4,r5,r6,r7,r8,r9,r10⟩:=hO5.ents.row (uh HK)
    rw [(show Cr.mid E (En.put F k p) k=p by unfold Cr.mid;rw [En.put_same,if_neg (uh hp0)])] at r0 r1 r2 r3 r4 r5 r6 r7 r8 r9 r10
    clear hw5 hO5 hT5 hg5 hlo5 hst hput u0 u1 u2 u3 u4 u5 u6 u7 u8 u9 u10 fJ
    obtain ⟨i0,hi,hz0,hz1,hz2⟩:=info_parts info_ent
    have hn32:n≤32:=by have:=(uh hK4).nt;have:=uh HL;omega
    go_wp2_with (at_builtin;refine wpList_append_own _ rfl _ _ 24 rfl lo 42 i0 (.agg #[.int .i64 0,.int .i64 0,.int .i64 0,.int .i64 0,.int .i64 0,.int .i64 0,.int .i64 0,.int .i64 0,.int .i64 0,.int .i64 0,.int .i64 0]) 11 88 Tryz.underlying24 hi hz0 hz1 hz2 rfl (by decide) _ _ _ rfl ((uh hT5').alloc _) ⟨w5.heap.size,0,none⟩ 1 1 [.int .i64 (p 0),.int .i64 (p 1),.int .i64 (p 2),.int .i64 (p 3),.int .i64 (p 4),.int .i64 (p 5),.int .i64 (p 6),.int .i64 (p 7),.int .i64 (p 8),.int .i64 (p 9),.int .i64 (p 10)] rfl rfl ?_ ?_ ?_ ?_ ?_ ?_)
    ·exact ent_news _ _ rfl _ _ _ _ _ _ _ _ _ _ _ _
    ·intro u hu
     simp only [List.mem_cons,List.not_mem_nil,or_false] at hu
     rcases hu with rfl | rfl | rfl | rfl | rfl | rfl | rfl | rfl | rfl | rfl | rfl <;> rfl
    ·unfold maxLen;omega
    ·omega
    ·have:=uh hlo5';simp;omega
    intro v6 w6 hown6 hgrow6 _
    rw [←Cr.list_more] at hown6
    have hga:=World.grownBy_alloc w5 (.cells #[.int .i64 (p 0),.int .i64 (p 1),.int .i64 (p 2),.int .i64 (p 3),.int .i64 (p 4),.int .i64 (p 5),.int .i64 (p 6),.int .i64 (p 7),.int .i64 (p 8),.int .i64 (p 9),.int .i64 (p 10)] 42) none
    have hK6:Hid (Cr.Gath w w6 lo J (t+1) (n+1) v6 c E (En.put F k p) (En.put Th n p)):=by
     have q1:=(uh hK4).lw
     have q2:=(uh hK4).lJ
     have q3:=(uh hK4).nt
     have hob:∀m,Value.ownBlock (.slice a n kk)=some m→lo≤m:=fun m hm=>(uh hT5').low hm
     refine ⟨?_,hown6,uh hb2,uh hw2,uh hT,by omega,q1,q2,?_,?_⟩
     ·have hl:=((uh hO5').lie (m:=352) (by omega)).on hga
      exact (hl.grown hgrow6 (fun e=>by have:=hob J e;omega)).own (by omega) (by omega)
     ·have:=uh hlo5'
      have:=hga.size
      have:=hgrow6.size
      omega
     ·exact gow (gtr (uh hg5') hga) hgrow6 (fun m hm=>by have:=hob m hm;omega)
    clear hown6 hgrow6 hga hi hz0 hz1 hz2 r0 r1 r2 r3 r4 r5 r6 r7 r8 r9 r10 hO5' hT5' hg5' hlo5' hb2 hw2 hT hK4
    go_wp2
    go_roundw
    case rel=>exact ⟨t+1,n+1,En.put F k p,En.put Th n p,by have:=uh HL;omega,by go_num,hK6⟩
    case measure=>simp [intOf];have:=uh HL;omega
  ·obtain rfl:t=4:=by omega
   have hge:¬((4:Nat):Int)<4:=by omega
   have hfin:Hid (Cr.Gathers w c E (.returned (.slice (some ⟨J,0,none⟩) 32 32)) wr):=⟨J,F,rfl,(uh hK).lw,uh hend F wr J (uh hK).land (uh hK).own,(uh hK).land,(uh hK).grown⟩
   clear hlt ht
   go_wp2
   go_ret
   exact uh hfin


open Go.RowKit

def Cr.MadeOwn (seed f:Int) (w:World) (e:Ending) (w':World):Prop :=
 ∃(c:Nat→Int) (es:List (Int × Nat)) (is:List Gn.Itm) (G nE nI kE kI:Nat) (aE aI:Option Addr),Cr.Lev seed f c es is∧e=.returned (.tuple #[.agg #[.slice (some ⟨G,0,none⟩) 384 384,.slice aE nE kE,.slice aI nI kI],.int .i64 0])∧w.heap.size≤G∧Lie w' G 5 384 (Byts c)∧Cr.Mons w' aE nE es∧Gd.Some w' aI nI (Cr.itemOf is)∧nI=is.length∧w.grownBy w' none∧∀z,Cr.Same w.heap.size w' z→Cr.Mons z aE nE es∧Gd.Some z aI nI (Cr.itemOf is)

theorem gMake10_any (seed f:Int) (h1:1≤f) (h3:f≤3) (w:World):Calls Tryz.prog 52 #[.int .i64 seed,.int .i64 f] w (Cr.MadeOwn seed f w):=by
 obtain ⟨d,hd,hF⟩:=dice_of seed f
 refine (make_any seed f d hd hF h1 h3 w).mono ?_
 rintro e w' ⟨c,F,G,nE,nI,cE,cI,aE,aI,hlev,rfl,hG,hA,hnE,hnI,hE,hI,hg⟩
 have hl:Cr.Lev seed f c (Gn.ents d f c F) (Gn.items d c):=⟨d,F,hd,hF,hlev,rfl,rfl⟩
 have hE40:nE≤40:=by
  rw [hnE]
  have:=Gn.mons_len d f (f+2).toNat 0 ((Gn.those (fun i=>c i == 1) 384).filter (Gn.afar F))
  unfold Gn.ents
  omega
 have hI100:nI≤100:=by
  have:=Gn.items_len d c
  rw [hnI,this.1]
  split <;> omega
 exact ⟨c,_,_,G,nE,nI,cE,cI,aE,aI,hl,rfl,hG,hA.lie,Cr.mons_of hE hnE hE40 (fun p hp=>⟨(hl.mons h1 p hp).1,(hl.mons h1 p hp).2.1,(hl.mons h1 p hp).2.2.1⟩),Cr.goods_of hI hnI hI100,hnI,hg,fun z hz=>⟨Cr.mons_of (hz.owns hE) hnE hE40 (fun p hp=>⟨(hl.mons h1 p hp).1,(hl.mons h1 p hp).2.1,(hl.mons h1 p hp).2.2.1⟩),Cr.goods_of (hz.owns hI) hnI hI100⟩⟩

theorem Cr.Mons.more {w:World} {a:Option Addr} {n:Nat} {es:List (Int × Nat)} (h:Cr.Mons w a n es):Cr.More w a n (es.map fun p=>Cr.one p.1 0 p.2) :=
 ⟨by rw [List.length_map];exact h.1,h.2.1,fun i e he=>by
  rw [List.getElem?_map] at he
  obtain ⟨p,hp,rfl⟩:=Option.map_eq_some_iff.1 he
  obtain ⟨hk,b,ha,hb,hc⟩:=h.2.2 i p hp
  refine ⟨?_,b,ha,hb,hc⟩
  rw [(Cr.one_at p.1 0 p.2).1 (by omega) (by omega)]
  omega⟩

theorem Cr.join_stock (E:Nat→Nat→Int) (es:List (Int × Nat)):Cr.joinAll E (es.map fun p=>Cr.one p.1 0 p.2)=Cr.stockE E es:=by
 unfold Cr.joinAll Cr.stockE
 rw [List.foldl_map]
 congr 1

structure Cr.Entry (w x:World) (B L lo gC gE gI cC cE cI:Nat) (u:World) (lev:Nat→Value) (s g c:Nat→Int) (E I:Nat→Nat→Int):Prop where
 hand:Cr.Hand w x B gC gE gI cC cE cI s g c E I
 lev:Lie x L 78 3 lev
 res:Lie x (B+1) 28 11 (fun j=>#[.int .i64 0,.int .i64 0,.int .i64 0,.int .i64 0,.slice none 0 0,.slice none 0 0,.slice none 0 0,.int .i64 0,.int .i64 0,.int .i64 0,Value.int .i64 0][j]?.getD undef)
 same:Cr.Same lo u x
 bLo:B<lo

theorem Cr.Entry.on {w x y:World} {B L lo gC gE gI cC cE cI:Nat} {u:World} {lev:Nat→Value} {s g c:Nat→Int} {E I:Nat→Nat→Int} (h:Cr.Entry w x B L lo gC gE gI cC cE cI u lev s g c E I) (hg:x.grownBy y none):Cr.Entry w y B L lo gC gE gI cC cE cI u lev s g c E I :=
 ⟨h.hand.on hg,h.lev.on hg,h.res.on hg,h.same.on hg,h.bLo⟩

theorem Cr.Entry.folk {w x x':World} {B L lo gC gE gI cC cE cI jE dE:Nat} {u:World} {lev:Nat→Value} {s g c:Nat→Int} {E I F:Nat→Nat→Int} (h:Cr.Entry w x B L lo gC gE gI cC cE cI u lev s g c E I) (hcap:32≤dE) (hj:jE=gE∨x.heap.size≤jE) (hO:Own x' jE 32 F) (hg:x.grownBy x' none):Cr.Entry w (x'.setCell ⟨B,5,none⟩ (.slice (some ⟨jE,0,none⟩) 32 dE)) B L lo gC jE gI cC dE cI u lev s g c F I :=
 ⟨h.hand.folk hcap hj hO hg,(h.lev.on hg).other (h.hand.hold.box.type_ne h.lev (by decide)) 5 _,(h.res.on hg).other (by omega) 5 _,(h.same.on hg).set (.inl h.bLo) 5 _,h.bLo⟩

theorem Cr.Entry.goods {w x x':World} {B L lo gC gE gI cC cE cI jI dI:Nat} {u:World} {lev:Nat→Value} {s g c:Nat→Int} {E I J:Nat→Nat→Int} (h:Cr.Entry w x B L lo gC gE gI cC cE cI u lev s g c E I) (hj:x.heap.size≤jI) (hJ:Lie x' jI 47 160 (Gd.flat J)) (hg:x.grownBy x' none):Cr.Entry w (x'.setCell ⟨B,6,none⟩ (.slice (some ⟨jI,0,none⟩) 40 dI)) B L lo gC gE jI cC cE dI u lev s g c E J :=
 ⟨h.hand.goods hj hJ hg,(h.lev.on hg).other (h.hand.hold.box.type_ne h.lev (by decide)) 6 _,(h.res.on hg).other (by omega) 6 _,(h.same.on hg).set (.inl h.bLo) 6 _,h.bLo⟩

def Cr.Enters (w:World) (s g:Nat→Int) (E I:Nat→Nat→Int) (e:Ending) (w':World):Prop:=∃T,Cr.Below s g E I T∧Gd.WorldsW w T.s T.g T.c T.E T.I e w'

set_option maxRecDepth 8000 in
set_option maxHeartbeats 12800000 in
theorem cEntered_any (s g c0:Nat→Int) (E I:Nat→Nat→Int) (a:Option Addr) (n m gE gI cE cI:Nat) (w:World) (hE:Lie w gE 42 352 (En.flat E)) (hI:Lie w gI 47 160 (Gd.flat I)) (hcE:32≤cE) (n3:gE≠gI) (hS:Cr.Sane c0 E I) (f1:0≤s 2) (f2:s 2≤2) :
  Calls Tryz.prog 31 #[.agg #[.int .i64 (s 0),.int .i64 (s 1),.int .i64 (s 2),.int .i64 (s 3),.slice a n m,.slice (some ⟨gE,0,none⟩) 32 cE,.slice (some ⟨gI,0,none⟩) 40 cI,.int .i64 (g 0),.int .i64 (g 1),.int .i64 (g 2),.int .i64 (g 3)]] w (Cr.Enters w s g E I):=by
 obtain ⟨wz,hwz⟩:∃wz,wz=w.alloc (.cells #[.int .i64 (s 0),.int .i64 (s 1),.int .i64 (s 2),.int .i64 (s 3),.slice a n m,.slice (some ⟨gE,0,none⟩) 32 cE,.slice (some ⟨gI,0,none⟩) 40 cI,.int .i64 (g 0),.int .i64 (g 1),.int .i64 (g 2),.int .i64 (g 3)] 28):=⟨_,rfl⟩
 obtain ⟨w0,hw0⟩:∃w0,w0=wz.alloc (.cells #[.int .i64 0,.int .i64 0,.int .i64 0,.int .i64 0,.slice none 0 0,.slice none 0 0,.slice none 0 0,.int .i64 0,.int .i64 0,.int .i64 0,.int .i64 0] 28):=⟨_,rfl⟩
 have hgz:w.grownBy wz none:=by rw [hwz];exact World.grownBy_alloc _ _ _
 have hg0:wz.grownBy w0 none:=by rw [hw0];exact World.grownBy_alloc _ _ _
 have hGw:=hide (gtr hgz hg0)
 have sz:wz.heap.size=w.heap.size+1:=by rw [hwz];simp
 have sw:w0.heap.size=w.heap.size+2:=by rw [hw0,hwz];simp
 have hbox:Hid (Lie w0 w.heap.size 28 11 (fun j=>#[.int .i64 (s 0),.int .i64 (s 1),.int .i64 (s 2),.int .i64 (s 3),.slice a n m,.slice (some ⟨gE,0,none⟩) 32 cE,.slice (some ⟨gI,0,none⟩) 40 cI,.int .i64 (g 0),.int .i64 (g 1),.int .i64 (g 2),Value.int .i64 (g 3)][j]?.getD undef)):=by
  refine Lie.on ?_ hg0
  rw [hwz]
  exact (Arr.lit (heap_alloc_new w _)).lie
 have hres:Hid (Lie w0 (w.heap.size+1) 28 11 (fun j=>#[.int .i64 0,.int .i64 0,.int .i64 0,.int .i64 0,.slice none 0 0,.slice none 0 0,.slice none 0 0,.int .i64 0,.int .i64 0,.int .i64 0,Value.int .i64 0][j]?.getD undef)):=by
  show Lie w0 (w.heap.size+1) 28 11 (fun j=>#[.int .i64 0,.int .i64 0,.int .i64 0,.int .i64 0,.slice none 0 0,.slice none 0 0,.slice none 0 0,.int .i64 0,.int .i64 0,.int .i64 0,Value.int .i64 0][j]?.getD undef)
  rw [hw0,←sz]
  exact (Arr.lit (heap_alloc_new wz _)).lie
 have hE0:=hide (hE.on (uh hGw))
 have hI0:=hide (hI.on (uh hGw))
 have hlE:=hide (And.intro hE.lt hI.lt)
 have hn3:=hide n3
 have hcE':=hide hcE
 have hSa:=hide hS
 have hf:=hide (And.intro f1 f2)
 have cm:=hide (gMake10_any (s 0) (s 2+1) (by omega) (by omega) w0)
 have hwr:IntKind.i64.wrap (s 2+1)=s 2+1:=by rw [IntKind.wrap_i64];omega
 have hsw:=hide sw
 clear hE hI hcE n3 hS f1 f2 hgz hg0 sz sw
 rw [hwz] at hw0
 clear hwz
 go_enter Tryz.func31,Tryz.ntmps31
 go_upto_region 1 with fail
 rw [←hw0]
 clear hw0
 obtain ⟨B,hB⟩:∃B,w.heap.size=B:=⟨_,rfl⟩
 rw [hB] at hbox hres hlE hsw ⊢
 have hB':=hide hB
 clear hB
 have b0:w0.cell? ⟨B,0,none⟩=some (.int .i64 (s 0)):=(uh hbox).cell (c:=0) (by omega)
 have b2:w0.cell? ⟨B,2,none⟩=some (.int .i64 (s 2)):=(uh hbox).cell (c:=2) (by omega)
 go_wp2_with fail
 refine (uh cm).mono ?_
 rintro e0 w1 ⟨c,es,is,G,nE,nI,kE,kI,aE,aI,hlev,rfl,hG,hC,hM,hIt,hnI,hg1,hMI⟩
 obtain ⟨w2,hw2⟩:∃w2,w2=w1.alloc (.cells #[.slice (some ⟨G,0,none⟩) 384 384,.slice aE nE kE,.slice aI nI kI] 78):=⟨_,rfl⟩
 have hg2:w1.grownBy w2 none:=by rw [hw2];exact World.grownBy_alloc _ _ _
 have hg02:=gtr hg1 hg2
 have hlv:Hid (Lie w2 w1.heap.size 78 3 (fun j=>#[.slice (some ⟨G,0,none⟩) 384 384,.slice aE nE kE,.slice aI nI kI][j]?.getD undef)):=by
  rw [hw2]
  exact (Arr.lit (heap_alloc_new w1 _)).lie
 have hbox2:=hide ((uh hbox).on hg02)
 have hres2:=hide ((uh hres).on hg02)
 have hE2:=hide ((uh hE0).on hg02)
 have hI2:=hide ((uh hI0).on hg02)
 have hC2:=hide (hC.on hg2)
 have hGw2:=hide (gtr (uh hGw) hg02)
 have hlev':=hide hlev
 have hMI':Hid (∀z,Cr.Same w0.heap.size w2 z→Cr.Mons z aE nE es∧Gd.Some z aI nI (Cr.itemOf is)):=fun z hz=>hMI z ⟨Nat.le_trans hg2.size hz.1,fun k h1 h2=>(hz.2 k h1 (Nat.lt_of_lt_of_le h2 hg2.size)).trans (hg2.block k h2 (by simp))⟩
 have hnI':=hide hnI
 have hGl:Hid (B+2≤G∧G<w1.heap.size):=(show B+2≤G∧G<w1.heap.size by have:=uh hsw;have:=hC.lt;omega)
 clear hlev hG hC hM hIt hnI hg1 hMI hg2 hg02 cm b0 b2 hbox hres hE0 hI0 hGw
 go_upto_region 2 with fail
 rw [←hw2]
 clear hw2
 obtain ⟨L,hL⟩:∃L,w1.heap.size=L:=⟨_,rfl⟩
 rw [hL] at hlv hGl ⊢
 clear hL
 clear w1
 have nBL:=(uh hbox2).type_ne (uh hlv) (by decide)
 have nLB:L≠B:=nBL.symm
 obtain ⟨S,hSn⟩:∃S,S=Cr.num s 2 (s 2+1):=⟨_,rfl⟩
 obtain ⟨x0,hx0⟩:∃x0,x0=(w2.setCell ⟨B,2,none⟩ (.int .i64 (s 2+1))).setCell ⟨B,4,none⟩ (.slice (some ⟨G,0,none⟩) 384 384):=⟨_,rfl⟩
 have hE0:Hid (Cr.Entry w x0 B L w0.heap.size G gE gI 384 cE cI w2 (fun j=>#[.slice (some ⟨G,0,none⟩) 384 384,.slice aE nE kE,.slice aI nI kI][j]?.getD undef) S g c E I):=by
  have q1:=uh hlE
  have q2:=uh hGl
  have q3:=uh hsw
  have q4:=uh hB'
  have nC:B≠G:=by omega
  have nE:B≠gE:=by omega
  have nI:B≠gI:=by omega
  show Cr.Entry w x0 B L w0.heap.size G gE gI 384 cE cI w2 _ S g c E I
  rw [hx0,hSn]
  refine ⟨⟨⟨(((uh hbox2).store 2 _).store 4 _).congr fun j hj=>?_,⟨((uh hC2).other nC _ _).other nC _ _,((uh hE2).other nE _ _).other nE _ _,((uh hI2).other nI _ _).other nI _ _⟩,nC,nE,nI,by omega,by omega,uh hn3⟩,by omega,uh hcE',gsr (gsr (uh hGw2) ⟨B,2,none⟩ (by rw [q4];exact Nat.le_refl _) _) ⟨B,4,none⟩ (by rw [q4];exact Nat.le_refl _) _⟩,((uh hlv).other nBL _ _).other nBL _ _,((uh hres2).other (by omega) _ _).other (by omega) _ _,(Cr.Same.set (.inl (by omega)) (Cr.Same.set (.inl (by omega)) ⟨Nat.le_refl _,fun _ _ _=>rfl⟩ _ _) _ _),by omega⟩
  rcases (show j=0∨j=1∨j=2∨j=3∨j=4∨j=5∨j=6∨j=7∨j=8∨j=9∨j=10 by omega) with rfl | rfl | rfl | rfl | rfl | rfl | rfl | rfl | rfl | rfl | rfl <;> rfl
 have hSn':=hide hSn
 clear hSn
 have fB:=(uh hbox2).free
 have c2:w2.cell? ⟨B,2,none⟩=some (.int .i64 (s 2)):=(uh hbox2).cell (c:=2) (by omega)
 have c4:w2.cell? ⟨B,4,none⟩=some (.slice a n m):=(uh hbox2).cell (c:=4) (by omega)
 have l0:w2.cell? ⟨L,0,none⟩=some (.slice (some ⟨G,0,none⟩) 384 384):=(uh hlv).cell (c:=0) (by omega)
 clear hbox2 hres2 hE2 hI2 hC2 hGw2 hlv
 go_upto_region 6 with fail
 rw [←hx0]
 clear hx0 fB c2 c4 l0
 have hGw:=hide (uh hlE)
 have hland:Hid (∀F,Cr.LandTo c E 4 (Cr.bare E) F→Cr.Sane c F (Cr.stockI (Cr.kept I) is)):=fun F hF=>by
  have hl:=uh hlev'
  have hc8:∀i,0≤c i∧c i≤255:=fun i=>⟨(hl.floor.five i).1,by have:=(hl.floor.five i).2;omega⟩
  obtain ⟨hk,hk1⟩:=Cr.kept_ok (c':=c) (uh hSa).fit.ok
  exact (Cr.landing (uh hSa) hl.floor hl.four (by omega) (Cr.bare_sane hc8 (hl.lay hk hk1) (uh hSa).good.gens) (fun k _ k0=>absurd rfl k0) hF).1
 have hkeep:Hid (∀x,x0.grownBy x none→x.cell? ⟨B,4,none⟩=some (.slice (some ⟨G,0,none⟩) 384 384)∧x.cell? ⟨B,5,none⟩=some (.slice (some ⟨gE,0,none⟩) 32 cE)∧x.cell? ⟨L,1,none⟩=some (.slice aE nE kE)):=fun x hx=>⟨((uh hE0).on hx).hand.hold.box.eleven.2.2.2.2.1,((uh hE0).on hx).hand.hold.box.eleven.2.2.2.2.2.1,((uh hE0).on hx).lev.cell (c:=1) (by omega)⟩
 have ch:Hid (∀z,x0.grownBy z none→Calls Tryz.prog 54 #[.slice (some ⟨gE,0,none⟩) 32 cE] z (Cr.OneOf z gE (Cr.kingsTo E 32))):=fun z hz=>cOnlyHeroes_any gE cE E z ((uh hE0).on hz).hand.hold.lists.own (uh hcE')
 have cg:Hid (∀z (j d:Nat),x0.grownBy z none→Own z j 32 (Cr.kingsTo E 32)→Calls Tryz.prog 53 #[.slice (some ⟨G,0,none⟩) 384 384,.slice (some ⟨j,0,none⟩) 32 d] z (Cr.Gathers z c E)):=fun z j d hz hO=>cGathered_any G 384 j d c c0 E I z ((uh hE0).on hz).hand.hold.lists.cells (Nat.le_refl _) hO (uh hSa) (uh hlev').floor (uh hlev').four
 have cj:Hid (∀z (j:Nat) F,x0.grownBy z none→Own z j 32 F→Cr.LandTo c E 4 (Cr.bare E) F→Calls Tryz.prog 49 #[.slice (some ⟨j,0,none⟩) 32 32,.slice aE nE kE] z (Cr.OneOf z j (Cr.stockE F es))):=fun z j F hz hO hL=>(show Calls Tryz.prog 49 #[.slice (some ⟨j,0,none⟩) 32 32,.slice aE nE kE] z (Cr.OneOf z j (Cr.stockE F es)) by rw [←Cr.join_stock];exact cJoined_any j 32 nE kE aE F _ z hO (Nat.le_refl _) (uh hland F hL).good.gens (uh hMI' z ((uh hE0).on hz).same).1.more)
 have hd6:=hide (gd1 (World.grownBy.refl x0 none))
 refine wp_region_till (h:=10) (S:=fun x=>x.cell? ⟨B,4,none⟩=some (.slice (some ⟨G,0,none⟩) 384 384)∧x.cell? ⟨B,5,none⟩=some (.slice (some ⟨gE,0,none⟩) 32 cE)∧x.cell? ⟨L,1,none⟩=some (.slice aE nE kE)) (by kernel_rfl) ?_
 have hS0:=uh hkeep _ (uh hd6)
 refine wtk (i:=0) (v:=?_) [10] rfl (by kernel_rfl) (by kernel_rfl) (by kernel_rfl) (by kernel_rfl) (fun _ _ _ h=>h) hS0 (Or.inl ⟨by rfl,?_⟩) ?_
 rotate_left
 ·intro x hSx
  try dsimp only at hSx
  go_simp
  try with_reducible rfl
 simp only [Act.put]
 refine wtk (i:=1) (v:=?_) [10] rfl (by kernel_rfl) (by kernel_rfl) (by kernel_rfl) (by kernel_rfl) (fun _ _ _ h=>h) hS0 (Or.inl ⟨by rfl,?_⟩) ?_
 rotate_left
 ·intro x hSx
  try dsimp only at hSx
  go_simp
  try with_reducible rfl
 simp only [Act.put]
 refine wtk (i:=2) (v:=?_) [10] rfl (by kernel_rfl) (by kernel_rfl) (by kernel_rfl) (by kernel_rfl) (fun _ _ _ h=>h) hS0 (Or.inl ⟨by rfl,?_⟩) ?_
 rotate_left
 ·intro x hSx
  try dsimp only at hSx
  go_simp
  try with_reducible rfl
 simp only [Act.put]
 refine wtk (i:=3) (v:=?_) [10] rfl (by kernel_rfl) (by kernel_rfl) (by kernel_rfl) (by kernel_rfl) (fun _ _ _ h=>h) hS0 (Or.inl ⟨by rfl,?_⟩) ?_
 rotate_left
 ·intro x hSx
  try dsimp only at hSx
  go_simp
  try with_reducible rfl
 simp only [Act.put]
 refine wtk (i:=6) (v:=?_) [10] rfl (by kernel_rfl) (by kernel_rfl) (by kernel_rfl) (by kernel_rfl) (fun _ _ _ h=>h) hS0 (Or.inl ⟨by rfl,?_⟩) ?_
 rotate_left
 ·intro x hSx
  try dsimp only at hSx
  go_simp
  try with_reducible rfl
 simp only [Act.put]
 refine wtk (i:=7) (v:=?_) [10] rfl (by kernel_rfl) (by kernel_rfl) (by kernel_rfl) (by kernel_rfl) (fun _ _ _ h=>h) hS0 (Or.inl ⟨by rfl,?_⟩) ?_
 rotate_left
 ·intro x hSx
  try dsimp only at hSx
  go_simp
  try with_reducible rfl
 simp only [Act.put]
 refine wto (j:=4) (by kernel_rfl) rfl (fun K hK=>?_)
 go_simp
 refine (uh ch _ (uh hd6)).mono ?_
 rintro e0 x1 ⟨j1,d1,rfl,hc1,hj1,hown1,hg1⟩
 have hG1:=hide (gtr (uh hd6) hg1)
 have hO1:=hide hown1
 have hS1:=uh hkeep _ (uh hG1)
 clear hg1 hc1 hj1 hown1
 try go_simp
 refine hK.out _ _ (fun _=>uh hkeep _ (uh hG1)) ?_
 clear hK K
 refine wto (j:=5) (by kernel_rfl) rfl (fun K hK=>?_)
 go_simp
 refine (uh cg _ j1 d1 (uh hG1) (uh hO1)).mono ?_
 rintro e0 x2 ⟨j2,F,rfl,hl2,hown2,hland,hg2⟩
 have hG2:=hide (gtr (uh hG1) hg2)
 have hO2:=hide hown2
 have hla:=hide hland
 have hj2:Hid (x0.heap.size≤j2):=Nat.le_trans (uh hG1).size hl2
 have hS2:=uh hkeep _ (uh hG2)
 clear hg2 hl2 hown2 hland hS1 hO1
 try go_simp
 refine hK.out _ _ (fun _=>uh hkeep _ (uh hG2)) ?_
 clear hK K
 refine wto (j:=8) (by kernel_rfl) rfl (fun K hK=>?_)
 go_simp
 refine (uh cj _ j2 F (uh hG2) (uh hO2) (uh hla)).mono ?_
 rintro e0 x3 ⟨j3,d3,rfl,hc3,hj3,hown3,hg3⟩
 have hG3:=hide (gtr (uh hG2) hg3)
 have hE1:=hide ((uh hE0).folk hc3 (.inr (by rcases hj3 with h | h;rw [h];exact uh hj2;exact Nat.le_trans (uh hG2).size h)) hown3 (uh hG3))
 have hj3:Hid (x0.heap.size≤j3):=(show x0.heap.size≤j3 by rcases hj3 with h | h;rw [h];exact uh hj2;exact Nat.le_trans (uh hG2).size h)
 have hS3:=uh hkeep _ (uh hG3)
 have fB:=((uh hE0).on (uh hG3)).hand.hold.box.free
 clear hg3 hc3 hown3 hS2 hO2 hj2
 try go_simp
 refine hK.out _ _ (fun _=>uh hkeep _ (uh hG3)) ?_
 clear hK K
 refine wtk (i:=9) (v:=?_) [10] rfl (by kernel_rfl) (by kernel_rfl) (by kernel_rfl) (by kernel_rfl) (fun _ _ _ h=>h) hS3 (Or.inl ⟨by rfl,?_⟩) ?_
 rotate_left
 ·intro x hSx
  try dsimp only at hSx
  go_simp
  try with_reducible rfl
 simp only [Act.put]
 refine wto (j:=10) (by kernel_rfl) rfl (fun K hK=>?_)
 go_simp
 refine hK.out _ _ (fun hx=>absurd (hx.symm.trans (by kernel_rfl)) Bool.false_ne_true) ?_
 clear hK K
 refine wpTill_done (by kernel_rfl) ?_ _
 clear hkeep ch cg cj hd6 hG1 hG2 hG3 hS3
 go_upto_region 7 with fail
 generalize x3.setCell ⟨B,5,none⟩ (.slice (some ⟨j3,0,none⟩) 32 d3)=y0 at hE1 ⊢
 clear fB
 have hkeep:Hid (∀x,y0.grownBy x none→x.cell? ⟨B,6,none⟩=some (.slice (some ⟨gI,0,none⟩) 40 cI)∧x.cell? ⟨L,2,none⟩=some (.slice aI nI kI)):=fun x hx=>⟨((uh hE1).on hx).hand.hold.box.eleven.2.2.2.2.2.2.1,((uh hE1).on hx).lev.cell (c:=2) (by omega)⟩
 have cc:Hid (∀z,y0.grownBy z none→Calls Tryz.prog 56 #[.slice (some ⟨gI,0,none⟩) 40 cI] z (Gd.Gives40 z (Cr.kept I))):=fun z hz=>cOnlyCarried_any gI cI I z ((uh hE1).on hz).hand.hold.lists.items
 have hsi:Hid (Gd.lay (Cr.kept I) (Cr.itemOf is) nI=Cr.stockI (Cr.kept I) is):=(show Gd.lay (Cr.kept I) (Cr.itemOf is) nI=Cr.stockI (Cr.kept I) is by rw [uh hnI'];rfl)
 have cl:Hid (∀z (j d:Nat),y0.grownBy z none→Lie z j 47 160 (Gd.flat (Cr.kept I))→Calls Tryz.prog 55 #[.slice (some ⟨j,0,none⟩) 40 d,.slice aI nI kI] z (Gd.Gives40 z (Cr.stockI (Cr.kept I) is))):=fun z j d hz hJ=>(show Calls Tryz.prog 55 #[.slice (some ⟨j,0,none⟩) 40 d,.slice aI nI kI] z (Gd.Gives40 z (Cr.stockI (Cr.kept I) is)) by rw [←uh hsi];exact lay_any j d nI kI aI (Cr.kept I) (Cr.itemOf is) z hJ (uh hMI' z ((uh hE1).on hz).same).2)
 have hd7:=hide (gd1 (World.grownBy.refl y0 none))
 refine wp_region_till (h:=7) (S:=fun x=>x.cell? ⟨B,6,none⟩=some (.slice (some ⟨gI,0,none⟩) 40 cI)∧x.cell? ⟨L,2,none⟩=some (.slice aI nI kI)) (by kernel_rfl) ?_
 have hS0:=uh hkeep _ (uh hd7)
 refine wtk (i:=0) (v:=?_) [7] rfl (by kernel_rfl) (by kernel_rfl) (by kernel_rfl) (by kernel_rfl) (fun _ _ _ h=>h) hS0 (Or.inl ⟨by rfl,?_⟩) ?_
 rotate_left
 ·intro x hSx
  try dsimp only at hSx
  go_simp
  try with_reducible rfl
 simp only [Act.put]
 refine wtk (i:=1) (v:=?_) [7] rfl (by kernel_rfl) (by kernel_rfl) (by kernel_rfl) (by kernel_rfl) (fun _ _ _ h=>h) hS0 (Or.inl ⟨by rfl,?_⟩) ?_
 rotate_left
 ·intro x hSx
  try dsimp only at hSx
  go_simp
  try with_reducible rfl
 simp only [Act.put]
 refine wtk (i:=3) (v:=?_) [7] rfl (by kernel_rfl) (by kernel_rfl) (by kernel_rfl) (by kernel_rfl) (fun _ _ _ h=>h) hS0 (Or.inl ⟨by rfl,?_⟩) ?_
 rotate_left
 ·intro x hSx
  try dsimp only at hSx
  go_simp
  try with_reducible rfl
 simp only [Act.put]
 refine wtk (i:=4) (v:=?_) [7] rfl (by kernel_rfl) (by kernel_rfl) (by kernel_rfl) (by kernel_rfl) (fun _ _ _ h=>h) hS0 (Or.inl ⟨by rfl,?_⟩) ?_
 rotate_left
 ·intro x hSx
  try dsimp only at hSx
  go_simp
  try with_reducible rfl
 simp only [Act.put]
 refine wto (j:=2) (by kernel_rfl) rfl (fun K hK=>?_)
 go_simp
 refine (uh cc _ (uh hd7)).mono ?_
 rintro e0 y1 ⟨j4,d4,rfl,hl4,hJ4,hg4⟩
 have hG4:=hide (gtr (uh hd7) hg4)
 have hJ:=hide hJ4
 have hS4:=uh hkeep _ (uh hG4)
 clear hg4 hl4 hJ4
 try go_simp
 refine hK.out _ _ (fun _=>uh hkeep _ (uh hG4)) ?_
 clear hK K
 refine wto (j:=5) (by kernel_rfl) rfl (fun K hK=>?_)
 go_simp
 refine (uh cl _ j4 d4 (uh hG4) (uh hJ)).mono ?_
 rintro e0 y2 ⟨j5,d5,rfl,hl5,hJ5,hg5⟩
 have hG5:=hide (gtr (uh hG4) hg5)
 have hl5:Hid (y0.heap.size≤j5):=Nat.le_trans (uh hG4).size hl5
 have hE2:=hide ((uh hE1).goods (dI:=d5) (uh hl5) hJ5 (uh hG5))
 have hS5:=uh hkeep _ (uh hG5)
 have fB:=((uh hE1).on (uh hG5)).hand.hold.box.free
 clear hg5 hJ5 hS4 hJ
 try go_simp
 refine hK.out _ _ (fun _=>uh hkeep _ (uh hG5)) ?_
 clear hK K
 refine wtk (i:=6) (v:=?_) [7] rfl (by kernel_rfl) (by kernel_rfl) (by kernel_rfl) (by kernel_rfl) (fun _ _ _ h=>h) hS5 (Or.inl ⟨by rfl,?_⟩) ?_
 rotate_left
 ·intro x hSx
  try dsimp only at hSx
  go_simp
  try with_reducible rfl
 simp only [Act.put]
 refine wto (j:=7) (by kernel_rfl) rfl (fun K hK=>?_)
 go_simp
 refine hK.out _ _ (fun hx=>absurd (hx.symm.trans (by kernel_rfl)) Bool.false_ne_true) ?_
 clear hK K
 refine wpTill_done (by kernel_rfl) ?_ _
 clear hkeep cc cl hd7 hG4 hG5 hS5
 go_upto_region 8 with fail
 generalize y2.setCell ⟨B,6,none⟩ (.slice (some ⟨j5,0,none⟩) 40 d5)=y3 at hE2 ⊢
 clear fB
 obtain ⟨b0,b1,b2,b3,b4,b5,b6,b7,b8,b9,b10⟩:=(uh hE2).hand.hold.box.eleven
 have fz:=(uh hE2).res.free
 obtain ⟨z0,z1,z2,z3,z4,z5,z6,z7,z8,z9,z10⟩:=Gd.res_cells (uh hE2).res
 have hfo:Hid (∀vs,Cr.Enters w s g E I (.returned (.agg (Gd.world S G j3 j5 384 d3 d5 g))) (y3.setCells (B+1) 0 vs)):=fun vs=>by
  have hh:=(uh hE2).hand.hold
  have q1:=(uh hE2).res.type_ne hh.lists.cells (by decide)
  have q2:=(uh hE2).res.type_ne hh.lists.ents (by decide)
  have q3:=(uh hE2).res.type_ne hh.lists.items (by decide)
  have k1:=(uh hE0).hand.grown.size
  have k2:=(uh hE1).hand.grown.size
  have k3:=uh hj3
  have k4:=uh hl5
  have k5:=uh hGl
  have k6:=uh hB'
  refine ⟨⟨S,g,c,Cr.stockE F es,Cr.stockI (Cr.kept I) is⟩,⟨c,es,is,F,uh hlev',uh hla,by rw [uh hSn']⟩,G,j3,j5,384,d3,d5,rfl,⟨(uh hE2).hand.cap,Nat.le_refl _⟩,by omega,by omega,by omega,hh.cE,hh.cI,hh.eI,⟨hh.lists.cells.others q1 _ _,hh.lists.ents.others q2 _ _,hh.lists.items.others q3 _ _⟩,own_sets (by omega) _ 0 y3 (uh hE2).hand.grown⟩
 clear hE2
 go_wp2
 refine bodyPost_ret (v:=.agg (Gd.world S G j3 j5 384 d3 d5 g)) (by simp [results,Tryz.results31,go_sem,Gd.world,z0,z1,z2,z3,z4,z5,z6,z7,z8,z9,z10]) rfl ?_
 exact uh hfo [_,_,_,_,_,_,_,_,_,_,_]

end Go.Proofs.YtbanjoflgoiegabGreat
