import Derived.Test.YtbanjoflgoiegaaGreatPs40
import Derived.Test.YtbanjoflgoiegaaGreatPs49
namespace Go.Proofs.YtbanjoflgoiegaaGreat
open Go.RowKit

theorem Cr.land_inv {c:Nat→Int} {E:Nat→Nat→Int} (hs:Cr.Seats E):∀{t:Nat} {F:Nat→Nat→Int},Cr.LandTo c E t (Cr.bare E) F→∀k,k<32→(F k=Cr.bare E k∧(E k 0=1→(t:Int)≤E k 2))∨(F k 0=1∧E k 0=1)
 | 0,F,h,k,hk=>by
  rw [h]
  exact .inl ⟨rfl,fun k1=>(hs.seat k hk k1).1⟩
 | t+1,F,h,k,hk=>by
  obtain ⟨G,hG,hL⟩:=h
  have ih:=Cr.land_inv hs hG k hk
  unfold Cr.Lands at hL
  split at hL
  ·rename_i hn
   rw [hL]
   refine ih.imp (fun ⟨h1,h2⟩=>⟨h1,fun k1=>?_⟩) id
   have:=h2 k1
   by_cases e:E k 2=(t:Int)
   ·exfalso
    unfold Gd.hero at hn
    rcases En.first_cases (En.heroQ E (t:Int)) 32 with ⟨_,hno⟩ | ⟨j,_,hj,_⟩
    ·have:=hno k hk
     simp [En.heroQ,k1,e] at this
    ·omega
   ·omega
  ·rename_i hn
   obtain ⟨v,_,rfl⟩:=hL
   obtain ⟨r,hr,he,r1,r2⟩:=Md.hero_row hn
   rw [he,Int.toNat_natCast]
   by_cases e:k=r
   ·refine .inr ⟨?_,by rw [e];exact r1⟩
    rw [e,En.put_same]
    split
    ·exact r1
    ·rw [En.upd_other (by omega),En.upd_other (by omega)];exact r1
   ·rw [En.put_other e]
    refine ih.imp (fun ⟨h1,h2⟩=>⟨h1,fun k1=>?_⟩) id
    have:=h2 k1
    by_cases e2:E k 2=(t:Int)
    ·exact absurd (hs.one k r hk hr k1 r1 (by omega)) e
    ·omega

def Cr.mid (E F:Nat→Nat→Int):Nat→Nat→Int:=fun k=>if F k 0=0 then Cr.kingsTo E 32 k else F k

theorem Cr.mid_bare (E:Nat→Nat→Int):Cr.mid E (Cr.bare E)=Cr.kingsTo E 32:=by
 funext k
 exact if_pos rfl

theorem Cr.kings_hero {E:Nat→Nat→Int} {k:Nat} (hk:k<32) (t:Int):En.heroQ (Cr.kingsTo E 32) t k=En.heroQ E t k:=by
 unfold En.heroQ Cr.kingsTo
 by_cases c:E k 0≠0∧E k 0≠1
 ·rw [if_pos ⟨hk,c⟩]
  simp [En.hole,c.2]
 ·rw [if_neg (fun h=>c h.2)]

theorem Cr.mid_hero {E F:Nat→Nat→Int} {t:Nat} (hl:Cr.Landed E F t):Gd.hero (Cr.mid E F) (t:Int)=Gd.hero E (t:Int):=by
 unfold Gd.hero
 refine En.first_congr fun k hk=>?_
 by_cases h0:F k 0=0
 ·have e:Cr.mid E F k=Cr.kingsTo E 32 k:=if_pos h0
  rw [←Cr.kings_hero (E:=E) hk]
  unfold En.heroQ
  rw [e]
 ·have e:Cr.mid E F k=F k:=if_neg h0
  obtain ⟨j,hj,h1,h2⟩:=hl k hk h0
  obtain ⟨r,_,hr,r2,_⟩:=Gd.hero_pos (E:=E) (seat:=(j:Int)) (by omega)
  obtain rfl:r=k:=by omega
  unfold En.heroQ
  rw [e,h2,r2]
  have:¬(j:Int)=(t:Int):=by omega
  simp [this]

theorem Cr.mid_at {E F:Nat→Nat→Int} {t k:Nat} (hl:Cr.Landed E F t) (hk:k<32) (k1:E k 0=1) (k2:E k 2=(t:Int)):F k 0=0∧Cr.mid E F k=E k:=by
 have h0:F k 0=0:=by
  by_cases h0:F k 0=0
  ·exact h0
  ·obtain ⟨j,hj,h1,h2⟩:=hl k hk h0
   obtain ⟨r,_,hr,r2,_⟩:=Gd.hero_pos (E:=E) (seat:=(j:Int)) (by omega)
   obtain rfl:r=k:=by omega
   omega
 refine ⟨h0,(if_pos h0).trans ?_⟩
 unfold Cr.kingsTo
 rw [if_neg (fun h=>h.2.2 k1)]

theorem Cr.mid_put {E F:Nat→Nat→Int} {k:Nat} {e:Nat→Int} (h:e 0≠0):En.put (Cr.mid E F) k e=Cr.mid E (En.put F k e):=by
 funext i
 unfold Cr.mid
 by_cases x:i=k
 ·rw [x,En.put_same,En.put_same,if_neg h]
 ·rw [En.put_other x,En.put_other x]

theorem Cr.mid_end {c c0:Nat→Int} {E F I:Nat→Nat→Int} (ho:Cr.Sane c0 E I) (hL:Cr.LandTo c E 4 (Cr.bare E) F):∀i j,i<32→j<11→Cr.mid E F i j=F i j:=fun i j hi hj=>by
 unfold Cr.mid
 split
 ·rename_i h0
  rcases Cr.land_inv ho.seats hL i hi with ⟨hb,h4⟩ | ⟨h1,_⟩
  ·rw [hb]
   unfold Cr.kingsTo Cr.bare
   by_cases c:E i 0≠0∧E i 0≠1
   ·rw [if_pos ⟨hi,c⟩]
   ·rw [if_neg (fun h=>c h.2)]
    have e0:E i 0=0:=by
     by_cases e1:E i 0=1
     ·have h1:=h4 e1
      have h2:=(ho.seats.seat i hi e1).2
      omega
     ·by_cases e0:E i 0=0
      ·exact e0
      ·exact absurd ⟨e0,e1⟩ c
    unfold En.hole
    by_cases e:j=1
    ·rw [if_pos e,e]
    ·rw [if_neg e]
     rcases (ho.fit.rows i hi).2.2 with hz | ht
     ·exact hz j hj e
     ·omega
  ·omega
 ·rfl

def Cr.Both (Th:Nat→Nat→Int) (n:Nat) (F:Nat→Nat→Int):Prop:=(∀i,i<n→Th i 0≠0∧∃k,k<32∧F k=Th i)∧∀k,k<32→F k 0≠0→∃i,i<n∧Th i=F k

theorem Cr.Both.st {Th F:Nat→Nat→Int} {n:Nat} (h:Cr.Both Th n F) (q:Nat):Nv.st Th n q=Nv.st F 32 q:=by
 unfold Nv.st
 rcases En.first_cases (En.atQ Th ((q % 24:Nat):Int) ((q / 24:Nat):Int)) n with ⟨h1,hno⟩ | ⟨i,hi,h1,hq,_⟩
 ·rcases En.first_cases (En.atQ F ((q % 24:Nat):Int) ((q / 24:Nat):Int)) 32 with ⟨h2,_⟩ | ⟨k,hk,h2,hq,_⟩
  ·rw [h1,h2]
  ·exfalso
   have hq':F k 0≠0∧F k 3=((q % 24:Nat):Int)∧F k 4=((q / 24:Nat):Int):=by simpa [En.atQ] using hq
   obtain ⟨i,hi,e⟩:=h.2 k hk hq'.1
   have:=hno i hi
   rw [←e] at hq'
   simp only [En.atQ,Bool.and_eq_false_iff,Bool.not_eq_eq_eq_not,Bool.not_false,decide_eq_true_eq,decide_eq_false_iff_not] at this
   rcases this with a | a | a
   ·exact hq'.1 a
   ·exact a hq'.2.1
   ·exact a hq'.2.2
 ·rcases En.first_cases (En.atQ F ((q % 24:Nat):Int) ((q / 24:Nat):Int)) 32 with ⟨h2,hno⟩ | ⟨k,_,h2,_⟩
  ·exfalso
   have hq':Th i 0≠0∧Th i 3=((q % 24:Nat):Int)∧Th i 4=((q / 24:Nat):Int):=by simpa [En.atQ] using hq
   obtain ⟨_,k,hk,e⟩:=h.1 i hi
   have:=hno k hk
   rw [←e] at hq'
   simp only [En.atQ,Bool.and_eq_false_iff,Bool.not_eq_eq_eq_not,Bool.not_false,decide_eq_true_eq,decide_eq_false_iff_not] at this
   rcases this with a | a | a
   ·exact hq'.1 a
   ·exact a hq'.2.1
   ·exact a hq'.2.2
  ·rw [h1,h2]
   refine (decide_eq_true (by omega)).trans (decide_eq_true (by omega)).symm

theorem Cr.best_st {F:Nat→Int} {st st':Nat→Bool} (h:∀q,st q=st' q):∀k,Nv.best F st k=Nv.best F st' k:=fun k=>by
 rw [show st=st' from funext h]

theorem Cr.Both.spot {Th F:Nat→Nat→Int} {n:Nat} (h:Cr.Both Th n F) {c:Nat→Int} {x y v:Int} (hv:Nv.IsSpot c Th n x y v):Nv.IsSpot c F 32 x y v:=by
 obtain ⟨G,hG,rfl⟩:=hv
 exact ⟨G,hG,Cr.best_st h.st 384⟩

theorem Cr.Both.put {Th F:Nat→Nat→Int} {n k:Nat} (h:Cr.Both Th n F) (hk:k<32) (k0:F k 0=0) {e:Nat→Int} (he:e 0≠0):Cr.Both (En.put Th n e) (n+1) (En.put F k e):=by
 refine ⟨fun i hi=>?_,fun j hj j0=>?_⟩
 ·by_cases x:i=n
  ·rw [x,En.put_same]
   exact ⟨he,k,hk,En.put_same _ _ _⟩
  ·rw [En.put_other x]
   obtain ⟨i0,j,hj,e'⟩:=h.1 i (by omega)
   have:j≠k:=fun x=>by rw [x] at e';rw [e'] at k0;exact i0 k0
   exact ⟨i0,j,hj,by rw [En.put_other this];exact e'⟩
 ·by_cases x:j=k
  ·exact ⟨n,by omega,by rw [x,En.put_same,En.put_same]⟩
  ·rw [En.put_other x] at j0 ⊢
   obtain ⟨i,hi,e'⟩:=h.2 j hj j0
   exact ⟨i,by omega,by rw [En.put_other (by omega)];exact e'⟩


open Go.RowKit

set_option maxRecDepth 8000 in
set_option maxHeartbeats 3200000 in
theorem cOnlyCarried_any (gI cI:Nat) (I:Nat→Nat→Int) (w:World) (hI:Lie w gI 62 160 (Gd.flat I)) :
  Calls Tryz.prog 58 #[.slice (some ⟨gI,0,none⟩) 40 cI] w (Gd.Gives40 w (Cr.kept I)):=by
 have ct:=hide (crawlTwinItems_any gI 40 160 cI (Gd.flat I) w (by omega) (by omega) (fun _=>rfl) (fun c hc=>hI.cell hc) hI.lt)
 have hk0:Hid (Cr.keptTo I 0=I):=Cr.keptTo_zero I
 have hke:Hid (∀i,i<40→Cr.keptTo I 40 i=Cr.kept I i):=fun i hi=>if_pos hi
 clear hI
 go_enter Tryz.func58,Tryz.ntmps58
 go_wp2_with fail
 refine (uh ct).mono ?_
 rintro e w1 ⟨j,rfl,hlo,hA,hg1⟩
 have hH:Hid (Lie w1 j 62 160 (Gd.flat (Cr.keptTo I 0))):=by
  show Lie w1 j 62 160 (Gd.flat (Cr.keptTo I 0))
  rw [uh hk0]
  exact hA.lie
 have hG1:=hide hg1
 have hlo':=hide hlo
 clear hA hg1 hlo ct hk0
 go_wp2_with fail
 go_loopw [10] (fun v10 wr=>∃i:Nat,i≤40∧v10=.int .i64 (i:Int)∧Hid (Lie wr j 62 160 (Gd.flat (Cr.keptTo I i)))∧Hid (w.grownBy wr none)) (fun v10 _=>50 - (intOf v10).toNat)
 case atStart=>exact ⟨0,by omega,rfl,hH,hG1⟩
 case round =>
  clear hH hG1
  obtain ⟨i,hi,rfl,hH,hg⟩:=hrel
  by_cases hlt:i<40
  ·have hlt':(i:Int)<40:=by omega
   have HL:=hide hlt
   have hrow:=((uh hH).its (n:=40) (by omega) (by omega)).row hlt
   rw [Cr.keptTo_at] at hrow
   obtain ⟨u0,u1,u2,u3⟩:=hrow
   obtain ⟨w0,hw0⟩:∃w0,w0=wr.alloc (.cells #[.int .i64 (I i 0),.int .i64 (I i 1),.int .i64 (I i 2),.int .i64 (I i 3)] 62):=⟨_,rfl⟩
   have hg0:wr.grownBy w0 none:=by rw [hw0];exact World.grownBy_alloc _ _ _
   have q1:w0.cell? ⟨wr.heap.size,1,none⟩=some (.int .i64 (I i 1)):=by
    rw [hw0]
    exact (Arr.lit (heap_alloc_new wr _)).cell (i:=1) (by show 1<4;omega)
   have hH0:=hide ((uh hH).on hg0)
   have hg2:=hide (gtr (uh hg) hg0)
   have hgo:=hide (Cr.keptTo_go (I:=I) (n:=i))
   have hst:=hide (Cr.keptTo_stay (I:=I) (n:=i))
   clear hlt hi hg0 hH hg
   go_upto_region 5 with fail
   rw [←hw0]
   clear hw0 u0 u1 u2 u3
   obtain ⟨B,hB⟩:∃B,wr.heap.size=B:=⟨_,rfl⟩
   rw [hB] at q1 ⊢
   clear hB
   obtain ⟨x,hx⟩:∃x,I i 1=x:=⟨_,rfl⟩
   rw [hx] at q1 hgo hst
   clear hx
   have fJ:=(uh hH0).free
   have hH1:=hide (fun he=>(show Lie (w0.setCells j (i*4) (Gd.cells (fun _=>0)).toList) j 62 160 (Gd.flat (Cr.keptTo I (i+1))) by rw [←uh hgo he];exact (uh hH0).item i (fun _=>0)))
   have hg3:=hide (fun vs=>own_sets (uh hlo') vs (i*4) w0 (uh hg2))
   have hrow:=((uh hH0).its (n:=40) (by omega) (by omega)).row (uh HL)
   obtain ⟨u0,u1,u2,u3⟩:=hrow
   by_cases h1:x=1
   ·subst h1
    have hf:=hide (uh hH1 (.inl rfl))
    clear hH1 hst hgo
    go_wp2
    go_roundw
    case rel=>exact ⟨i+1,by have:=uh HL;omega,by go_num,uh hf,uh hg3 [_,_,_,_]⟩
    case measure=>simp [intOf];have:=uh HL;omega
   ·have b1:(x == 1)=false:=by simpa using h1
    by_cases h4:x=4
    ·subst h4
     have hf:=hide (uh hH1 (.inr rfl))
     clear hH1 hst hgo h1 b1
     go_wp2
     go_roundw
     case rel=>exact ⟨i+1,by have:=uh HL;omega,by go_num,uh hf,uh hg3 [_,_,_,_]⟩
     case measure=>simp [intOf];have:=uh HL;omega
    ·have b4:(x == 4)=false:=by simpa using h4
     have hf:Hid (Lie w0 j 62 160 (Gd.flat (Cr.keptTo I (i+1)))):=by
      show Lie w0 j 62 160 (Gd.flat (Cr.keptTo I (i+1)))
      rw [←uh hst (by omega)]
      exact uh hH0
     clear hH1 hst hgo h1 h4 hg3
     go_wp2
     go_roundw
     case rel=>exact ⟨i+1,by have:=uh HL;omega,by go_num,hf,hg2⟩
     case measure=>simp [intOf];have:=uh HL;omega
  ·obtain rfl:i=40:=by omega
   have hge:¬((40:Nat):Int)<40:=by omega
   have hfin:Hid (Gd.Gives40 w (Cr.kept I) (.returned (.slice (some ⟨j,0,none⟩) 40 40)) wr):=⟨j,40,rfl,uh hlo',(uh hH).congr fun q hq=>by unfold Gd.flat;rw [uh hke (q / 4) (by omega)],uh hg⟩
   clear hlt hi
   go_wp2
   go_ret
   exact uh hfin

theorem Cr.list_more (Th:Nat→Nat→Int) (n:Nat) (e:Nat→Int):En.list (n+1) (En.put Th n e)=En.list n Th ++ [.int .i64 (e 0),.int .i64 (e 1),.int .i64 (e 2),.int .i64 (e 3),.int .i64 (e 4),.int .i64 (e 5),.int .i64 (e 6),.int .i64 (e 7),.int .i64 (e 8),.int .i64 (e 9),.int .i64 (e 10)]:=by
 apply List.ext_getElem?
 intro i
 by_cases h1:i<n*11
 ·rw [En.list_at (by omega),List.getElem?_append_left (by rw [En.list_len];exact h1),En.list_at h1]
  unfold En.flat
  rw [En.put_other (by omega)]
 ·rw [List.getElem?_append_right (by rw [En.list_len];omega),En.list_len]
  by_cases h2:i<(n+1)*11
  ·rw [En.list_at h2]
   obtain ⟨j,rfl⟩:∃j,i=n*11+j:=⟨i - n*11,by omega⟩
   have e1:(n*11+j) / 11=n:=by omega
   have e2:(n*11+j) % 11=j:=by omega
   unfold En.flat
   rw [e1,e2,En.put_same,show n*11+j - n*11=j by omega]
   rcases (show j=0∨j=1∨j=2∨j=3∨j=4∨j=5∨j=6∨j=7∨j=8∨j=9∨j=10 by omega) with rfl | rfl | rfl | rfl | rfl | rfl | rfl | rfl | rfl | rfl | rfl <;> rfl
  ·rw [List.getElem?_eq_none (by rw [En.list_len];omega),List.getElem?_eq_none (by show 11≤_;omega)]

def Cr.There (x:World) (lo:Nat) (v:Value) (n:Nat) (Th:Nat→Nat→Int):Prop:=x.ownsRow lo 54 11 v n (En.list n Th)

theorem Cr.There.form {x:World} {lo n:Nat} {v:Value} {Th:Nat→Nat→Int} (h:Cr.There x lo v n Th) (hn:n≤32):∃a k,v=.slice a n k∧Nv.Lst x a n k Th:=by
 have h0:=h
 rcases h.2 with ⟨h1,h2⟩ | ⟨g,cap,cur,h1,_,_,hnc,_⟩
 ·exact ⟨none,0,by rw [h1,h2],by omega,by omega,.inl h2⟩
 ·subst h1
  exact ⟨_,cap,rfl,hn,hnc,.inr ⟨g,rfl,(Own.of_owns h0 hn (fun c hc=>En.list_at hc)).ents⟩⟩

theorem Cr.There.low {x:World} {lo n:Nat} {v:Value} {Th:Nat→Nat→Int} (h:Cr.There x lo v n Th) {m:Nat} (hm:v.ownBlock=some m):lo≤m:=by
 rcases h.2 with ⟨h1,_⟩ | ⟨g,cap,cur,h1,hb,_⟩
 ·rw [h1] at hm;simp [Value.ownBlock] at hm
 ·rw [h1] at hm
  simp [Value.ownBlock] at hm
  omega

structure Cr.Gath (w x:World) (lo J t n:Nat) (v:Value) (c:Nat→Int) (E F Th:Nat→Nat→Int):Prop where
 own:Own x J 32 (Cr.mid E F)
 there:Cr.There x lo v n Th
 both:Cr.Both Th n F
 words:Nv.Words n Th
 land:Cr.LandTo c E t (Cr.bare E) F
 nt:n≤t
 lw:w.heap.size≤J
 lJ:J<lo
 lx:lo≤x.heap.size
 grown:w.grownBy x none

theorem Cr.Gath.on {w x y:World} {lo J t n:Nat} {v:Value} {c:Nat→Int} {E F Th:Nat→Nat→Int} (h:Cr.Gath w x lo J t n v c E F Th) (hg:x.grownBy y none):Cr.Gath w y lo J t n v c E F Th :=
 { h with own:=h.own.on hg,there:=Cr.Same.owns (lo:=lo) (x:=x) (y:=y) ⟨hg.size,fun k _ hk=>hg.block k hk (by simp)⟩ h.there,lx:=Nat.le_trans h.lx hg.size,grown:=gtr h.grown hg }

theorem Cr.Gath.skip {w x:World} {lo J t n:Nat} {v:Value} {c:Nat→Int} {E F Th:Nat→Nat→Int} (h:Cr.Gath w x lo J t n v c E F Th) (hn:Gd.hero E (t:Int)<0):Cr.Gath w x lo J (t+1) n v c E F Th :=
 { h with land:=⟨F,h.land,(show Cr.Lands c E (t:Int) F F by unfold Cr.Lands;rw [if_pos hn])⟩,nt:=by have:=h.nt;omega }

theorem Cr.Gath.put {w x:World} {lo J t n k:Nat} {v:Value} {c:Nat→Int} {E F Th:Nat→Nat→Int} (h:Cr.Gath w x lo J t n v c E F Th) (e:Nat→Int) (he:e 0≠0):Own (x.setCells J (k*11) (En.cells e).toList) J 32 (Cr.mid E (En.put F k e))∧Cr.There (x.setCells J (k*11) (En.cells e).toList) lo v n Th∧w.grownBy (x.setCells J (k*11) (En.cells e).toList) none∧lo≤(x.setCells J (k*11) (En.cells e).toList).heap.size:=by
 have hs:Cr.Same lo x (x.setCells J (k*11) (En.cells e).toList):=Cr.Same.sets (.inl h.lJ) _ _ ⟨Nat.le_refl _,fun _ _ _=>rfl⟩
 refine ⟨?_,hs.owns h.there,own_sets h.lw _ _ x h.grown,Nat.le_trans h.lx hs.1⟩
 rw [←Cr.mid_put he]
 exact h.own.store k e

def Cr.Gathers (w:World) (c:Nat→Int) (E:Nat→Nat→Int) (e:Ending) (w':World):Prop :=
 ∃(J:Nat) (F:Nat→Nat→Int),e=.returned (.slice (some ⟨J,0,none⟩) 32 32)∧w.heap.size≤J∧Own w' J 32 F∧Cr.LandTo c E 4 (Cr.bare E) F∧w.grownBy w' none


open Go.RowKit

set_option maxRecDepth 8000 in
set_option maxHeartbeats 12800000 in
theorem cGathered_any (gC cC gE cE:Nat) (c c0:Nat→Int) (E I:Nat→Nat→Int) (w:World) (hC:Lie w gC 5 384 (Byts c)) (hcC:384≤cC) (hE:Own w gE 32 (Cr.kingsTo E 32)) (ho:Cr.Sane c0 E I) (hF:Nv.Floor c) (h4:Cr.Four c) :
  Calls Tryz.prog 55 #[.slice (some ⟨gC,0,none⟩) 384 cC,.slice (some ⟨gE,0,none⟩) 32 cE] w (Cr.Gathers w c E):=by
 have ct:=hide (crawlTwinEnts_any gE 32 352 cE (En.flat (Cr.kingsTo E 32)) w (by omega) (by omega) (fun _=>rfl) (fun j hj=>hE.ents.flat (by omega)) hE.lt)
 have hc8:∀i,0≤c i∧c i≤255:=fun i=>⟨(hF.five i).1,by have:=(hF.five i).2;omega⟩
 have hbs:Cr.Sane c (Cr.bare E) (fun _ _=>0):=Cr.bare_sane hc8 (Md.ok_none c) ho.good.gens
 have hld:Hid (∀t F,t≤4→Cr.LandTo c E t (Cr.bare E) F→Cr.Landed E F t):=fun t F ht h=>(Cr.landing ho hF h4 ht hbs (fun k _ k0=>absurd rfl k0) h).2
 have hsan:Hid (∀t F,t≤4→Cr.LandTo c E t (Cr.bare E) F→Cr.Sane c F (fun _ _=>0)):=fun t F ht h=>(Cr.landing ho hF h4 ht hbs (fun k _ k0=>absurd rfl k0) h).1
 have hmb:Hid (Cr.kingsTo E 32=Cr.mid E (Cr.bare E)):=(Cr.mid_bare E).symm
 have hC':=hide hC
 have hcC':=hide hcC
 have hF':=hide hF
 have h4':=hide h4
 have hend:Hid (∀F x J,Cr.LandTo c E 4 (Cr.bare E) F→Own x J 32 (Cr.mid E F)→Own x J 32 F):=fun F x J hL hO=>hO.congr (Cr.mid_end ho hL)
 clear hC hcC hE ho hF h4 hc8 hbs
 go_enter Tryz.func55,Tryz.ntmps55
 go_wp2_with fail
 refine (uh ct).mono ?_
 rintro e w1 ⟨J,rfl,hlo,hA,hg1⟩
 have hK0:Hid (Cr.Gath w w1 w1.heap.size J 0 0 (.slice none 0 0) c E (Cr.bare E) (fun _ _=>0)):=by
  refine ⟨?_,⟨rfl,.inl ⟨rfl,rfl⟩⟩,⟨fun i hi=>by omega,fun k _ k0=>absurd rfl k0⟩,fun i hi=>by omega,rfl,by omega,hlo,hA.lt,Nat.le_refl _,hg1⟩
  rw [←uh hmb]
  exact (hA.lie).own (by omega) (by omega)
 clear hlo hA hg1 ct hmb
 generalize w1.heap.size=lo at hK0
 go_wp2_with fail
 go_loopw [6,12] (fun v6 v12 wr=>∃(t n:Nat) (F Th:Nat→Nat→Int),t≤4∧v12=.int .i64 (t:Int)∧Hid (Cr.Gath w wr lo J t n v6 c E F Th)) (fun _ v12 _=>10 - (intOf v12).toNat)
 case atStart=>exact ⟨0,0,Cr.bare E,fun _ _=>0,by omega,rfl,hK0⟩
 case round =>
  clear hK0
  obtain ⟨t,n,F,Th,ht,rfl,hK⟩:=hrel
  by_cases hlt:t<4
  ·have hlt':(t:Int)<4:=by omega
   have HL:=hide hlt
   have hl:=hide (uh hld t F ht (uh hK).land)
   have ch:=hero_any J 32 32 (Cr.mid E F) (t:Int) wr (uh hK).own.ents (Nat.le_refl _)
   change Calls _ _ _ _ (Says wr (.int .i64 (Gd.hero (Cr.mid E F) (t:Int)))) at ch
   rw [Cr.mid_hero (uh hl)] at ch
   have hp:=hide (@Gd.hero_pos E (t:Int))
   obtain ⟨z,hz⟩:∃z,Gd.hero E (t:Int)=z:=⟨_,rfl⟩
   rw [hz] at ch hp
   have ch':=hide ch
   have hz':=hide hz
   clear hlt ht ch hz
   go_wp2_with fail
   refine (uh ch').mono ?_
   rintro e w2 ⟨rfl,hg2⟩
   have hK2:=hide ((uh hK).on hg2)
   clear hg2 ch' hK
   by_cases h0:z<0
   ·have hK3:=hide ((uh hK2).skip (by rw [uh hz'];exact h0))
    clear hp hK2
    go_wp2
    go_roundw
    case rel=>exact ⟨t+1,n,F,Th,by have:=uh HL;omega,by go_num,hK3⟩
    case measure=>simp [intOf];have:=uh HL;omega
   ·obtain ⟨k,hk,rfl,k2,k1⟩:=uh hp (by omega)
    have HK:=hide hk
    have hk':(k:Int)<32:=by omega
    have hnt:=(uh hK2).nt
    have hm:=hide (Cr.mid_at (uh hl) hk k1 k2)
    obtain ⟨a,kk,hv6,hlst⟩:=(uh hK2).there.form (by omega)
    subst hv6
    have ca:=hide (cArrival_any (some ⟨gC,0,none⟩) a cC n kk c Th w2 ⟨by unfold maxLen;omega,.inr ⟨gC,0,rfl,((uh hC').on (uh hK2).grown).lt,fun i hi=>by rw [Nat.zero_add];exact ((uh hC').on (uh hK2).grown).cell hi⟩⟩ (uh hF') (uh hcC') hlst (uh hK2).words)
    have hroom:=hide (Cr.landed_room (uh h4') (by have:=uh HL;omega) (uh hl))
    have hlands:Hid (∀q:Nat,Nv.IsSpot c F 32 (Gr.find 384 c 3 % 24) (Gr.find 384 c 3 / 24) (q:Int)→Cr.LandTo c E (t+1) (Cr.bare E) (En.put F k (En.upd (En.upd (E k) 3 ((q:Int) % 24)) 4 ((q:Int) / 24)))):=fun q h1=>⟨F,(uh hK2).land,(show Cr.Lands c E (t:Int) F _ by unfold Cr.Lands;rw [uh hz',if_neg h0,Int.toNat_natCast];exact ⟨(q:Int),h1,by rw [if_neg (by omega)]⟩)⟩
    have k1':=hide k1
    clear h0 hp hk k1 k2 hlst hnt
    go_wp2_with fail
    refine (uh ca).mono ?_
    rintro e w3 ⟨v,hv,rfl,hg3⟩
    have hsp:=(uh hK2).both.spot hv
    have hK3:=hide ((uh hK2).on hg3)
    have hv0:0≤v:=by
     obtain ⟨q,hq,hcq,hst⟩:=uh hroom
     exact Cr.spot_some (uh hF') hq hcq hst hsp
    obtain ⟨q,rfl⟩:∃q:Nat,v=(q:Int):=⟨v.toNat,by omega⟩
    have hq:=(Cr.spot_room hsp).1
    have hge:(q:Int)≥0:=by omega
    have hT:=hide (uh hlands q hsp)
    have cp:=hide (fun z=>cPlaced_any (E k) q hq z)
    obtain ⟨p,hpe⟩:∃p,En.upd (En.upd (E k) 3 ((q:Int) % 24)) 4 ((q:Int) / 24)=p:=⟨_,rfl⟩
    have hp0:Hid (p 0≠0):=(show p 0≠0 by rw [←hpe,En.upd_other (by omega),En.upd_other (by omega),uh k1'];omega)
    have hp34:Hid (p 3=(q:Int) % 24∧p 4=(q:Int) / 24):=(show p 3=(q:Int) % 24∧p 4=(q:Int) / 24 by rw [←hpe];exact ⟨by rw [En.upd_other (by omega),En.upd_same],by rw [En.upd_same]⟩)
    have hq':=hide hq
    rw [hpe] at cp hT
    obtain ⟨r0,r1,r2,r3,r4,r5,r6,r7,r8,r9,r10⟩:=(uh hK3).own.ents.row (uh HK)
    rw [(uh hm).2] at r0 r1 r2 r3 r4 r5 r6 r7 r8 r9 r10
    unfold En.cells at cp
    clear hv hg3 ca hroom hlands hsp hv0 hq hpe hK2
    go_wp2_with fail
    refine (uh cp _).mono ?_
    rintro e w4 ⟨rfl,hg4⟩
    have hK4:=hide ((uh hK3).on hg4)
    have hput:=hide ((uh hK4).put (k:=k) p (uh hp0))
    have fJ:=(uh hK4).own.free
    have hb2:=hide ((uh hK4).both.put (uh HK) (uh hm).1 (uh hp0))
    have hw2:Hid (Nv.Words (n+1) (En.put Th n p)):=fun i hi=>by
     by_cases x:i=n
     ·rw [x,En.put_same,(uh hp34).1,(uh hp34).2]
      have:=uh hq'
      omega
     ·rw [En.put_other x]
      exact (uh hK4).words i (by omega)
    obtain ⟨u0,u1,u2,u3,u4,u5,u6,u7,u8,u9,u10⟩:=(uh hK4).own.ents.row (uh HK)
    clear hg4 cp r0 r1 r2 r3 r4 r5 r6 r7 r8 r9 r10 hK3
    unfold En.cells at hput
    go_upto_region 11 with fail
    have hst:Hid (∃w5,w5=((((((((((w4.setCell ⟨J,k*11,none⟩ (.int .i64 (p 0))).setCell ⟨J,k*11+1,none⟩ (.int .i64 (p 1))).setCell ⟨J,k*11+2,none⟩ (.int .i64 (p 2))).setCell ⟨J,k*11+3,none⟩ (.int .i64 (p 3))).setCell ⟨J,k*11+4,none⟩ (.int .i64 (p 4))).setCell ⟨J,k*11+5,none⟩ (.int .i64 (p 5))).setCell ⟨J,k*11+6,none⟩ (.int .i64 (p 6))).setCell ⟨J,k*11+7,none⟩ (.int .i64 (p 7))).setCell ⟨J,k*11+8,none⟩ (.int .i64 (p 8))).setCell ⟨J,k*11+9,none⟩ (.int .i64 (p 9))).setCell ⟨J,k*11+10,none⟩ (.int .i64 (p 10))∧Own w5 J 32 (Cr.mid E (En.put F k p))∧Cr.There w5 lo (.slice a n kk) n Th∧w.grownBy w5 none∧lo≤w5.heap.size):=⟨_,rfl,(uh hput).1,(uh hput).2.1,(uh hput).2.2.1,(uh hput).2.2.2⟩
    obtain ⟨w5,hw5,hO5,hT5,hg5,hlo5⟩:=uh hst
    rw [←hw5]
    have hO5':=hide hO5
    have hT5':=hide hT5
    have hg5':=hide hg5
    have hlo5':=hide hlo5
    obtain ⟨r0,r1,r2,r3,r4,r5,r6,r7,r8,r9,r10⟩:=hO5.ents.row (uh HK)
    rw [(show Cr.mid E (En.put F k p) k=p by unfold Cr.mid;rw [En.put_same,if_neg (uh hp0)])] at r0 r1 r2 r3 r4 r5 r6 r7 r8 r9 r10
    clear hw5 hO5 hT5 hg5 hlo5 hst hput u0 u1 u2 u3 u4 u5 u6 u7 u8 u9 u10 fJ
    obtain ⟨i0,hi,hz0,hz1,hz2⟩:=info_parts info_ent
    have hn32:n≤32:=by have:=(uh hK4).nt;have:=uh HL;omega
    go_wp2_with (at_builtin;refine wpList_append_own _ rfl _ _ 26 rfl lo 54 i0 (.agg #[.int .i64 0,.int .i64 0,.int .i64 0,.int .i64 0,.int .i64 0,.int .i64 0,.int .i64 0,.int .i64 0,.int .i64 0,.int .i64 0,.int .i64 0]) 11 88 Tryz.underlying26 hi hz0 hz1 hz2 rfl (by decide) _ _ _ rfl ((uh hT5').alloc _) ⟨w5.heap.size,0,none⟩ 1 1 [.int .i64 (p 0),.int .i64 (p 1),.int .i64 (p 2),.int .i64 (p 3),.int .i64 (p 4),.int .i64 (p 5),.int .i64 (p 6),.int .i64 (p 7),.int .i64 (p 8),.int .i64 (p 9),.int .i64 (p 10)] rfl rfl ?_ ?_ ?_ ?_ ?_ ?_)
    ·exact ent_news _ _ rfl _ _ _ _ _ _ _ _ _ _ _ _
    ·intro u hu
     simp only [List.mem_cons,List.not_mem_nil,or_false] at hu
     rcases hu with rfl | rfl | rfl | rfl | rfl | rfl | rfl | rfl | rfl | rfl | rfl <;> rfl
    ·unfold maxLen;omega
    ·omega
    ·have:=uh hlo5';simp;omega
    intro v6 w6 hown6 hgrow6 _
    rw [←Cr.list_more] at hown6
    have hga:=World.grownBy_alloc w5 (.cells #[.int .i64 (p 0),.int .i64 (p 1),.int .i64 (p 2),.int .i64 (p 3),.int .i64 (p 4),.int .i64 (p 5),.int .i64 (p 6),.int .i64 (p 7),.int .i64 (p 8),.int .i64 (p 9),.int .i64 (p 10)] 54) none
    have hK6:Hid (Cr.Gath w w6 lo J (t+1) (n+1) v6 c E (En.put F k p) (En.put Th n p)):=by
     have q1:=(uh hK4).lw
     have q2:=(uh hK4).lJ
     have q3:=(uh hK4).nt
     have hob:∀m,Value.ownBlock (.slice a n kk)=some m→lo≤m:=fun m hm=>(uh hT5').low hm
     refine ⟨?_,hown6,uh hb2,uh hw2,uh hT,by omega,q1,q2,?_,?_⟩
     ·have hl:=((uh hO5').lie (m:=352) (by omega)).on hga
      exact (hl.grown hgrow6 (fun e=>by have:=hob J e;omega)).own (by omega) (by omega)
     ·have:=uh hlo5'
      have:=hga.size
      have:=hgrow6.size
      omega
     ·exact gow (gtr (uh hg5') hga) hgrow6 (fun m hm=>by have:=hob m hm;omega)
    clear hown6 hgrow6 hga hi hz0 hz1 hz2 r0 r1 r2 r3 r4 r5 r6 r7 r8 r9 r10 hO5' hT5' hg5' hlo5' hb2 hw2 hT hK4
    go_wp2
    go_roundw
    case rel=>exact ⟨t+1,n+1,En.put F k p,En.put Th n p,by have:=uh HL;omega,by go_num,hK6⟩
    case measure=>simp [intOf];have:=uh HL;omega
  ·obtain rfl:t=4:=by omega
   have hge:¬((4:Nat):Int)<4:=by omega
   have hfin:Hid (Cr.Gathers w c E (.returned (.slice (some ⟨J,0,none⟩) 32 32)) wr):=⟨J,F,rfl,(uh hK).lw,uh hend F wr J (uh hK).land (uh hK).own,(uh hK).land,(uh hK).grown⟩
   clear hlt ht
   go_wp2
   go_ret
   exact uh hfin

end Go.Proofs.YtbanjoflgoiegaaGreat
