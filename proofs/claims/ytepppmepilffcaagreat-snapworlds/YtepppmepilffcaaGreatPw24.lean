import Derived.Test.YtepppmepilffcaaGreatPw16
namespace Go.Proofs.YtepppmepilffcaaGreat
open Go.RowKit

set_option maxRecDepth 8000 in
set_option maxHeartbeats 3200000 in
theorem refSpot_any (ca:Option Addr) (cc b n c:Nat) (f:Nat→Int) (E:Nat→Nat→Int) (x y:Int) (w:World)
  (hc:Vec w.heap.size w ca 384 (Byts f)) (hf:∀i,0≤f i∧f i≤255) (hE:Ents w b n E) :
  Calls Tryz.prog 79 #[.slice ca 384 cc,.slice (some ⟨b,0,none⟩) n c,.int .i64 x,.int .i64 y] w (Nv.SaysSpot w f E n x y):=by
 have hc':=hide hc
 have hf':=hide hf
 have hE':=hide hE
 clear hc hf hE
 by_cases hin:Gr.inB x y=true
 case neg =>
  rw [Bool.not_eq_true] at hin
  have he:=hide (Nv.spot_out (f:=f) (E:=E) (n:=n) (show Nv.num x y=-1 from if_neg (by rw [hin];simp)))
  have cI:=hide (fun wq=>refIn_any x y wq)
  rw [hin] at cI
  clear hin
  go_enter Tryz.func79,Tryz.ntmps79
  go_wp2_with fail
  refine (uh cI _).mono ?_
  rintro e w1 ⟨rfl,rfl⟩
  go_wp2
  go_ret
  exact ⟨_,uh he,rfl,World.grownBy.refl _ _⟩
 obtain ⟨b1,b2,b3,b4⟩:=(Gr.inB_iff _ _).1 hin
 obtain ⟨X,rfl⟩:∃X:Nat,x=(X:Int):=⟨x.toNat,by omega⟩
 obtain ⟨Y,rfl⟩:∃Y:Nat,y=(Y:Int):=⟨y.toNat,by omega⟩
 have hX:X<24:=by omega
 have hY:Y<16:=by omega
 have hme:Nv.num (X:Int) (Y:Int)=(Y:Int)*24+X:=by unfold Nv.num;rw [if_pos hin]
 have hs0:Hid (∀F,Gr.IsField (fun i=>Gr.openB f 0 (fun _=>false) i=true) (Gr.tgt f (fun _=>(Y:Int)*24+X) 1) F→Nv.IsSpot f E n X Y (Nv.best F (Nv.st E n) 384)):=fun F h=>⟨F,by rw [hme];exact h,rfl⟩
 have cI:=hide (fun wq=>refIn_any (X:Int) (Y:Int) wq)
 rw [hin] at cI
 clear hin b1 b2 b3 b4 hme
 go_enter Tryz.func79,Tryz.ntmps79
 go_wp2_with fail
 refine (uh cI _).mono ?_
 rintro e w1 ⟨rfl,rfl⟩
 go_wp2_with fail
 obtain ⟨w3,hw3⟩:∃w3,w3=w1.alloc (.cells #[.int .i64 ((Y:Int)*24+X)] 3):=⟨_,rfl⟩
 have hB3:Below w1.heap.size w1 w3:=by rw [hw3];exact (Below.refl _ _).alloc (Nat.le_refl _) _
 have hV:Vec w3.heap.size w3 (some ⟨w1.heap.size,0,none⟩) 1 (Ints fun _=>(Y:Int)*24+X):=by rw [hw3];exact Nv.one_row w1 _ _
 rw [←hw3]
 refine (refField_any ca none (some ⟨w1.heap.size,0,none⟩) 0 1 cc 0 1 f (fun _=>(Y:Int)*24+X) (fun _=>false) w3 (((uh hc').kept hB3).mono hB3.size) (uh hf') ⟨by unfold maxLen;omega,.inl rfl⟩ hV (fun _=>⟨by omega,by omega⟩)).mono ?_
 rintro e w4 ⟨F,⟨g2,rfl,hg2,hA4,hB4⟩,hF⟩
 have hspot:=hide (uh hs0 F hF)
 have hgw:=below_grown (hB3.trans (hB4.mono hB3.size))
 have hgw':=hide hgw
 have hEw:=hide ((uh hE').on hgw)
 have hA4':=hide hA4
 clear hA4 hB4 hV hB3 hw3 hF hs0 hg2 hgw cI hE' hc'
 go_wp2_with fail
 go_loopw [10,11] (fun s i wr=>∃k:Nat,k≤384∧s=.int .i64 (Nv.best F (Nv.st E n) k)∧i=.int .i64 (k:Int)∧w4.grownBy wr none) (fun _ i _=>384 - (intOf i).toNat)
 case atStart=>exact ⟨0,by omega,rfl,rfl,World.grownBy.refl _ _⟩
 case round =>
  obtain ⟨k,hk,rfl,rfl,hgr⟩:=hrel
  by_cases hlt:k<384
  ·have hlt':(k:Int)<384:=by omega
   have HL:=hide hlt
   have hck:wr.cell? ⟨g2,k,none⟩=some (.int .i64 (F k)):=((uh hA4').grown hgr (by simp)).cell hlt
   have cA:∀q,Calls Tryz.prog 56 #[.slice (some ⟨b,0,none⟩) n c,.int .i64 ((k % 24:Nat):Int),.int .i64 ((k / 24:Nat):Int)] (wr.drewN q) fun e w'=>e=.returned (.int .i64 (En.first (En.atQ E ((k % 24:Nat):Int) ((k / 24:Nat):Int)) n))∧w'=wr.drewN q:=fun q=>entRefAt_same b n c E _ _ _ ((uh hEw).on (gdw hgr q))
   have hgd:Hid (∀q,w4.grownBy (wr.drewN q) none):=fun q=>gdw hgr q
   have hst:Nv.st E n k=decide (0≤En.first (En.atQ E ((k % 24:Nat):Int) ((k / 24:Nat):Int)) n):=rfl
   generalize En.first (En.atQ E ((k % 24:Nat):Int) ((k / 24:Nat):Int)) n=r at cA hst
   have hcp:Hid (∀p,p<k→wr.cell? ⟨g2,p,none⟩=some (.int .i64 (F p))):=fun p hp=>((uh hA4').grown hgr (by simp)).cell (by omega)
   clear hlt hk hgr
   by_cases h1:F k<0
   ·have hb:=hide (Nv.best_skip (F:=F) (st:=Nv.st E n) (k:=k) (.inl h1))
    generalize Nv.best F (Nv.st E n) k=B at hb
    have h1':decide (F k≥0)=false:=decide_eq_false (by omega)
    clear hst
    go_wp2_with fail
    go_quiet ((go_at_call 56;exact Calls.quiet_of_same (cA _)))
    go_wp2
    go_roundw
    case rel=>exact ⟨k+1,by have:=uh HL;omega,by rw [uh hb],by go_num,uh hgd _⟩
    case measure=>have:=uh HL;simp [intOf];omega
   have h1':decide (F k≥0)=true:=decide_eq_true (by omega)
   by_cases h2:0≤r
   ·have hb:=hide (Nv.best_skip (F:=F) (st:=Nv.st E n) (k:=k) (.inr (by rw [hst];exact decide_eq_true h2)))
    generalize Nv.best F (Nv.st E n) k=B at hb
    have h2':decide (r<0)=false:=decide_eq_false (by omega)
    clear hst
    go_wp2_with fail
    go_quiet ((go_at_call 56;exact Calls.quiet_of_same (cA _)))
    go_wp2
    go_roundw
    case rel=>exact ⟨k+1,by have:=uh HL;omega,by rw [uh hb],by go_num,uh hgd _⟩
    case measure=>have:=uh HL;simp [intOf];omega
   have hsf:Nv.st E n k=false:=by rw [hst];exact decide_eq_false h2
   have h2':decide (r<0)=true:=decide_eq_true (by omega)
   rcases Nv.best_cases F (Nv.st E n) k with e | ⟨p,hp,e⟩
   ·have hb:=hide (Nv.best_first (by omega) hsf e)
    rw [e]
    clear hst hsf e
    go_wp2_with fail
    go_quiet ((go_at_call 56;exact Calls.quiet_of_same (cA _)))
    go_wp2
    go_roundw
    case rel=>exact ⟨k+1,by have:=uh HL;omega,by rw [uh hb],by go_num,uh hgd _⟩
    case measure=>have:=uh HL;simp [intOf];omega
   have hcp':=uh hcp p hp
   have hp':(p:Int)<384:=by have:=uh HL;omega
   have hp0:decide ((p:Int)<0)=false:=decide_eq_false (by omega)
   by_cases h3:F k<F p
   ·have hb:=hide (Nv.best_less (by omega) hsf e h3)
    have h3':decide (F k<F p)=true:=decide_eq_true h3
    rw [e]
    clear hst hsf e hp h3
    go_wp2_with fail
    go_quiet ((go_at_call 56;exact Calls.quiet_of_same (cA _)))
    go_wp2
    go_roundw
    case rel=>exact ⟨k+1,by have:=uh HL;omega,by rw [uh hb],by go_num,uh hgd _⟩
    case measure=>have:=uh HL;simp [intOf];omega
   ·have hb:=hide ((Nv.best_more (st:=Nv.st E n) e h3).trans e)
    have h3':decide (F k<F p)=false:=decide_eq_false h3
    rw [e]
    clear hst hsf e hp h3
    go_wp2_with fail
    go_quiet ((go_at_call 56;exact Calls.quiet_of_same (cA _)))
    go_wp2
    go_roundw
    case rel=>exact ⟨k+1,by have:=uh HL;omega,by rw [uh hb],by go_num,uh hgd _⟩
    case measure=>have:=uh HL;simp [intOf];omega
  ·have hge:¬(k:Int)<384:=by omega
   obtain rfl:k=384:=by omega
   have hgr':=hide hgr
   generalize Nv.best F (Nv.st E n) 384=r at hspot
   clear hgr
   go_wp2
   go_ret
   exact ⟨_,uh hspot,rfl,gtr (uh hgw') (uh hgr')⟩


open Go.RowKit

set_option maxHeartbeats 6400000 in
theorem refLay_any (b cp n cm:Nat) (a:Option Addr) (I M:Nat→Nat→Int) (w:World) (hL:Lie w b 63 160 (Gd.flat I)) (hM:Gd.Some w a n M) :
  Calls Tryz.prog 78 #[.slice (some ⟨b,0,none⟩) 40 cp,.slice a n cm] w (Gd.Gives40 w (Gd.lay I M n)):=by
 have hn:=hM.1
 have hL':=hide hL
 have hM':=hide hM
 obtain ⟨iI,hiI,hzI0,hzI1,hzI2⟩:=info_parts info_item
 clear hL hM
 go_enter Tryz.func78,Tryz.ntmps78
 go_wp2_with (at_builtin;refine wpList_append_own _ rfl _ _ 28 rfl w.heap.size 63 iI (.agg #[.int .i64 0,.int .i64 0,.int .i64 0,.int .i64 0]) 4 32 Tryz.underlying28 hiI hzI0 hzI1 hzI2 rfl (by decide) _ 0 [] rfl (World.ownsRow_made _ _ _ (Nat.le_refl _) (by decide) (by simp)) ⟨b,0,none⟩ 40 cp (Gd.list 160 (Gd.flat I)) rfl (Gd.list_len _ _) (Gd.list_src fun q hq=>(gce (World.grownBy_alloc _ _ none) b q (uh hL').lt (by simp)).trans ((uh hL').cell hq)) (Gd.list_one fun _=>rfl) ?c4 ?c5 ?c6 ?_)
 case c4=>unfold maxLen;omega
 case c5=>omega
 case c6=>simp
 intro v' w1 hown hgrow hnil
 obtain ⟨g,cap,rfl,hlo,hnc,hlie⟩:=Lie.of_append (n:=40) (z:=4) (F:=Gd.flat I) hown (by simpa using hnil)
 have hg1:=hide (gow (World.grownBy_alloc w _ none) hgrow (fun k e=>by cases e;exact Nat.le_refl _))
 have hl1:=hide hlie
 have hlo':=hide hlo
 clear hown hgrow hnil hlie hlo hnc hiI hzI0 hzI1 hzI2
 go_wp2_with fail
 go_loopw [6] (fun i wr=>∃m:Nat,m≤n∧i=.int .i64 (m:Int)∧Lie wr g 63 160 (Gd.flat (Gd.lay I M m))∧w.grownBy wr none) (fun i _=>200 - (intOf i).toNat)
 case atStart=>exact ⟨0,by omega,rfl,uh hl1,uh hg1⟩
 case round =>
  obtain ⟨m,hm,rfl,hJ,hgr⟩:=hrel
  have hJ':=hide hJ
  have hgr':=hide hgr
  clear hJ hgr
  by_cases hlt:m<n
  ·have hlt':(m:Int)<(n:Int):=by omega
   have HL:=hide hlt
   obtain ⟨bm,om,rfl,lbm,v0,v1,v2,v3⟩:=((uh hM').on (uh hgr')).row hlt
   have hbg:bm≠g:=by
    have h1:=uh hlo'
    obtain ⟨_,h0 | ⟨b',o',e,h3⟩⟩:=uh hM'
    ·omega
    ·simp only [Option.some.injEq,Addr.mk.injEq] at e
     have:=h3.2.1
     omega
   have hbg':=hbg.symm
   clear hlt
   go_wp2_with fail
   go_loop [7] (fun i=>∃r:Nat,r≤40∧i=.int .i64 (r:Int)∧∀j,j<r→Gd.goneQ (Gd.lay I M m) j=false) (fun i=>200 - (intOf i).toNat)
   case atStart=>exact ⟨0,by omega,rfl,fun j hj=>by omega⟩
   case round =>
    obtain ⟨r,hr,rfl,hno⟩:=hrel
    have hno':=hide hno
    clear hno
    by_cases hr40:r<40
    ·have hr':(r:Int)<40:=by omega
     have HR:=hide hr40
     obtain ⟨u0,u1,u2,u3⟩:=((uh hJ').its (n:=40) (by omega) (by omega)).row hr40
     have fI:=(uh hJ').free
     have hgq:=hide (show Gd.goneQ (Gd.lay I M m) r=Gd.zeroB (Gd.lay I M m r 0) (Gd.lay I M m r 1) (Gd.lay I M m r 2) (Gd.lay I M m r 3) from rfl)
     by_cases hz:Gd.zeroB (Gd.lay I M m r 0) (Gd.lay I M m r 1) (Gd.lay I M m r 2) (Gd.lay I M m r 3)=true
     ·have hs:=hide (Gd.lay_some (uh hno') ((uh hgq).trans hz) hr40)
      obtain ⟨e0,e1,e2,e3⟩:=(of_decide_eq_true hz:_∧_∧_∧_)
      rw [e0] at u0
      rw [e1] at u1
      rw [e2] at u2
      rw [e3] at u3
      have hJn:=hide ((uh hJ').put r (M m 0) (M m 1) (M m 2) (M m 3))
      have hgn:=hide (gow (uh hgr') (grown_put4 (World.grownBy.refl _ (some g)) r (.int .i64 (M m 0)) (.int .i64 (M m 1)) (.int .i64 (M m 2)) (.int .i64 (M m 3))) (fun k e=>by cases e;exact uh hlo'))
      clear hz e0 e1 e2 e3 hgq hr40
      go_wp2
      go_roundw
      case rel=>exact ⟨m+1,by have:=uh HL;omega,by go_num,by rw [uh hs];exact uh hJn,uh hgn⟩
      case measure=>simp [intOf];omega
     ·have hz':Gd.zeroB (Gd.lay I M m r 0) (Gd.lay I M m r 1) (Gd.lay I M m r 2) (Gd.lay I M m r 3)=false:=by simpa using hz
      have hq:=hide ((uh hgq).trans hz')
      have hcmp:∀wx:World,(binOp .eql 63 (.agg #[.int .i64 (Gd.lay I M m r 0),.int .i64 (Gd.lay I M m r 1),.int .i64 (Gd.lay I M m r 2),.int .i64 (Gd.lay I M m r 3)]) (.agg #[.int .i64 0,.int .i64 0,.int .i64 0,.int .i64 0])).run Tryz.prog wx=.ok (.bool false) wx:=fun wx=>by
       rw [run_eq_item]
       refine congrArg (fun z=>Result.ok (Value.bool z) wx) ?_
       have h:=of_decide_eq_false hz'
       rw [←Bool.not_eq_true]
       simp only [Bool.and_eq_true,decide_eq_true_eq]
       exact h
      clear hz hz' hgq hr40
      go_wp2
      go_round
      case rel=>exact ⟨r+1,by have:=uh HR;omega,by go_num,fun j hj=>by
       by_cases e:j=r
       ·rw [e];exact uh hq
       ·exact uh hno' j (by omega)⟩
      case measure=>simp [intOf];omega
    ·have hge:¬(r:Int)<40:=by omega
     have hs:=hide (Gd.lay_none (I:=I) (M:=M) (m:=m) (fun j hj=>uh hno' j (by omega)))
     go_wp2
     go_roundw
     case rel=>exact ⟨m+1,by have:=uh HL;omega,by go_num,by rw [uh hs];exact uh hJ',uh hgr'⟩
     case measure=>simp [intOf];omega
  ·have hge:¬(m:Int)<(n:Int):=by omega
   obtain rfl:m=n:=by omega
   go_wp2
   go_ret
   exact ⟨g,cap,rfl,uh hlo',uh hJ',uh hgr'⟩


open Go.RowKit

set_option maxHeartbeats 3200000 in
theorem refPlaced_any (s g c:Nat→Int) (gC gE gI cC cE cI:Nat) (k p a b:Int) (w:World) (hC:Vec w.heap.size w (some ⟨gC,0,none⟩) 384 (Byts c)) (hc:∀i,0≤c i∧c i≤255) (k1:1≤k) (k5:k≤4) :
  Calls Tryz.prog 68 #[.agg (Gd.world s gC gE gI cC cE cI g),.agg #[.int .i64 k,.int .i64 p,.int .i64 a,.int .i64 b]] w (Says w (.bool (Gd.fitsB c k p a b))):=by
 obtain ⟨r,hr⟩:∃r,Gd.fitsB c k p a b=r:=⟨_,rfl⟩
 rw [hr]
 have hr':=hide hr
 have hg:=hide (fun (o1 o2:Obj)=>gal (World.grownBy_alloc w o1 none) o2)
 have hC':=hide hC
 have hc':=hide hc
 have ek:Hid (decide (1≤k∧k≤4)=true):=decide_eq_true ⟨k1,k5⟩
 unfold Gd.world
 clear hr hC hc
 by_cases p1:p=1
 ·subst p1
  have he:=uh hr'
  unfold Gd.fitsB at he
  rw [uh ek,Bool.true_and,if_pos rfl] at he
  have he':=hide he
  clear he
  have cI:=fun wx=>refIn_any a b wx
  by_cases hin:Gr.inB a b=true
  ·rw [hin] at cI
   have cI':=hide cI
   have cA:Hid (∀o o':Obj,Calls Tryz.prog 51 #[.slice (some ⟨gC,0,none⟩) 384 cC,.int .i64 a,.int .i64 b] ((w.alloc o).alloc o') fun e w'=>e=.returned (.int .i64 (Gr.at 384 c a b))∧w'=(w.alloc o).alloc o'):=fun o o'=>refAt_any w.heap.size (some ⟨gC,0,none⟩) 384 cC c a b _ ((uh hC').kept (none_below (uh hg o o'))) (uh hc')
   obtain ⟨A,hA⟩:∃A,Gr.at 384 c a b=A:=⟨_,rfl⟩
   rw [hA] at cA he'
   clear hA cI
   go_enter Tryz.func68,Tryz.ntmps68
   go_wp2_with fail
   refine (uh cI' _).mono ?_
   rintro e w' ⟨rfl,hw⟩
   subst w'
   go_wp2_with fail
   refine (uh cA _ _).mono ?_
   rintro e w' ⟨rfl,hw⟩
   subst w'
   go_wp2_with fail
   refine (refWalk_any A _).mono ?_
   rintro e w' ⟨rfl,hw⟩
   subst w'
   go_wp2
   go_ret
   exact ret_says (uh he') (uh hg _ _)
  ·have hin':Gr.inB a b=false:=by simpa using hin
   rw [hin'] at cI
   have cI':=hide cI
   have hf:=hide (show false=r by rw [←uh he',Gd.at_out hin'];rfl)
   clear cI hin
   go_enter Tryz.func68,Tryz.ntmps68
   go_wp2_with fail
   refine (uh cI' _).mono ?_
   rintro e w' ⟨rfl,hw⟩
   subst w'
   go_wp2
   go_ret
   exact ret_says (uh hf) (uh hg _ _)
 ·by_cases p2:p=2
  ·subst p2
   have he:=uh hr'
   unfold Gd.fitsB at he
   rw [uh ek,Bool.true_and,if_neg (by decide),if_pos rfl] at he
   have he':=hide he
   clear he p1
   unfold Gd.isSeat at he'
   by_cases a0:0≤a
   ·by_cases a4:a<4
    ·by_cases b0:0≤b
     ·by_cases b4:b<4
      ·by_cases k4:k=4
       ·have hf:=hide (show false=r by rw [←uh he'];simp [k4])
        subst k4
        go_enter Tryz.func68,Tryz.ntmps68
        go_wp2
        go_ret
        exact ret_says (uh hf) (uh hg _ _)
       ·have hf:=hide (show true=r by rw [←uh he'];simp [k4,a0,a4,b0,b4])
        have k4':(k == 4)=false:=by simp [k4]
        go_enter Tryz.func68,Tryz.ntmps68
        go_wp2
        go_ret
        exact ret_says (by rw [←uh hf];simp [k4]) (uh hg _ _)
      ·have hf:=hide (show false=r by rw [←uh he'];simp [b4])
       go_enter Tryz.func68,Tryz.ntmps68
       go_wp2
       go_ret
       exact ret_says (uh hf) (uh hg _ _)
     ·have hf:=hide (show false=r by rw [←uh he'];simp [b0])
      go_enter Tryz.func68,Tryz.ntmps68
      go_wp2
      go_ret
      exact ret_says (uh hf) (uh hg _ _)
    ·have hf:=hide (show false=r by rw [←uh he'];simp [a4])
     go_enter Tryz.func68,Tryz.ntmps68
     go_wp2
     go_ret
     exact ret_says (uh hf) (uh hg _ _)
   ·have hf:=hide (show false=r by rw [←uh he'];simp [a0])
    go_enter Tryz.func68,Tryz.ntmps68
    go_wp2
    go_ret
    exact ret_says (uh hf) (uh hg _ _)
  ·by_cases p3:p=3
   ·subst p3
    have he:=uh hr'
    unfold Gd.fitsB at he
    rw [uh ek,Bool.true_and,if_neg (by decide),if_neg (by decide),if_pos rfl,Gd.serves_7] at he
    have he':=hide he
    clear he p1 p2
    unfold Gd.isSeat at he'
    by_cases a0:0≤a
    ·by_cases a4:a<4
     ·by_cases k2:k=2
      ·subst k2
       by_cases b0:b=0
       ·have hf:=hide (show true=r by rw [←uh he'];simp [a0,a4,b0])
        subst b0
        go_enter Tryz.func68,Tryz.ntmps68
        go_wp2
        go_ret
        exact ret_says (uh hf) (uh hg _ _)
       ·have hf:=hide (show false=r by rw [←uh he'];simp [b0])
        have b0':(b == 0)=false:=by simp [b0]
        go_enter Tryz.func68,Tryz.ntmps68
        go_wp2
        go_ret
        exact ret_says (uh hf) (uh hg _ _)
      ·have k2':(k == 2)=false:=by simp [k2]
       by_cases k3:k=3
       ·subst k3
        by_cases b1:b=1
        ·have hf:=hide (show true=r by rw [←uh he'];simp [a0,a4,b1])
         subst b1
         go_enter Tryz.func68,Tryz.ntmps68
         go_wp2
         go_ret
         exact ret_says (uh hf) (uh hg _ _)
        ·have hf:=hide (show false=r by rw [←uh he'];simp [b1])
         have b1':(b == 1)=false:=by simp [b1]
         go_enter Tryz.func68,Tryz.ntmps68
         go_wp2
         go_ret
         exact ret_says (uh hf) (uh hg _ _)
       ·have hf:=hide (show false=r by rw [←uh he'];simp [k2,k3])
        have k3':(k == 3)=false:=by simp [k3]
        go_enter Tryz.func68,Tryz.ntmps68
        go_wp2
        go_ret
        exact ret_says (uh hf) (uh hg _ _)
     ·have hf:=hide (show false=r by rw [←uh he'];simp [a4])
      go_enter Tryz.func68,Tryz.ntmps68
      go_wp2
      go_ret
      exact ret_says (uh hf) (uh hg _ _)
    ·have hf:=hide (show false=r by rw [←uh he'];simp [a0])
     go_enter Tryz.func68,Tryz.ntmps68
     go_wp2
     go_ret
     exact ret_says (uh hf) (uh hg _ _)
   ·by_cases p4:p=4
    ·subst p4
     have he:=uh hr'
     unfold Gd.fitsB at he
     rw [uh ek,Bool.true_and,if_neg (by decide),if_neg (by decide),if_neg (by decide),if_pos rfl] at he
     have he':=hide he
     clear he p1 p2 p3
     by_cases a0:0≤a
     ·by_cases a3:a<3
      ·by_cases b0:b=0
       ·by_cases k4:k=4
        ·have hf:=hide (show false=r by rw [←uh he'];simp [k4])
         subst k4
         go_enter Tryz.func68,Tryz.ntmps68
         go_wp2
         go_ret
         exact ret_says (uh hf) (uh hg _ _)
        ·have hf:=hide (show true=r by rw [←uh he'];simp [k4,a0,a3,b0])
         have k4':(k == 4)=false:=by simp [k4]
         subst b0
         go_enter Tryz.func68,Tryz.ntmps68
         go_wp2
         go_ret
         exact ret_says (by rw [←uh hf];simp [k4]) (uh hg _ _)
       ·have hf:=hide (show false=r by rw [←uh he'];simp [b0])
        have b0':(b == 0)=false:=by simp [b0]
        go_enter Tryz.func68,Tryz.ntmps68
        go_wp2
        go_ret
        exact ret_says (uh hf) (uh hg _ _)
      ·have hf:=hide (show false=r by rw [←uh he'];simp [a3])
       go_enter Tryz.func68,Tryz.ntmps68
       go_wp2
       go_ret
       exact ret_says (uh hf) (uh hg _ _)
     ·have hf:=hide (show false=r by rw [←uh he'];simp [a0])
      go_enter Tryz.func68,Tryz.ntmps68
      go_wp2
      go_ret
      exact ret_says (uh hf) (uh hg _ _)
    ·have he:=uh hr'
     unfold Gd.fitsB at he
     rw [uh ek,Bool.true_and,if_neg p1,if_neg p2,if_neg p3,if_neg p4] at he
     have he':=hide he
     clear he
     go_enter Tryz.func68,Tryz.ntmps68
     go_wp2
     go_ret
     exact ret_says (uh he') (uh hg _ _)


open Go.RowKit

theorem Gd.find_self {I:Nat→Nat→Int} {k:Nat} (hk:k<40):Gd.find I 40 (I k 1) (I k 2) (I k 3)=(k:Int)↔∀j,j<k→¬(I j 1=I k 1∧I j 2=I k 2∧I j 3=I k 3):=by
 rcases Gd.find_cases I 40 (I k 1) (I k 2) (I k 3) with ⟨_,hno⟩ | ⟨m,hm,e,h1,h2,h3,hlow⟩
 ·exact absurd ⟨rfl,rfl,rfl⟩ (hno k hk)
 ·rw [e]
  constructor
  ·intro h j hj
   exact hlow j (by omega)
  ·intro h
   by_cases lt:m<k
   ·exact absurd ⟨h1,h2,h3⟩ (h m lt)
   ·by_cases gt:k<m
    ·exact absurd ⟨rfl,rfl,rfl⟩ (hlow k gt)
    ·have:m=k:=by omega
     rw [this]

theorem Gd.fits_where {c:Nat→Int} {k p a b:Int} (h:Gd.fitsB c k p a b=true):p≠0∧1≤k∧k≤4:=by
 have:=(Gd.fits_iff c (Gd.row k p a b)).1 h
 exact ⟨this.where_ne,this.1,this.2.1⟩

set_option maxHeartbeats 6400000 in
theorem refCheck_any (s g c:Nat→Int) (E I:Nat→Nat→Int) (gC gE gI cC cE cI:Nat) (w:World) (hL:Gd.Lists w gC gE gI c E I) (hc:∀i,0≤c i∧c i≤255) :
  Calls Tryz.prog 32 #[.agg (Gd.world s gC gE gI cC cE cI g)] w (Tells7 w (Gd.Ok c 40 I)):=by
 obtain ⟨w0,hw0⟩:∃w0,w0=w.alloc (.cells (Gd.world s gC gE gI cC cE cI g) 31):=⟨_,rfl⟩
 have hbox:Lie w0 w.heap.size 31 11 (Gd.box s gC gE gI cC cE cI g):=by rw [hw0];exact (Arr.world (heap_alloc_new w _)).lie
 have hg0:w.grownBy w0 none:=by rw [hw0];exact World.grownBy_alloc _ _ _
 have hL0:=hide (hL.on hg0)
 obtain ⟨B,hB⟩:∃B,w.heap.size=B:=⟨_,rfl⟩
 rw [hB] at hbox
 have hbox':=hide hbox
 have hg0':=hide hg0
 have hc':=hide hc
 obtain ⟨_,_,_,_,_,_,b6,_⟩:=hbox.eleven
 clear hL hc hbox hg0
 unfold Gd.world at hw0 ⊢
 go_enter Tryz.func32,Tryz.ntmps32
 go_upto_region 1 with fail
 rw [←hw0]
 clear hw0 hB
 go_wp2_with fail
 go_loopw [3] (fun i wr=>∃k:Nat,k≤40∧i=.int .i64 (k:Int)∧(∀j,j<k→Gd.good c I j)∧w0.grownBy wr none) (fun i _=>200 - (intOf i).toNat)
 case atStart=>exact ⟨0,by omega,rfl,fun j hj=>by omega,World.grownBy.refl _ _⟩
 case round =>
  obtain ⟨k,hk,rfl,hno,hgr⟩:=hrel
  have hno':=hide hno
  have hgr':=hide hgr
  clear hno hgr b6
  obtain ⟨b0,b1,b2,b3,b4,b5,b6,b7,b8,b9,b10⟩:=((uh hbox').on (uh hgr')).eleven
  by_cases hlt:k<40
  ·obtain ⟨u0,u1,u2,u3⟩:=((uh hL0).on (uh hgr')).its.row hlt
   have hlt':(k:Int)<40:=by omega
   have HL:=hide hlt
   have lB:=((uh hbox').on (uh hgr')).lt
   clear hlt
   have hnx:=hide (fun (o:Obj)=>gal (uh hgr') o)
   by_cases hz:Gd.zeroB (I k 0) (I k 1) (I k 2) (I k 3)=true
   ·have hq:Hid (Gd.good c I k):=.inl hz
    obtain ⟨e0,e1,e2,e3⟩:I k 0=0∧I k 1=0∧I k 2=0∧I k 3=0:=of_decide_eq_true hz
    rw [e0] at u0
    rw [e1] at u1
    rw [e2] at u2
    rw [e3] at u3
    clear hz e0 e1 e2 e3
    go_wp2
    go_roundw
    case rel=>exact ⟨k+1,by have:=uh HL;omega,by go_num,fun j hj=>by
     by_cases e:j=k
     ·rw [e];exact uh hq
     ·exact uh hno' j (by omega),uh hnx _⟩
    case measure=>simp [intOf];omega
   ·have hz':Gd.zeroB (I k 0) (I k 1) (I k 2) (I k 3)=false:=by simpa using hz
    have hcmp:∀wx:World,(binOp .eql 63 (.agg #[.int .i64 (I k 0),.int .i64 (I k 1),.int .i64 (I k 2),.int .i64 (I k 3)]) (.agg #[.int .i64 0,.int .i64 0,.int .i64 0,.int .i64 0])).run Tryz.prog wx=.ok (.bool false) wx:=fun wx=>by
     rw [run_eq_item]
     refine congrArg (fun z=>Result.ok (Value.bool z) wx) ?_
     have h:=of_decide_eq_false hz'
     rw [←Bool.not_eq_true]
     simp only [Bool.and_eq_true,decide_eq_true_eq]
     exact h
    have nz:=hide hz'
    clear hz hz'
    by_cases k1:1≤I k 0
    ·by_cases k4:I k 0≤4
     ·have nk1:¬I k 0<1:=by omega
      have nk4:¬I k 0 > 4:=by omega
      have cpl0:=fun (o:Obj)=>refPlaced_any s g c gC gE gI cC cE cI (I k 0) (I k 1) (I k 2) (I k 3) (wr.alloc o) ((uh hL0).on (uh hnx o)).vec (uh hc') k1 k4
      unfold Gd.world at cpl0
      obtain ⟨V,hV⟩:∃V,Gd.fitsB c (I k 0) (I k 1) (I k 2) (I k 3)=V:=⟨_,rfl⟩
      rw [hV] at cpl0
      have hV':=hide hV
      have cpl:=hide cpl0
      clear cpl0 hV k1 k4
      have hnew:=hide (Arr.lit (heap_alloc_new wr (.cells #[.int .i64 (I k 0),.int .i64 (I k 1),.int .i64 (I k 2),.int .i64 (I k 3)] 63))).lie
      have hgb:=hide (uh hnx (.cells #[.int .i64 (I k 0),.int .i64 (I k 1),.int .i64 (I k 2),.int .i64 (I k 3)] 63))
      go_wp2_with fail
      refine (uh cpl _).mono ?_
      rintro e w1 ⟨rfl,hg1⟩
      have hn1:=hide ((uh hnew).on hg1)
      have hg1':=hide (gtr (uh hgb) hg1)
      obtain ⟨P,hP⟩:∃P,wr.heap.size=P:=⟨_,rfl⟩
      rw [hP] at hn1 ⊢
      clear hP hnew hgb hg1 cpl hcmp u0 u1 u2 u3 b0 b1 b2 b3 b4 b5 b6 b7 b8 b9 b10 lB
      cases V with
      | false =>
       have hnok:=hide (show ¬Gd.Ok c 40 I from fun h=>by
        rcases Gd.ok_good h (uh HL) with h1 | ⟨h1,_⟩
        ·rw [uh nz] at h1;cases h1
        ·rw [uh hV'] at h1;cases h1)
       have hfin:=hide (gtr (uh hg0') (uh hg1'))
       go_wp2
       go_ret
       exact ⟨false,rfl,⟨(fun h=>absurd h (by simp)),(fun h=>absurd h (uh hnok))⟩,uh hfin⟩
      | true =>
       have hwh:=hide (Gd.fits_where (uh hV')).1
       go_wp2_with fail
       go_loopw [5] (fun i wz=>∃j:Nat,j≤k∧i=.int .i64 (j:Int)∧(∀q,q<j→¬(I q 1=I k 1∧I q 2=I k 2∧I q 3=I k 3))∧w1.grownBy wz none) (fun i _=>200 - (intOf i).toNat)
       case atStart=>exact ⟨0,by omega,rfl,fun j hj=>by omega,World.grownBy.refl _ _⟩
       case round =>
        obtain ⟨j,hj,rfl,hlow,hgz⟩:=hrel
        have hlow':=hide hlow
        have hgz':=hide hgz
        clear hlow hgz
        have x1:wr.cell? ⟨P,1,none⟩=some (.int .i64 (I k 1)):=((uh hn1).on (uh hgz')).cell (c:=1) (by simp)
        have x2:wr.cell? ⟨P,2,none⟩=some (.int .i64 (I k 2)):=((uh hn1).on (uh hgz')).cell (c:=2) (by simp)
        have x3:wr.cell? ⟨P,3,none⟩=some (.int .i64 (I k 3)):=((uh hn1).on (uh hgz')).cell (c:=3) (by simp)
        have lP:=((uh hn1).on (uh hgz')).lt
        have hgt:=hide (gtr (uh hg1') (uh hgz'))
        have b6:=((uh hbox').on (uh hgt)).eleven.2.2.2.2.2.2.1
        by_cases hjk:j<k
        ·have hj40:j<40:=by have:=uh HL;omega
         obtain ⟨v0,v1,v2,v3⟩:=((uh hL0).on (uh hgt)).its.row hj40
         have hj40':(j:Int)<40:=by omega
         have hjk':(j:Int)<(k:Int):=by omega
         have hnz:=hide (fun (o:Obj)=>gal (uh hgz') o)
         have hft:=hide (fun (o:Obj)=>gtr (uh hg0') (gal (uh hgt) o))
         have HJ:=hide hjk
         clear hjk hj40
         by_cases c1:I j 1=I k 1
         ·by_cases c2:I j 2=I k 2
          ·by_cases c3:I j 3=I k 3
           ·have hnok:=hide (show ¬Gd.Ok c 40 I from fun h=>by
             rcases Gd.ok_good h (uh HL) with h1 | ⟨_,h1⟩
             ·rw [uh nz] at h1;cases h1
             ·exact (Gd.find_self (uh HL)).1 h1 j (uh HJ) ⟨c1,c2,c3⟩)
            have hne:¬I k 1=0:=uh hwh
            have hne':(I k 1 == 0)=false:=by simp [hne]
            rw [c1] at v1
            rw [c2] at v2
            rw [c3] at v3
            clear c1 c2 c3
            go_wp2
            go_ret
            exact ⟨false,rfl,⟨(fun h=>absurd h (by simp)),(fun h=>absurd h (uh hnok))⟩,uh hft _⟩
           ·have c3':(I j 3 == I k 3)=false:=by simp [c3]
            rw [c1] at v1
            rw [c2] at v2
            have hq:=hide (show ¬(I j 1=I k 1∧I j 2=I k 2∧I j 3=I k 3) from fun h=>c3 h.2.2)
            clear c1 c2
            go_wp2
            go_roundw
            case rel=>exact ⟨j+1,by have:=uh HJ;omega,by go_num,fun q hq1=>by
             by_cases e:q=j
             ·rw [e];exact uh hq
             ·exact uh hlow' q (by omega),uh hnz _⟩
            case measure=>simp [intOf];omega
          ·have c2':(I j 2 == I k 2)=false:=by simp [c2]
           rw [c1] at v1
           have hq:=hide (show ¬(I j 1=I k 1∧I j 2=I k 2∧I j 3=I k 3) from fun h=>c2 h.2.1)
           clear c1
           go_wp2
           go_roundw
           case rel=>exact ⟨j+1,by have:=uh HJ;omega,by go_num,fun q hq1=>by
            by_cases e:q=j
            ·rw [e];exact uh hq
            ·exact uh hlow' q (by omega),uh hnz _⟩
           case measure=>simp [intOf];omega
         ·have c1':(I j 1 == I k 1)=false:=by simp [c1]
          have hq:=hide (show ¬(I j 1=I k 1∧I j 2=I k 2∧I j 3=I k 3) from fun h=>c1 h.1)
          go_wp2
          go_roundw
          case rel=>exact ⟨j+1,by have:=uh HJ;omega,by go_num,fun q hq1=>by
           by_cases e:q=j
           ·rw [e];exact uh hq
           ·exact uh hlow' q (by omega),uh hnz _⟩
          case measure=>simp [intOf];omega
        ·have hge:¬(j:Int)<(k:Int):=by omega
         have hq:Hid (Gd.good c I k):=.inr ⟨uh hV',(Gd.find_self (uh HL)).2 (fun q hq1=>uh hlow' q (by omega))⟩
         go_wp2
         go_roundw
         case rel=>exact ⟨k+1,by have:=uh HL;omega,by go_num,fun q hq1=>by
          by_cases e:q=k
          ·rw [e];exact uh hq
          ·exact uh hno' q (by omega),uh hgt⟩
         case measure=>simp [intOf];omega
     ·have nk1:¬I k 0<1:=by omega
      have nk4:I k 0 > 4:=by omega
      have hnok:=hide (show ¬Gd.Ok c 40 I from fun h=>by
       rcases Gd.ok_good h (uh HL) with h1 | ⟨h1,_⟩
       ·rw [uh nz] at h1;cases h1
       ·have:=(Gd.fits_where h1).2
        omega)
      have hfin:=hide (fun (o:Obj)=>gtr (uh hg0') (uh hnx o))
      go_wp2
      go_ret
      exact ⟨false,rfl,⟨(fun h=>absurd h (by simp)),(fun h=>absurd h (uh hnok))⟩,uh hfin _⟩
    ·have nk1:I k 0<1:=by omega
     have hnok:=hide (show ¬Gd.Ok c 40 I from fun h=>by
      rcases Gd.ok_good h (uh HL) with h1 | ⟨h1,_⟩
      ·rw [uh nz] at h1;cases h1
      ·have:=(Gd.fits_where h1).2
       omega)
     have hfin:=hide (fun (o:Obj)=>gtr (uh hg0') (uh hnx o))
     go_wp2
     go_ret
     exact ⟨false,rfl,⟨(fun h=>absurd h (by simp)),(fun h=>absurd h (uh hnok))⟩,uh hfin _⟩
  ·have hge:¬(k:Int)<40:=by omega
   have he:=hide (Gd.good_ok (fun j hj=>uh hno' j (by omega)))
   have hfin:=hide (gtr (uh hg0') (uh hgr'))
   go_wp2
   go_ret
   exact ⟨true,rfl,⟨fun _=>uh he,fun _=>rfl⟩,uh hfin⟩

end Go.Proofs.YtepppmepilffcaaGreat
