import Derived.Test.YtldgbkjceildfaaGreatTw10
namespace Go.Proofs.YtldgbkjceildfaaGreat
open Go.RowKit

def Sn.sameE (e f:Nat→Int):Bool:=decide (e 0=f 0) && (decide (e 1=f 1) && (decide (e 2=f 2) && (decide (e 3=f 3) && (decide (e 4=f 4) && (decide (e 5=f 5) && (decide (e 6=f 6) && (decide (e 7=f 7) && (decide (e 8=f 8) && (decide (e 9=f 9) && decide (e 10=f 10))))))))))

def Sn.sameI (e f:Nat→Int):Bool:=decide (e 0=f 0) && (decide (e 1=f 1) && (decide (e 2=f 2) && decide (e 3=f 3)))

theorem Sn.sameE_iff (e f:Nat→Int):Sn.sameE e f=true↔∀j,j<11→e j=f j:=by
 unfold Sn.sameE
 simp only [Bool.and_eq_true,decide_eq_true_eq]
 constructor
 ·rintro ⟨h0,h1,h2,h3,h4,h5,h6,h7,h8,h9,h10⟩ j hj
  rcases (show j=0∨j=1∨j=2∨j=3∨j=4∨j=5∨j=6∨j=7∨j=8∨j=9∨j=10 by omega) with rfl | rfl | rfl | rfl | rfl | rfl | rfl | rfl | rfl | rfl | rfl <;> assumption
 ·intro h
  exact ⟨h 0 (by omega),h 1 (by omega),h 2 (by omega),h 3 (by omega),h 4 (by omega),h 5 (by omega),h 6 (by omega),h 7 (by omega),h 8 (by omega),h 9 (by omega),h 10 (by omega)⟩

theorem Sn.sameI_iff (e f:Nat→Int):Sn.sameI e f=true↔∀j,j<4→e j=f j:=by
 unfold Sn.sameI
 simp only [Bool.and_eq_true,decide_eq_true_eq]
 constructor
 ·rintro ⟨h0,h1,h2,h3⟩ j hj
  rcases (show j=0∨j=1∨j=2∨j=3 by omega) with rfl | rfl | rfl | rfl <;> assumption
 ·intro h
  exact ⟨h 0 (by omega),h 1 (by omega),h 2 (by omega),h 3 (by omega)⟩

set_option maxHeartbeats 1600000 in
theorem run_ne_ent (e f:Nat→Int) (w:World):(binOp .neq 70 (.agg #[.int .i64 (e 0),.int .i64 (e 1),.int .i64 (e 2),.int .i64 (e 3),.int .i64 (e 4),.int .i64 (e 5),.int .i64 (e 6),.int .i64 (e 7),.int .i64 (e 8),.int .i64 (e 9),.int .i64 (e 10)]) (.agg #[.int .i64 (f 0),.int .i64 (f 1),.int .i64 (f 2),.int .i64 (f 3),.int .i64 (f 4),.int .i64 (f 5),.int .i64 (f 6),.int .i64 (f 7),.int .i64 (f 8),.int .i64 (f 9),.int .i64 (f 10)])).run Tryz.prog w=.ok (.bool (!Sn.sameE e f)) w:=by
 unfold Sn.sameE
 by_cases h0:e 0=f 0
 ·by_cases h1:e 1=f 1
  ·by_cases h2:e 2=f 2
   ·by_cases h3:e 3=f 3
    ·by_cases h4:e 4=f 4
     ·by_cases h5:e 5=f 5
      ·by_cases h6:e 6=f 6
       ·by_cases h7:e 7=f 7
        ·by_cases h8:e 8=f 8
         ·by_cases h9:e 9=f 9
          ·by_cases h10:e 10=f 10
           ·simp [go_sem,h0,h1,h2,h3,h4,h5,h6,h7,h8,h9,h10]
           ·simp [go_sem,h0,h1,h2,h3,h4,h5,h6,h7,h8,h9,h10]
          ·simp [go_sem,h0,h1,h2,h3,h4,h5,h6,h7,h8,h9]
         ·simp [go_sem,h0,h1,h2,h3,h4,h5,h6,h7,h8]
        ·simp [go_sem,h0,h1,h2,h3,h4,h5,h6,h7]
       ·simp [go_sem,h0,h1,h2,h3,h4,h5,h6]
      ·simp [go_sem,h0,h1,h2,h3,h4,h5]
     ·simp [go_sem,h0,h1,h2,h3,h4]
    ·simp [go_sem,h0,h1,h2,h3]
   ·simp [go_sem,h0,h1,h2]
  ·simp [go_sem,h0,h1]
 ·simp [go_sem,h0]


open Go.RowKit

def En.gen (e:Nat→Int) (g:Int):Nat→Int:=fun j=>if j=1 then g else e j

def Spawns (w:World) (n:Nat) (E:Nat→Nat→Int) (k:Nat) (e:Ending) (w':World):Prop :=
 ∃g cap,e=.returned (.tuple #[.slice (some ⟨g,0,none⟩) n cap,.int .i64 (k:Int),.int .i64 0])∧w.heap.size≤g∧n≤cap∧cap≤maxLen∧Own w' g n E∧w.grownBy w' none


open Go.RowKit

set_option maxRecDepth 8000 in
set_option maxHeartbeats 3200000 in
theorem refSpot_any (ca:Option Addr) (cc b n c:Nat) (f:Nat→Int) (E:Nat→Nat→Int) (x y:Int) (w:World)
  (hc:Vec w.heap.size w ca 384 (Byts f)) (hf:∀i,0≤f i∧f i≤255) (hE:Ents w b n E) :
  Calls Tryz.prog 67 #[.slice ca 384 cc,.slice (some ⟨b,0,none⟩) n c,.int .i64 x,.int .i64 y] w (Nv.SaysSpot w f E n x y):=by
 have hc':=hide hc
 have hf':=hide hf
 have hE':=hide hE
 clear hc hf hE
 by_cases hin:Gr.inB x y=true
 case neg =>
  rw [Bool.not_eq_true] at hin
  have he:=hide (Nv.spot_out (f:=f) (E:=E) (n:=n) (show Nv.num x y=-1 from if_neg (by rw [hin];simp)))
  have cI:=hide (fun wq=>refIn_any x y wq)
  rw [hin] at cI
  clear hin
  go_enter Tryz.func67,Tryz.ntmps67
  go_wp2_with fail
  refine (uh cI _).mono ?_
  rintro e w1 ⟨rfl,rfl⟩
  go_wp2
  go_ret
  exact ⟨_,uh he,rfl,World.grownBy.refl _ _⟩
 obtain ⟨b1,b2,b3,b4⟩:=(Gr.inB_iff _ _).1 hin
 obtain ⟨X,rfl⟩:∃X:Nat,x=(X:Int):=⟨x.toNat,by omega⟩
 obtain ⟨Y,rfl⟩:∃Y:Nat,y=(Y:Int):=⟨y.toNat,by omega⟩
 have hX:X<24:=by omega
 have hY:Y<16:=by omega
 have hme:Nv.num (X:Int) (Y:Int)=(Y:Int)*24+X:=by unfold Nv.num;rw [if_pos hin]
 have hs0:Hid (∀F,Gr.IsField (fun i=>Gr.openB f 0 (fun _=>false) i=true) (Gr.tgt f (fun _=>(Y:Int)*24+X) 1) F→Nv.IsSpot f E n X Y (Nv.best F (Nv.st E n) 384)):=fun F h=>⟨F,by rw [hme];exact h,rfl⟩
 have cI:=hide (fun wq=>refIn_any (X:Int) (Y:Int) wq)
 rw [hin] at cI
 clear hin b1 b2 b3 b4 hme
 go_enter Tryz.func67,Tryz.ntmps67
 go_wp2_with fail
 refine (uh cI _).mono ?_
 rintro e w1 ⟨rfl,rfl⟩
 go_wp2_with fail
 obtain ⟨w3,hw3⟩:∃w3,w3=w1.alloc (.cells #[.int .i64 ((Y:Int)*24+X)] 3):=⟨_,rfl⟩
 have hB3:Below w1.heap.size w1 w3:=by rw [hw3];exact (Below.refl _ _).alloc (Nat.le_refl _) _
 have hV:Vec w3.heap.size w3 (some ⟨w1.heap.size,0,none⟩) 1 (Ints fun _=>(Y:Int)*24+X):=by rw [hw3];exact Nv.one_row w1 _ _
 rw [←hw3]
 refine (refField_any ca none (some ⟨w1.heap.size,0,none⟩) 0 1 cc 0 1 f (fun _=>(Y:Int)*24+X) (fun _=>false) w3 (((uh hc').kept hB3).mono hB3.size) (uh hf') ⟨by unfold maxLen;omega,.inl rfl⟩ hV (fun _=>⟨by omega,by omega⟩)).mono ?_
 rintro e w4 ⟨F,⟨g2,rfl,hg2,hA4,hB4⟩,hF⟩
 have hspot:=hide (uh hs0 F hF)
 have hgw:=below_grown (hB3.trans (hB4.mono hB3.size))
 have hgw':=hide hgw
 have hEw:=hide ((uh hE').on hgw)
 have hA4':=hide hA4
 clear hA4 hB4 hV hB3 hw3 hF hs0 hg2 hgw cI hE' hc'
 go_wp2_with fail
 go_loopw [10,11] (fun s i wr=>∃k:Nat,k≤384∧s=.int .i64 (Nv.best F (Nv.st E n) k)∧i=.int .i64 (k:Int)∧w4.grownBy wr none) (fun _ i _=>384 - (intOf i).toNat)
 case atStart=>exact ⟨0,by omega,rfl,rfl,World.grownBy.refl _ _⟩
 case round =>
  obtain ⟨k,hk,rfl,rfl,hgr⟩:=hrel
  by_cases hlt:k<384
  ·have hlt':(k:Int)<384:=by omega
   have HL:=hide hlt
   have hck:wr.cell? ⟨g2,k,none⟩=some (.int .i64 (F k)):=((uh hA4').grown hgr (by simp)).cell hlt
   have cA:∀q,Calls Tryz.prog 50 #[.slice (some ⟨b,0,none⟩) n c,.int .i64 ((k % 24:Nat):Int),.int .i64 ((k / 24:Nat):Int)] (wr.drewN q) fun e w'=>e=.returned (.int .i64 (En.first (En.atQ E ((k % 24:Nat):Int) ((k / 24:Nat):Int)) n))∧w'=wr.drewN q:=fun q=>entRefAt_same b n c E _ _ _ ((uh hEw).on (gdw hgr q))
   have hgd:Hid (∀q,w4.grownBy (wr.drewN q) none):=fun q=>gdw hgr q
   have hst:Nv.st E n k=decide (0≤En.first (En.atQ E ((k % 24:Nat):Int) ((k / 24:Nat):Int)) n):=rfl
   generalize En.first (En.atQ E ((k % 24:Nat):Int) ((k / 24:Nat):Int)) n=r at cA hst
   have hcp:Hid (∀p,p<k→wr.cell? ⟨g2,p,none⟩=some (.int .i64 (F p))):=fun p hp=>((uh hA4').grown hgr (by simp)).cell (by omega)
   clear hlt hk hgr
   by_cases h1:F k<0
   ·have hb:=hide (Nv.best_skip (F:=F) (st:=Nv.st E n) (k:=k) (.inl h1))
    generalize Nv.best F (Nv.st E n) k=B at hb
    have h1':decide (F k≥0)=false:=decide_eq_false (by omega)
    clear hst
    go_wp2_with fail
    go_quiet ((go_at_call 50;exact Calls.quiet_of_same (cA _)))
    go_wp2
    go_roundw
    case rel=>exact ⟨k+1,by have:=uh HL;omega,by rw [uh hb],by go_num,uh hgd _⟩
    case measure=>have:=uh HL;simp [intOf];omega
   have h1':decide (F k≥0)=true:=decide_eq_true (by omega)
   by_cases h2:0≤r
   ·have hb:=hide (Nv.best_skip (F:=F) (st:=Nv.st E n) (k:=k) (.inr (by rw [hst];exact decide_eq_true h2)))
    generalize Nv.best F (Nv.st E n) k=B at hb
    have h2':decide (r<0)=false:=decide_eq_false (by omega)
    clear hst
    go_wp2_with fail
    go_quiet ((go_at_call 50;exact Calls.quiet_of_same (cA _)))
    go_wp2
    go_roundw
    case rel=>exact ⟨k+1,by have:=uh HL;omega,by rw [uh hb],by go_num,uh hgd _⟩
    case measure=>have:=uh HL;simp [intOf];omega
   have hsf:Nv.st E n k=false:=by rw [hst];exact decide_eq_false h2
   have h2':decide (r<0)=true:=decide_eq_true (by omega)
   rcases Nv.best_cases F (Nv.st E n) k with e | ⟨p,hp,e⟩
   ·have hb:=hide (Nv.best_first (by omega) hsf e)
    rw [e]
    clear hst hsf e
    go_wp2_with fail
    go_quiet ((go_at_call 50;exact Calls.quiet_of_same (cA _)))
    go_wp2
    go_roundw
    case rel=>exact ⟨k+1,by have:=uh HL;omega,by rw [uh hb],by go_num,uh hgd _⟩
    case measure=>have:=uh HL;simp [intOf];omega
   have hcp':=uh hcp p hp
   have hp':(p:Int)<384:=by have:=uh HL;omega
   have hp0:decide ((p:Int)<0)=false:=decide_eq_false (by omega)
   by_cases h3:F k<F p
   ·have hb:=hide (Nv.best_less (by omega) hsf e h3)
    have h3':decide (F k<F p)=true:=decide_eq_true h3
    rw [e]
    clear hst hsf e hp h3
    go_wp2_with fail
    go_quiet ((go_at_call 50;exact Calls.quiet_of_same (cA _)))
    go_wp2
    go_roundw
    case rel=>exact ⟨k+1,by have:=uh HL;omega,by rw [uh hb],by go_num,uh hgd _⟩
    case measure=>have:=uh HL;simp [intOf];omega
   ·have hb:=hide ((Nv.best_more (st:=Nv.st E n) e h3).trans e)
    have h3':decide (F k<F p)=false:=decide_eq_false h3
    rw [e]
    clear hst hsf e hp h3
    go_wp2_with fail
    go_quiet ((go_at_call 50;exact Calls.quiet_of_same (cA _)))
    go_wp2
    go_roundw
    case rel=>exact ⟨k+1,by have:=uh HL;omega,by rw [uh hb],by go_num,uh hgd _⟩
    case measure=>have:=uh HL;simp [intOf];omega
  ·have hge:¬(k:Int)<384:=by omega
   obtain rfl:k=384:=by omega
   have hgr':=hide hgr
   generalize Nv.best F (Nv.st E n) 384=r at hspot
   clear hgr
   go_wp2
   go_ret
   exact ⟨_,uh hspot,rfl,gtr (uh hgw') (uh hgr')⟩

end Go.Proofs.YtldgbkjceildfaaGreat
