import Derived.Test.YtbanjoflgoiegaaGreatPs21
namespace Go.Proofs.YtbanjoflgoiegaaGreat
open Go.RowKit

def Gd.wornK (I:Nat→Nat→Int) (seat kd:Int):Nat→Bool
 | 0=>false
 | k+1=>Gd.wornK I seat kd k || (decide (I k 1=3∧I k 2=seat) && decide (I k 0=kd))

def Gd.three (b:Bool):Int:=if b=true then 3 else 0
def Gd.two (b:Bool):Int:=if b=true then 2 else 0

set_option maxHeartbeats 6400000 in
theorem bonus_any (s g c:Nat→Int) (E I:Nat→Nat→Int) (gC gE gI cC cE cI:Nat) (seat:Int) (w:World) (hL:Gd.Lists w gC gE gI c E I) :
  Calls Tryz.prog 186 #[.agg (Gd.world s gC gE gI cC cE cI g),.int .i64 seat] w (Says w (.tuple #[.int .i64 (Gd.three (Gd.wornK I seat 2 40)),.int .i64 (Gd.two (Gd.wornK I seat 3 40))])):=by
 obtain ⟨w0,hw0⟩:∃w0,w0=w.alloc (.cells (Gd.world s gC gE gI cC cE cI g) 30):=⟨_,rfl⟩
 have hbox:Lie w0 w.heap.size 30 11 (Gd.box s gC gE gI cC cE cI g):=by rw [hw0];exact (Arr.world (heap_alloc_new w _)).lie
 have hg0:w.grownBy w0 none:=by rw [hw0];exact World.grownBy_alloc _ _ _
 have hL0:=hide (hL.on hg0)
 obtain ⟨B,hB⟩:∃B,w.heap.size=B:=⟨_,rfl⟩
 rw [hB] at hbox
 have hbox':=hide hbox
 have hg0':=hide hg0
 obtain ⟨_,_,_,_,_,_,b6,_⟩:=hbox.eleven
 clear hL hbox hg0
 unfold Gd.world at hw0 ⊢
 go_enter Tryz.func186,Tryz.ntmps186
 go_upto_region 1 with fail
 rw [←hw0]
 clear hw0 hB
 go_wp2_with fail
 go_loopw [6,7,13] (fun a d i wr=>∃k:Nat,k≤40∧i=.int .i64 (k:Int)∧a=.int .i64 (Gd.three (Gd.wornK I seat 2 k))∧d=.int .i64 (Gd.two (Gd.wornK I seat 3 k))∧w0.grownBy wr none) (fun _ _ i _=>200 - (intOf i).toNat)
 case atStart=>exact ⟨0,by omega,rfl,rfl,rfl,World.grownBy.refl _ _⟩
 case round =>
  obtain ⟨k,hk,rfl,rfl,rfl,hgr⟩:=hrel
  have hgr':=hide hgr
  clear hgr b6
  by_cases hlt:k<40
  ·obtain ⟨u0,u1,u2,u3⟩:=((uh hL0).on (uh hgr')).its.row hlt
   have hlt':(k:Int)<40:=by omega
   have HL:=hide hlt
   have hnx:=hide (fun (o:Obj)=>gal (uh hgr') o)
   have e2:=hide (show Gd.wornK I seat 2 (k+1)=(Gd.wornK I seat 2 k || (decide (I k 1=3∧I k 2=seat) && decide (I k 0=2))) from rfl)
   have e3:=hide (show Gd.wornK I seat 3 (k+1)=(Gd.wornK I seat 3 k || (decide (I k 1=3∧I k 2=seat) && decide (I k 0=3))) from rfl)
   clear hlt
   by_cases h1:I k 1=3
   ·by_cases h2:I k 2=seat
    ·by_cases k2:I k 0=2
     ·have r2:Hid (Gd.wornK I seat 2 (k+1)=true):=by show _=_;rw [uh e2];simp [h1,h2,k2]
      have r3:Hid (Gd.wornK I seat 3 (k+1)=Gd.wornK I seat 3 k):=by show _=_;rw [uh e3];simp [k2]
      clear e2 e3
      go_wp2
      go_roundw
      case rel=>exact ⟨k+1,by have:=uh HL;omega,by go_num,by rw [uh r2];rfl,by rw [uh r3],uh hnx _⟩
      case measure=>simp [intOf];omega
     ·have m2:(I k 0 == 2)=false:=by simp [k2]
      have r2:Hid (Gd.wornK I seat 2 (k+1)=Gd.wornK I seat 2 k):=by show _=_;rw [uh e2];simp [k2]
      by_cases k3:I k 0=3
      ·have r3:Hid (Gd.wornK I seat 3 (k+1)=true):=by show _=_;rw [uh e3];simp [h1,h2,k3]
       clear e2 e3
       go_wp2
       go_roundw
       case rel=>exact ⟨k+1,by have:=uh HL;omega,by go_num,by rw [uh r2],by rw [uh r3];rfl,uh hnx _⟩
       case measure=>simp [intOf];omega
      ·have m3:(I k 0 == 3)=false:=by simp [k3]
       have r3:Hid (Gd.wornK I seat 3 (k+1)=Gd.wornK I seat 3 k):=by show _=_;rw [uh e3];simp [k3]
       clear e2 e3
       go_wp2
       go_roundw
       case rel=>exact ⟨k+1,by have:=uh HL;omega,by go_num,by rw [uh r2],by rw [uh r3],uh hnx _⟩
       case measure=>simp [intOf];omega
    ·have m2:(I k 2 == seat)=false:=by simp [h2]
     have r2:Hid (Gd.wornK I seat 2 (k+1)=Gd.wornK I seat 2 k):=by show _=_;rw [uh e2];simp [h2]
     have r3:Hid (Gd.wornK I seat 3 (k+1)=Gd.wornK I seat 3 k):=by show _=_;rw [uh e3];simp [h2]
     clear e2 e3
     go_wp2
     go_roundw
     case rel=>exact ⟨k+1,by have:=uh HL;omega,by go_num,by rw [uh r2],by rw [uh r3],uh hnx _⟩
     case measure=>simp [intOf];omega
   ·have m1:(I k 1 == 3)=false:=by simp [h1]
    have r2:Hid (Gd.wornK I seat 2 (k+1)=Gd.wornK I seat 2 k):=by show _=_;rw [uh e2];simp [h1]
    have r3:Hid (Gd.wornK I seat 3 (k+1)=Gd.wornK I seat 3 k):=by show _=_;rw [uh e3];simp [h1]
    clear e2 e3
    go_wp2
    go_roundw
    case rel=>exact ⟨k+1,by have:=uh HL;omega,by go_num,by rw [uh r2],by rw [uh r3],uh hnx _⟩
    case measure=>simp [intOf];omega
  ·have hge:¬(k:Int)<40:=by omega
   have hfin:=hide (gtr (uh hg0') (uh hgr'))
   obtain rfl:k=40:=by omega
   go_wp2
   refine bodyPost_ret (v:=.tuple #[.int .i64 (Gd.three (Gd.wornK I seat 2 40)),.int .i64 (Gd.two (Gd.wornK I seat 3 40))]) (by simp [results,Tryz.results186,go_sem]) rfl ?_
   exact ⟨rfl,uh hfin⟩

end Go.Proofs.YtbanjoflgoiegaaGreat
