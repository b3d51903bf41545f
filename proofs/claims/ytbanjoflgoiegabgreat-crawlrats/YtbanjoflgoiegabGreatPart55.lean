/-
  CrawlRat
-/
import Derived.Test.YtbanjoflgoiegabGreatPart53
namespace Go.Proofs.YtbanjoflgoiegabGreat
open Go.RowKit

theorem Cr.rat_keeps {s c:Nat→Int} {E:Nat→Nat→Int} {k:Nat} (k0:E k 0≠0):Cr.rats s c E k=E k:=by
 unfold Cr.rats
 split
 ·exact Cr.join_keeps k0
 ·rfl

theorem Cr.rat_stands {s c:Nat→Int} {E I:Nat→Nat→Int} {f:Nat} {t:Int} (hs:Cr.Sane c (Cr.rats s c E) I) (hf:Cr.Sole E f t):En.first (En.atQ (Cr.rats s c E) (E f 3) (E f 4)) 32=(f:Int):=by
 have k:=Cr.rat_keeps (s:=s) (c:=c) (E:=E) (k:=f) (by rw [hf.one];omega)
 have h:=Cr.at_one hs hf.lt (by rw [k,hf.one];omega)
 rw [k] at h
 exact h

theorem Cr.rat_comes {s c : Nat → Int} {E I : Nat → Nat → Int} {f u d : Nat} {t : Int} (hs : Cr.Sane c (Cr.rats s c E) I) (hf : Cr.Sole E f t) (hu : Gr.find 384 c 3 = (u : Int)) (_ : d < 384) (_ : u < 384) (hne : d ≠ u) (e3 : E f 3 = (d : Int) % 24) (e4 : E f 4 = (d : Int) / 24) :
    if s 1 % 16=0 then ∃r:Nat,r<32∧En.first (En.atQ (Cr.rats s c E) ((u:Int) % 24) ((u:Int) / 24)) 32=(r:Int)∧Cr.rats s c E r 0=2∧Cr.rats s c E r 5=4 else En.first (En.atQ (Cr.rats s c E) ((u:Int) % 24) ((u:Int) / 24)) 32=-1:=by
  have hno:En.first (En.atQ E ((u:Int) % 24) ((u:Int) / 24)) 32=-1:=En.first_none fun j hj=>by
    by_cases e:j=f
    · rw [e]
      have:¬(E f 3=(u:Int) % 24∧E f 4=(u:Int) / 24):=by omega
      simp only [En.atQ]
      by_cases h3:E f 3=(u:Int) % 24
      · have h4:¬E f 4=(u:Int) / 24:=fun h4=>this ⟨h3,h4⟩
        simp [h4]
      · simp [h3]
    · simp [En.atQ,hf.free j hj e]
  by_cases h:s 1 % 16=0
  · rw [if_pos h]
    have hr:Cr.rats s c E=Cr.join E (Cr.one 2 0 u):=by
      unfold Cr.rats
      rw [hu,if_pos ⟨h,by rw [hno];omega⟩,Int.toNat_natCast]
    rw [hr] at hs ⊢
    rcases Cr.join_cases E (Cr.one 2 0 u) with he | ⟨r,hr32,_,_,he⟩
    · exfalso
      unfold Cr.join at he
      rcases En.first_cases (En.freeQ E) 32 with ⟨_,hn⟩ | ⟨k,hk,hk1,hq,_⟩
      · rcases Nat.decEq f 0 with h0 | h0
        · have:=hn 0 (by omega)
          simp [En.freeQ,hf.free 0 (by omega) (by omega)] at this
        · have:=hn 1 (by omega)
          simp [En.freeQ,hf.free 1 (by omega) (by omega)] at this
      · rw [hk1,if_pos (by omega),Int.toNat_natCast] at he
        have h2:=congrFun (congrFun he k) 0
        rw [En.put_same] at h2
        have h3:E k 0=0:=by simpa [En.freeQ] using hq
        rw [h3] at h2
        exact absurd h2 (by show ¬(2:Int)=0;omega)
    · have o:=Cr.one_at 2 0 u
      have k0:Cr.join E (Cr.one 2 0 u) r 0=2:=by rw [he,En.put_same];rfl
      have k5:Cr.join E (Cr.one 2 0 u) r 5=4:=by rw [he,En.put_same];rfl
      have k3:Cr.join E (Cr.one 2 0 u) r 3=(u:Int) % 24:=by rw [he,En.put_same];rfl
      have k4:Cr.join E (Cr.one 2 0 u) r 4=(u:Int) / 24:=by rw [he,En.put_same];rfl
      have ha:=Cr.at_one hs hr32 (by rw [k0];omega)
      rw [k3,k4] at ha
      exact ⟨r,hr32,ha,k0,k5⟩
  · rw [if_neg h]
    have hr:Cr.rats s c E=E:=by
      unfold Cr.rats
      rw [if_neg (fun hh=>h hh.1)]
    rw [hr]
    exact hno

end Go.Proofs.YtbanjoflgoiegabGreat
