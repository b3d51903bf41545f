import Derived.Test.YtapgkgbpekkdjaaGreatPart52
import Derived.Test.YtapgkgbpekkdjaaGreatPart36
namespace Go.Proofs.YtapgkgbpekkdjaaGreat
open Go.RowKit

theorem Sn.rwE_none {q:Nat→Bool}:∀{n:Nat},(∀k,k<n→q k=true)→Sn.rwE q n=[]
 | 0,_=>rfl
 | n+1,h=>by
  show (Sn.rwE q n ++ if q n=true then [] else [(2,(n:Int))])=[]
  rw [Sn.rwE_none fun k hk=>h k (by omega),if_pos (h n (by omega))]
  rfl

theorem Sn.rwI_none {q:Nat→Bool}:∀{n:Nat},(∀k,k<n→q k=true)→Sn.rwI q n=[]
 | 0,_=>rfl
 | n+1,h=>by
  show (Sn.rwI q n ++ if q n=true then [] else [(3,(n:Int))])=[]
  rw [Sn.rwI_none fun k hk=>h k (by omega),if_pos (h n (by omega))]
  rfl

theorem Sn.sameE_self (e:Nat→Int):Sn.sameE e e=true:=(Sn.sameE_iff e e).2 fun _ _=>rfl
theorem Sn.sameI_self (e:Nat→Int):Sn.sameI e e=true:=(Sn.sameI_iff e e).2 fun _ _=>rfl
theorem Sn.sameH_self (s g:Nat→Int):Sn.sameH s s g g=true:=(Sn.sameH_iff s s g g).2 ⟨fun _ _=>rfl,fun _ _=>rfl⟩
theorem Sn.cells_self (c:Nat→Int):Sn.allB (fun i=>c i == c i) 384=true:=Sn.allB_yes fun k _=>by simp


open Go.RowKit

structure Sn.Pages (w x:World) (T gC gE gI cC cE cI U kC kE kI eC eE eI:Nat) (s g c:Nat→Int) (E I:Nat→Nat→Int) (t h d:Nat→Int) (F J:Nat→Nat→Int):Prop where
 a:Lie x T 31 11 (Gd.box s gC gE gI cC cE cI g)
 la:Gd.Lists x gC gE gI c E I
 u:Lie x U 31 11 (Gd.box t kC kE kI eC eE eI h)
 lu:Gd.Lists x kC kE kI d F J
 grown:w.grownBy x none

theorem Sn.Pages.on {w x y:World} {T gC gE gI cC cE cI U kC kE kI eC eE eI:Nat} {s g c:Nat→Int} {E I:Nat→Nat→Int} {t h d:Nat→Int} {F J:Nat→Nat→Int} (H:Sn.Pages w x T gC gE gI cC cE cI U kC kE kI eC eE eI s g c E I t h d F J) (hg:x.grownBy y none):Sn.Pages w y T gC gE gI cC cE cI U kC kE kI eC eE eI s g c E I t h d F J :=
 ⟨H.a.on hg,H.la.on hg,H.u.on hg,H.lu.on hg,gtr H.grown hg⟩

theorem Lie.laid {x:World} {Q:Nat} {T:TypeId} {K:Nat→Value} (h:Lie x Q T 11 K) (s g:Nat→Int) (gC gE gI cC cE cI:Nat):Lie (x.setCells Q 0 (Gd.world s gC gE gI cC cE cI g).toList) Q T 11 (Gd.box s gC gE gI cC cE cI g) :=
 (h.stores 0 (Gd.world s gC gE gI cC cE cI g).toList).congr fun j hj=>by
  rcases (show j=0∨j=1∨j=2∨j=3∨j=4∨j=5∨j=6∨j=7∨j=8∨j=9∨j=10 by omega) with rfl | rfl | rfl | rfl | rfl | rfl | rfl | rfl | rfl | rfl | rfl <;> rfl

theorem Sn.rwE_nil {q:Nat→Bool}:∀{n:Nat},Sn.rwE q n=[]→∀k,k<n→q k=true
 | 0,_,k,hk=>absurd hk (by omega)
 | n+1,h,k,hk=>by
  have h':(Sn.rwE q n ++ if q n=true then [] else [(2,(n:Int))])=[]:=h
  obtain ⟨h1,h2⟩:=List.append_eq_nil_iff.1 h'
  by_cases e:k=n
  ·subst e
   by_cases hq:q k=true
   ·exact hq
   ·rw [if_neg hq] at h2
    cases h2
  ·exact Sn.rwE_nil h1 k (by omega)

theorem Sn.rwI_nil {q:Nat→Bool}:∀{n:Nat},Sn.rwI q n=[]→∀k,k<n→q k=true
 | 0,_,k,hk=>absurd hk (by omega)
 | n+1,h,k,hk=>by
  have h':(Sn.rwI q n ++ if q n=true then [] else [(3,(n:Int))])=[]:=h
  obtain ⟨h1,h2⟩:=List.append_eq_nil_iff.1 h'
  by_cases e:k=n
  ·subst e
   by_cases hq:q k=true
   ·exact hq
   ·rw [if_neg hq] at h2
    cases h2
  ·exact Sn.rwI_nil h1 k (by omega)

theorem Sn.rw_nil (s t g h c d:Nat→Int) (E F I J:Nat→Nat→Int):Sn.rw s t g h c d E F I J=[]↔Sn.sameW s t g h c d E F I J=true:=by
 unfold Sn.rw Sn.sameW
 rw [Bool.and_eq_true,Bool.and_eq_true,Bool.and_eq_true]
 constructor
 ·intro e
  obtain ⟨e1,e4⟩:=List.append_eq_nil_iff.1 e
  obtain ⟨e1,e3⟩:=List.append_eq_nil_iff.1 e1
  obtain ⟨e1,e2⟩:=List.append_eq_nil_iff.1 e1
  refine ⟨?_,?_,Sn.allB_yes (Sn.rwE_nil e3),Sn.allB_yes (Sn.rwI_nil e4)⟩
  ·cases q:Sn.sameH s t g h with
   | true=>rfl
   | false=>rw [q] at e1;cases e1
  ·cases q:Sn.allB (fun i=>c i == d i) 384 with
   | true=>rfl
   | false=>rw [q] at e2;cases e2
 ·rintro ⟨h1,h2,h3,h4⟩
  rw [h1,h2,Sn.rwE_none (Sn.allB_iff.1 h3),Sn.rwI_none (Sn.allB_iff.1 h4)]
  rfl

theorem Sn.rw_self (s g c:Nat→Int) (E I:Nat→Nat→Int):Sn.rw s s g g c c E E I I=[]:=by
 unfold Sn.rw
 rw [Sn.sameH_self,Sn.cells_self,Sn.rwE_none fun k _=>Sn.sameE_self (E k),Sn.rwI_none fun k _=>Sn.sameI_self (I k)]
 rfl

theorem Sn.rwE_most (q:Nat→Bool):∀k,(Sn.rwE q k).length≤k
 | 0=>Nat.le_refl _
 | k+1=>by
  have:=Sn.rwE_most q k
  unfold Sn.rwE
  rw [List.length_append]
  split <;> simp <;> omega

theorem Sn.rwI_most (q:Nat→Bool):∀k,(Sn.rwI q k).length≤k
 | 0=>Nat.le_refl _
 | k+1=>by
  have:=Sn.rwI_most q k
  unfold Sn.rwI
  rw [List.length_append]
  split <;> simp <;> omega

theorem Sn.rw_most (s t g h c d:Nat→Int) (E F I J:Nat→Nat→Int):(Sn.rw s t g h c d E F I J).length≤74:=by
 unfold Sn.rw
 have h1:(Sn.rwH (Sn.sameH s t g h)).length≤1:=by unfold Sn.rwH;split <;> simp
 have h2:(Sn.rwC (Sn.allB (fun i=>c i == d i) 384)).length≤1:=by unfold Sn.rwC;split <;> simp
 have h3:=Sn.rwE_most (fun i=>Sn.sameE (E i) (F i)) 32
 have h4:=Sn.rwI_most (fun i=>Sn.sameI (I i) (J i)) 40
 rw [List.length_append,List.length_append,List.length_append]
 omega

end Go.Proofs.YtapgkgbpekkdjaaGreat
