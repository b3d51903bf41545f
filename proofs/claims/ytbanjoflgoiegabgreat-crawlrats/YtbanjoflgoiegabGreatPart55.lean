/-
  CrawlRat
-/
import Derived.Test.YtbanjoflgoiegabGreatPart53
namespace Go.Proofs.YtbanjoflgoiegabGreat
open Go.RowKit

theorem Cr.rat_keeps {s c:Nat→Int} {E:Nat→Nat→Int} {k:Nat} (k0:E k 0≠0):Cr.rats s c E k=E k:=by
 unfold Cr.rats
 split
 ·exact Cr.join_keeps k0
 ·rfl

theorem Cr.rat_stands {s c:Nat→Int} {E I:Nat→Nat→Int} {f:Nat} {t:Int} (hs:Cr.Sane c (Cr.rats s c E) I) (hf:Cr.Sole E f t):En.first (En.atQ (Cr.rats s c E) (E f 3) (E f 4)) 32=(f:Int):=by
 have k:=Cr.rat_keeps (s:=s) (c:=c) (E:=E) (k:=f) (by rw [hf.one];omega)
 have h:=Cr.at_one hs hf.lt (by rw [k,hf.one];omega)
 rw [k] at h
 exact h

theorem Cr.rat_comes {s c : Nat → Int} {E I : Nat → Nat → Int} {f u d : Nat} {t : Int} (hs : Cr.Sane c (Cr.rats s c E) I) (hf : Cr.Sole E f t) (hu : Gr.find 384 c 3 = (u : Int)) (_ : d < 384) (_ : u < 384) (hne : d ≠ u) (e3 : E f 3 = (d : Int) % 24) (e4 : E f 4 = (d : Int) / 24) :
    if s 1 % 16=0 then ∃r:Nat,r<32∧En.first (En.atQ (Cr.rats s c E) ((u:Int) % 24) ((u:Int) / 24)) 32=(r:Int)∧Cr.rats s c E r 0=2∧Cr.rats s c E r 5=4 else En.first (En.atQ (Cr.rats s c E) ((u:Int) % 24) ((u:Int) / 24)) 32=-1:=by
  have hno:En.first (En.atQ E ((u:Int) % 24) ((u:Int) / 24)) 32=-1:=En.first_none fun j hj=>by
    by_cases e:j=f
    · rw [e]
      have:¬(E f 3=(u:Int) % 24∧E f 4=(u:Int) / 24):=by omega
      simp only [En.atQ]
      by_cases h3:E f 3=(u:Int) % 24
      · have h4:¬E f 4=(u:Int) / 24:=fun h4=>this ⟨h3,h4⟩
        simp [h4]
      · simp [h3]
    · simp [En.atQ,hf.free j hj e]
  by_cases h:s 1 % 16=0
  · rw [if_pos h]
    have hr:Cr.rats s c E=Cr.join E (Cr.one 2 0 u):=by
      unfold Cr.rats
      rw [hu,if_pos ⟨h,by rw [hno];omega⟩,Int.toNat_natCast]
    rw [hr] at hs ⊢
    rcases Cr.join_cases E (Cr.one 2 0 u) with he | ⟨r,hr32,_,_,he⟩
    · exfalso
      unfold Cr.join at he
      rcases En.first_cases (En.freeQ E) 32 with ⟨_,hn⟩ | ⟨k,hk,hk1,hq,_⟩
      · rcases Nat.decEq f 0 with h0 | h0
        · have:=hn 0 (by omega)
          simp [En.freeQ,hf.free 0 (by omega) (by omega)] at this
        · have:=hn 1 (by omega)
          simp [En.freeQ,hf.free 1 (by omega) (by omega)] at this
      · rw [hk1,if_pos (by omega),Int.toNat_natCast] at he
        have h2:=congrFun (congrFun he k) 0
        rw [En.put_same] at h2
        have h3:E k 0=0:=by simpa [En.freeQ] using hq
        rw [h3] at h2
        exact absurd h2 (by show ¬(2:Int)=0;omega)
    · have o:=Cr.one_at 2 0 u
      have k0:Cr.join E (Cr.one 2 0 u) r 0=2:=by rw [he,En.put_same];rfl
      have k5:Cr.join E (Cr.one 2 0 u) r 5=4:=by rw [he,En.put_same];rfl
      have k3:Cr.join E (Cr.one 2 0 u) r 3=(u:Int) % 24:=by rw [he,En.put_same];rfl
      have k4:Cr.join E (Cr.one 2 0 u) r 4=(u:Int) / 24:=by rw [he,En.put_same];rfl
      have ha:=Cr.at_one hs hr32 (by rw [k0];omega)
      rw [k3,k4] at ha
      exact ⟨r,hr32,ha,k0,k5⟩
  · rw [if_neg h]
    have hr:Cr.rats s c E=E:=by
      unfold Cr.rats
      rw [if_neg (fun hh=>h hh.1)]
    rw [hr]
    exact hno

def Cr.sleeper (q:Nat):Nat→Int:=En.upd (En.upd (En.upd (En.stats 2) 3 ((q:Int) % 24)) 4 ((q:Int) / 24)) 10 9

theorem Cr.Sane.sleeper {c:Nat→Int} {E I:Nat→Nat→Int} (h:Cr.Sane c E I) {i q:Nat} (h0:E i 0=0) (hq:q<384) (hr:Ft.Room c E q):Cr.Sane c (En.put E i (Cr.sleeper q)) I:=by
 have hg:En.gen (Cr.sleeper q) 0=Cr.sleeper q:=by
  funext j
  unfold En.gen
  split
  ·rename_i e
   rw [e]
   rfl
  ·rfl
 have hset:=h.set.put (e:=Cr.sleeper q) (gn:=0) h0 hq hr rfl rfl ⟨rfl,rfl,rfl⟩
 rw [hg] at hset
 have hrow:Ft.Row (Cr.sleeper q):=⟨by show (0:Int)≤0;omega,by show (0:Int)≤255;omega,.inr (by show 1≤(2:Int)∧(2:Int)≤4∧1≤(4:Int)∧(4:Int)≤4∧(4:Int)≤20∧0≤(2:Int)∧(2:Int)≤5∧0≤(0:Int)∧(0:Int)≤1∧0≤(0:Int)∧(0:Int)≤9∧0≤(9:Int)∧(9:Int)≤9;omega)⟩
 have k0:Cr.sleeper q 0=2:=rfl
 refine ⟨h.fit.put hrow,hset,⟨fun j hj j1=>?_,fun a b ha hb a1 b1 hab=>?_,fun j hj j0 j1=>?_⟩⟩
 ·by_cases x:j=i
  ·rw [x,En.put_same,k0] at j1;omega
  ·rw [En.put_other x] at j1 ⊢;exact h.seats.seat j hj j1
 ·by_cases xa:a=i
  ·rw [xa,En.put_same,k0] at a1;omega
  ·by_cases xb:b=i
   ·rw [xb,En.put_same,k0] at b1;omega
   ·rw [En.put_other xa] at a1 hab
    rw [En.put_other xb] at b1 hab
    exact h.seats.one a b ha hb a1 b1 hab
 ·by_cases x:j=i
  ·rw [x,En.put_same];rfl
  ·rw [En.put_other x] at j0 j1 ⊢;exact h.seats.none j hj j0 j1

theorem Cr.join_full {E:Nat→Nat→Int} {e:Nat→Int} (h:∀k,k<32→E k 0≠0):Cr.join E e=E:=by
 rcases Cr.join_cases E e with he | ⟨f,hf,f0,_⟩
 ·exact he
 ·exact absurd f0 (h f hf)

theorem Cr.full_frame {how inp : Nat → Int} {sp : Nat → Bool} {S T : Cr.W} {f : Nat} (hT : Cr.IsStep how inp sp S T) (h0 : S.s 3 = 0) (hf : f < 32) (f0 : S.E f 0 = 1) (f2 : S.E f 2 = 0) (hh : ∀ t, t < 4 → how t = 0) (hfull : ∀ k, k < 32 → S.E k 0 ≠ 0 ∧ S.E k 9 = 0 ∧ (S.E k 0 = 1 ∨ 0 < S.E k 10)) :
    T.s=Cr.num S.s 1 (S.s 1+1)∧∀k,k<32→T.E k 0=S.E k 0∧T.E k 1=S.E k 1:=by
  unfold Cr.IsStep at hT
  rw [if_neg (fun h=>h h0)] at hT
  obtain ⟨A,m,F,J,hA,hm,hF,hE⟩:=hT
  have hA':∀{n:Nat} {A:Nat→Nat→Int},Cr.ComesTo S.c sp n S.E A→A=S.E:=by
    intro n
    induction n with
    | zero=>intro A h;exact h
    | succ n ih =>
      rintro A ⟨G,hG,hC⟩
      rw [ih hG] at hC
      unfold Cr.Comes at hC
      split at hC
      · obtain ⟨v,_,⟨_,h⟩ | ⟨q,_,h⟩⟩:=hC
        · exact h
        · rw [h,Cr.join_full (fun k hk=>(hfull k hk).1)]
      · exact hC
  rw [hA' hA] at hm hE
  have hm':∀{n:Nat} {m:Cr.M},n≤4→Cr.MovedTo (Cr.num S.s 1 (S.s 1+1)) S.c how inp n ⟨S.g,S.E,S.I,false⟩ m→m=⟨S.g,S.E,S.I,false⟩:=by
    intro n
    induction n with
    | zero=>intro m _ h;exact h
    | succ n ih =>
      rintro m hn ⟨o,ho,hM⟩
      rw [ih (by omega) ho] at hM
      unfold Cr.Moved at hM
      rw [if_pos (.inr (.inr (by rw [hh n (by omega)];omega)))] at hM
      exact hM
  rw [hm' (Nat.le_refl _) hm] at hF hE
  have hF':∀{n:Nat} {F J:Nat→Nat→Int},n≤32→Cr.ProwlTo (Cr.num S.s 1 (S.s 1+1)) S.c n S.E S.I F J→F=S.E∧J=S.I:=by
    intro n
    induction n with
    | zero=>intro F J _ h;exact h
    | succ n ih =>
      rintro F J hn ⟨G,K,hG,hP⟩
      obtain ⟨rfl,rfl⟩:=ih (by omega) hG
      unfold Cr.Prowls at hP
      rw [if_pos (by rcases (hfull n (by omega)).2.2 with e | e;exact .inr (.inl e);exact .inr (.inr e))] at hP
      exact hP
  obtain ⟨rfl,rfl⟩:=hF' (Nat.le_refl _) hF
  have hk:∀k,k<32→∀j,j≠10→(Ft.ailE S.E S.I 32).1 k j=S.E k j:=fun k hk j hj=>((Cr.ail_stun (I:=S.I) (by rw [(hfull k hk).2.1];omega) (hfull k hk).1 32).2 hk).1 j hj
  have hr:Cr.rats (Cr.num S.s 1 (S.s 1+1)) S.c (Ft.ailE S.E S.I 32).1=(Ft.ailE S.E S.I 32).1:=by
    unfold Cr.rats
    split
    · exact Cr.join_full (fun k hk'=>by rw [hk k hk' 0 (by omega)];exact (hfull k hk').1)
    · rfl
  have hE':Cr.Ends (Cr.num S.s 1 (S.s 1+1)) S.g S.c (Cr.rats (Cr.num S.s 1 (S.s 1+1)) S.c (Ft.ailE S.E S.I 32).1) (Ft.ailE S.E S.I 32).2 (Cr.manned S.E || Cr.manned S.E) false T:=hE
  rw [hr] at hE'
  unfold Cr.Ends at hE'
  rw [if_neg (by rw [Cr.manned_of (t:=0) (k:=f) (by omega) hf (by rw [hk f hf 0 (by omega)];exact f0) (by rw [hk f hf 2 (by omega)];exact f2)];exact fun h=>by cases h),if_neg (by exact fun h=>by cases h)] at hE'
  rw [hE']
  exact ⟨rfl,fun k hk'=>⟨hk k hk' 0 (by omega),hk k hk' 1 (by omega)⟩⟩

structure Cr.Filled (c:Nat→Int) (E0 E I:Nat→Nat→Int) (r i:Nat):Prop where
 sane:Cr.Sane c E I
 hero:E r=E0 r
 rats:∀k,k<i→k≠r→E k 0=2∧E k 9=0∧E k 10=9
 free:∀k,i≤k→k≠r→E k 0=0

theorem Cr.Filled.skip {c:Nat→Int} {E0 E I:Nat→Nat→Int} {r:Nat} (h:Cr.Filled c E0 E I r r):Cr.Filled c E0 E I r (r+1) :=
 ⟨h.sane,h.hero,fun k hk e=>h.rats k (by omega) e,fun k hk e=>h.free k (by omega) e⟩

theorem Cr.Filled.next {c:Nat→Int} {E0 E I:Nat→Nat→Int} {r i q:Nat} (h:Cr.Filled c E0 E I r i) (hi:i≠r) (hq:q<384) (hr:Ft.Room c E q):Cr.Filled c E0 (En.put E i (Cr.sleeper q)) I r (i+1) :=
 ⟨h.sane.sleeper (h.free i (Nat.le_refl _) hi) hq hr,by rw [En.put_other (fun e=>hi e.symm)];exact h.hero,fun k hk e=>by
  by_cases x:k=i
  ·rw [x,En.put_same]
   exact ⟨rfl,rfl,rfl⟩
  ·rw [En.put_other x]
   exact h.rats k (by omega) e,fun k hk e=>by
  rw [En.put_other (by omega)]
  exact h.free k (by omega) e⟩

end Go.Proofs.YtbanjoflgoiegabGreat
