import Derived.Test.YtapgkgbpekkdjaaPart13
namespace Go.Proofs.Ytapgkgbpekkdjaa

namespace Gn

theorem paintTo_2 {c:Nat→Int} {x y w h r q:Int} (hc:∀i,0≤c i∧c i≤2) (i:Nat):0≤paintTo c x y w h r q i∧paintTo c x y w h r q i≤2:=by
 unfold paintTo
 split
 ·omega
 ·exact hc i

theorem digAt_2 {st:(Nat→Int) × Bool} {k:Nat} (hc:∀i,0≤st.1 i∧st.1 i≤2) (i:Nat):0≤(digAt st k).1 i∧(digAt st k).1 i≤2:=by
 unfold digAt Gr.upd
 split
 ·show 0≤(if i=k then _ else st.1 i)∧(if i=k then _ else st.1 i)≤2
  split
  ·split <;> omega
  ·exact hc i
 ·exact hc i

theorem digRun_2 (tx ty:Int) (first:Bool):∀(n:Nat) (st:(Nat→Int) × Bool) (x y:Int),(∀i,0≤st.1 i∧st.1 i≤2)→∀i,0≤(digRun tx ty first n st x y).1 i∧(digRun tx ty first n st x y).1 i≤2
 | 0,_,_,_,h=>digAt_2 h
 | n+1,_,_,_,h=>digRun_2 tx ty first n _ _ _ (digAt_2 h)

theorem roomed_2 (d:Dice):∀(n i:Nat),0≤roomed d n i∧roomed d n i≤2
 | 0,_=>by simp [roomed]
 | n+1,i=>paintTo_2 (roomed_2 d n) i

theorem dug_2 (d:Dice):∀(n i:Nat),0≤dug d n i∧dug d n i≤2
 | 0,i=>roomed_2 d 6 i
 | n+1,i=>by
  have h:=digRun_2 (mx d (n+1)) (my d (n+1)) (d ((n+1:Nat):Int) 4 2 == 0) (steps (mx d n) (my d n) (mx d (n+1)) (my d (n+1))) (dug d n,false) (mx d n) (my d n) (dug_2 d n) i
  rw [dug]
  exact h

def onPath (tx ty:Int) (first:Bool):Nat→Int→Int→Nat→Prop
 | 0,x,y,k=>k=(y*24+x).toNat
 | n+1,x,y,k=>k=(y*24+x).toNat∨onPath tx ty first n (stepX x y tx ty first) (stepY x y tx ty first) k

theorem digAt_nz (st:(Nat→Int) × Bool) (k i:Nat):(digAt st k).1 i≠0↔st.1 i≠0∨i=k:=by
 unfold digAt
 split
 ·rename_i h0
  show Gr.upd st.1 k _ i≠0↔_
  by_cases e:i=k
  ·rw [e,Gr.upd_at]
   simp only [or_true,iff_true]
   split <;> omega
  ·rw [Gr.upd_ne _ _ e]
   simp [e]
 ·rename_i h0
  constructor
  ·exact fun h=>.inl h
  ·rintro (h | rfl)
   ·exact h
   ·exact h0

theorem digRun_nz (tx ty:Int) (first:Bool):∀(n:Nat) (st:(Nat→Int) × Bool) (x y:Int) (i:Nat),(digRun tx ty first n st x y).1 i≠0↔st.1 i≠0∨onPath tx ty first n x y i
 | 0,st,x,y,i=>digAt_nz st _ i
 | n+1,st,x,y,i=>by
  rw [digRun,digRun_nz tx ty first n,digAt_nz,onPath,or_assoc]

def inRoom (d:Dice) (k i:Nat):Prop:=rx d k≤(i % 24:Nat)∧((i % 24:Nat):Int)<rx d k+rw d k∧ry d k≤(i / 24:Nat)∧((i / 24:Nat):Int)<ry d k+rh d k

theorem paint_nz (c:Nat→Int) (x y w h:Int) (i:Nat):paint c x y w h i≠0↔c i≠0∨(x≤(i % 24:Nat)∧((i % 24:Nat):Int)<x+w∧y≤(i / 24:Nat)∧((i / 24:Nat):Int)<y+h):=by
 unfold paint paintTo
 by_cases hc:(x≤(i % 24:Nat)∧((i % 24:Nat):Int)<x+w∧y≤(i / 24:Nat)∧((i / 24:Nat):Int)<y+h)
 ·rw [if_pos ⟨hc,by omega⟩]
  exact ⟨fun _=>.inr hc,fun _=>by omega⟩
 ·rw [if_neg (fun h=>hc h.1)]
  constructor
  ·exact fun h=>.inl h
  ·rintro (h | h)
   ·exact h
   ·exact absurd h hc

theorem roomed_nz (d:Dice):∀(n i:Nat),roomed d n i≠0↔∃k,k<n∧inRoom d k i
 | 0,i=>by simp [roomed]
 | n+1,i=>by
  rw [roomed,paint_nz,roomed_nz d n i]
  constructor
  ·rintro (⟨k,hk,h⟩ | h)
   ·exact ⟨k,by omega,h⟩
   ·exact ⟨n,by omega,h⟩
  ·rintro ⟨k,hk,h⟩
   by_cases e:k=n
   ·subst e;exact .inr h
   ·exact .inl ⟨k,by omega,h⟩

def path (d:Dice) (n i:Nat):Prop:=onPath (mx d (n+1)) (my d (n+1)) (d ((n+1:Nat):Int) 4 2 == 0) (steps (mx d n) (my d n) (mx d (n+1)) (my d (n+1))) (mx d n) (my d n) i

theorem dug_nz (d:Dice):∀(n i:Nat),dug d n i≠0↔(∃k,k<6∧inRoom d k i)∨∃k,k<n∧path d k i
 | 0,i=>by
  have h:dug d 0=roomed d 6:=rfl
  rw [h,roomed_nz]
  constructor
  ·exact fun h=>.inl h
  ·rintro (h | ⟨k,hk,_⟩)
   ·exact h
   ·omega
 | n+1,i=>by
  rw [dug,digRun_nz,dug_nz d n i]
  constructor
  ·rintro ((h | ⟨k,hk,h⟩) | h)
   ·exact .inl h
   ·exact .inr ⟨k,by omega,h⟩
   ·exact .inr ⟨n,by omega,h⟩
  ·rintro (h | ⟨k,hk,h⟩)
   ·exact .inl (.inl h)
   ·by_cases e:k=n
    ·subst e;exact .inr h
    ·exact .inl (.inr ⟨k,by omega,h⟩)

def Closed (c:Nat→Int) (P:Nat→Prop):Prop:=∀j e,j<384→e<4→P j→Gr.nbIn j e→c (Gr.nbOf j e)≠0→P (Gr.nbOf j e)

theorem Closed.step {c:Nat→Int} {P:Nat→Prop} (h:Closed c P) {a b:Nat} (ha:a<384) (hb:b<384) (hP:P a) (hc:c b≠0)
  (hn:(b=a+1∧a / 24=b / 24)∨(a=b+1∧a / 24=b / 24)∨b=a+24∨a=b+24):P b:=by
 have key:∃e,e<4∧Gr.nbIn a e∧((a / 24:Nat)+Gr.dyOf e)*24+((a % 24:Nat)+Gr.dxOf e)=(b:Int):=by
  rcases hn with ⟨h1,h2⟩ | ⟨h1,h2⟩ | h1 | h1
  ·exact ⟨1,by omega,by unfold Gr.nbIn;simp only [Gr.dxOf,Gr.dyOf];omega,by simp only [Gr.dxOf,Gr.dyOf];omega⟩
  ·exact ⟨3,by omega,by unfold Gr.nbIn;simp only [Gr.dxOf,Gr.dyOf];omega,by simp only [Gr.dxOf,Gr.dyOf];omega⟩
  ·exact ⟨2,by omega,by unfold Gr.nbIn;simp only [Gr.dxOf,Gr.dyOf];omega,by simp only [Gr.dxOf,Gr.dyOf];omega⟩
  ·exact ⟨0,by omega,by unfold Gr.nbIn;simp only [Gr.dxOf,Gr.dyOf];omega,by simp only [Gr.dxOf,Gr.dyOf];omega⟩
 obtain ⟨e,he,hin,hv⟩:=key
 have hb2:Gr.nbOf a e=b:=by have:=Gr.nb_eq hin;omega
 have:=h a e ha he hP hin (by rw [hb2];exact hc)
 rwa [hb2] at this

theorem step_near (x y tx ty:Int) (first:Bool) (h:¬(x=tx∧y=ty)) :
  (stepX x y tx ty first=x+1∧stepY x y tx ty first=y)∨(stepX x y tx ty first=x - 1∧stepY x y tx ty first=y)∨(stepX x y tx ty first=x∧stepY x y tx ty first=y+1)∨(stepX x y tx ty first=x∧stepY x y tx ty first=y - 1):=by
 unfold stepX stepY to1
 by_cases hw:way x y tx ty first=true
 ·rw [if_pos hw,if_pos hw]
  have hx:x≠tx:=by
   unfold way at hw
   intro e
   simp only [Bool.or_eq_true,beq_iff_eq,Bool.and_eq_true,bne_iff_ne,ne_eq] at hw
   rcases hw with hw | ⟨_,hw⟩
   ·exact h ⟨e,hw⟩
   ·exact hw e
  split
  ·exact .inl ⟨rfl,rfl⟩
  ·split
   ·exact .inr (.inl ⟨rfl,rfl⟩)
   ·omega
 ·rw [if_neg hw,if_neg hw]
  have hy:y≠ty:=by
   unfold way at hw
   intro e
   simp [e] at hw
  split
  ·exact .inr (.inr (.inl ⟨rfl,rfl⟩))
  ·split
   ·exact .inr (.inr (.inr ⟨rfl,rfl⟩))
   ·omega

theorem Closed.along {c:Nat→Int} {P:Nat→Prop} (h:Closed c P) (tx ty:Int) (first:Bool) (ht:(1≤tx∧tx≤22)∧1≤ty∧ty≤14):∀(n:Nat) (x y:Int),n=steps x y tx ty→(1≤x∧x≤22)∧1≤y∧y≤14→P (y*24+x).toNat→(∀i,onPath tx ty first n x y i→c i≠0) →
  (∀i,onPath tx ty first n x y i→P i)∧onPath tx ty first n x y (ty*24+tx).toNat
 | 0,x,y,hn,hb,hP,hc=>by
  have e:x=tx∧y=ty:=by unfold steps at hn;omega
  refine ⟨fun i hi=>?_,?_⟩
  ·have hi':i=(y*24+x).toNat:=hi
   rw [hi'];exact hP
  ·show (ty*24+tx).toNat=(y*24+x).toNat
   rw [e.1,e.2]
 | n+1,x,y,hn,hb,hP,hc=>by
  have hne:¬(x=tx∧y=ty):=by
   rintro ⟨rfl,rfl⟩
   unfold steps at hn
   omega
  have hl:=step_less x y tx ty first hne
  have hb':=step_bd x y tx ty first hb ht
  have hsn:=step_near x y tx ty first hne
  have hPn:P (stepY x y tx ty first*24+stepX x y tx ty first).toNat:=by
   refine h.step (a:=(y*24+x).toNat) (by omega) (by omega) hP (hc _ (.inr ?_)) (by omega)
   cases n with
   | zero=>rfl
   | succ m=>exact .inl rfl
  obtain ⟨h1,h2⟩:=Closed.along h tx ty first ht n (stepX x y tx ty first) (stepY x y tx ty first) (by omega) hb' hPn (fun i hi=>hc i (.inr hi))
  refine ⟨fun i hi=>?_,.inr h2⟩
  rcases hi with rfl | hi
  ·exact hP
  ·exact h1 i hi

theorem Closed.rowTo {c:Nat→Int} {P:Nat→Prop} (h:Closed c P) (x0 y0 w0 h0:Int) (hb:1≤x0∧x0+w0≤23∧1≤y0∧y0+h0≤15) (hc:∀x y,x0≤x→x<x0+w0→y0≤y→y<y0+h0→c (y*24+x).toNat≠0) :
  ∀(n:Nat) (x y x':Int),n=(x' - x).natAbs→x0≤x→x<x0+w0→x0≤x'→x'<x0+w0→y0≤y→y<y0+h0→P (y*24+x).toNat→P (y*24+x').toNat
 | 0,x,y,x',hn,_,_,_,_,_,_,hP=>by
  have:x'=x:=by omega
  rw [this];exact hP
 | n+1,x,y,x',hn,h1,h2,h3,h4,h5,h6,hP=>by
  by_cases hlt:x<x'
  ·refine Closed.rowTo h x0 y0 w0 h0 hb hc n (x+1) y x' (by omega) (by omega) (by omega) h3 h4 h5 h6 ?_
   exact h.step (a:=(y*24+x).toNat) (by omega) (by omega) hP (hc _ _ (by omega) (by omega) h5 h6) (by omega)
  ·refine Closed.rowTo h x0 y0 w0 h0 hb hc n (x - 1) y x' (by omega) (by omega) (by omega) h3 h4 h5 h6 ?_
   exact h.step (a:=(y*24+x).toNat) (by omega) (by omega) hP (hc _ _ (by omega) (by omega) h5 h6) (by omega)

theorem Closed.colTo {c:Nat→Int} {P:Nat→Prop} (h:Closed c P) (x0 y0 w0 h0:Int) (hb:1≤x0∧x0+w0≤23∧1≤y0∧y0+h0≤15) (hc:∀x y,x0≤x→x<x0+w0→y0≤y→y<y0+h0→c (y*24+x).toNat≠0) :
  ∀(n:Nat) (x y y':Int),n=(y' - y).natAbs→x0≤x→x<x0+w0→y0≤y→y<y0+h0→y0≤y'→y'<y0+h0→P (y*24+x).toNat→P (y'*24+x).toNat
 | 0,x,y,y',hn,_,_,_,_,_,_,hP=>by
  have:y'=y:=by omega
  rw [this];exact hP
 | n+1,x,y,y',hn,h1,h2,h3,h4,h5,h6,hP=>by
  by_cases hlt:y<y'
  ·refine Closed.colTo h x0 y0 w0 h0 hb hc n x (y+1) y' (by omega) h1 h2 (by omega) (by omega) h5 h6 ?_
   exact h.step (a:=(y*24+x).toNat) (by omega) (by omega) hP (hc _ _ h1 h2 (by omega) (by omega)) (by omega)
  ·refine Closed.colTo h x0 y0 w0 h0 hb hc n x (y - 1) y' (by omega) h1 h2 (by omega) (by omega) h5 h6 ?_
   exact h.step (a:=(y*24+x).toNat) (by omega) (by omega) hP (hc _ _ h1 h2 (by omega) (by omega)) (by omega)

theorem inRoom_at {d:Dice} (hd:Fair d) {k:Nat} {x y:Int} (h1:rx d k≤x) (h2:x<rx d k+rw d k) (h3:ry d k≤y) (h4:y<ry d k+rh d k):inRoom d k (y*24+x).toNat:=by
 have:=room_bd hd k
 unfold inRoom
 omega

theorem mid_in {d:Dice} (hd:Fair d) (k:Nat):rx d k≤mx d k∧mx d k<rx d k+rw d k∧ry d k≤my d k∧my d k<ry d k+rh d k:=by
 have:=room_bd hd k
 unfold mx my
 omega

theorem hangs {d:Dice} (hd:Fair d) {c:Nat→Int} (hz:∀i,i<384→(c i≠0↔dug d 5 i≠0)) {P:Nat→Prop} (hC:Closed c P) (hP:P (up d)) (i:Nat) (hi:i<384) (hc:c i≠0):P i:=by
 have hroomc:∀k,k<6→∀x y,rx d k≤x→x<rx d k+rw d k→ry d k≤y→y<ry d k+rh d k→c (y*24+x).toNat≠0:=by
  intro k hk x y h1 h2 h3 h4
  have hb:=room_bd hd k
  exact (hz _ (by omega)).2 ((dug_nz d 5 _).2 (.inl ⟨k,hk,inRoom_at hd h1 h2 h3 h4⟩))
 have hpathlt:∀k,∀i,path d k i→i<384:=by
  intro k
  have key:∀(n:Nat) (x y:Int),(1≤x∧x≤22)∧1≤y∧y≤14→∀i,onPath (mx d (k+1)) (my d (k+1)) (d ((k+1:Nat):Int) 4 2 == 0) n x y i→i<384:=by
   have ht:=mid_bd hd (k+1)
   intro n
   induction n with
   | zero =>
    intro x y hb i hi
    have hi':i=(y*24+x).toNat:=hi
    omega
   | succ n ih =>
    intro x y hb i hi
    rcases hi with rfl | hi
    ·omega
    ·exact ih _ _ (step_bd x y _ _ _ hb (by omega)) i hi
  have hb:=mid_bd hd k
  exact key _ _ _ (by omega)
 have hmids:∀k,k<6→P (my d k*24+mx d k).toNat∧(k<5→∀i,path d k i→P i):=by
  intro k
  induction k with
  | zero =>
   intro _
   have hb:=mid_bd hd 0
   have hb1:=mid_bd hd 1
   refine ⟨hP,fun h5 i hi=>?_⟩
   exact (Closed.along hC (mx d 1) (my d 1) (d ((1:Nat):Int) 4 2 == 0) (by omega) _ (mx d 0) (my d 0) rfl (by omega) hP (fun j hj=>(hz j (hpathlt 0 j hj)).2 ((dug_nz d 5 j).2 (.inr ⟨0,by omega,hj⟩)))).1 i hi
  | succ k ih =>
   intro hk
   obtain ⟨ih1,_⟩:=ih (by omega)
   have hb:=mid_bd hd k
   have hb1:=mid_bd hd (k+1)
   have hb2:=mid_bd hd (k+1+1)
   have hal:=Closed.along hC (mx d (k+1)) (my d (k+1)) (d ((k+1:Nat):Int) 4 2 == 0) (by omega) _ (mx d k) (my d k) rfl (by omega) ih1 (fun j hj=>(hz j (hpathlt k j hj)).2 ((dug_nz d 5 j).2 (.inr ⟨k,by omega,hj⟩)))
   have hPm:=hal.1 _ hal.2
   refine ⟨hPm,fun h5 i hi=>?_⟩
   exact (Closed.along hC (mx d (k+1+1)) (my d (k+1+1)) (d ((k+1+1:Nat):Int) 4 2 == 0) (by omega) _ (mx d (k+1)) (my d (k+1)) rfl (by omega) hPm (fun j hj=>(hz j (hpathlt (k+1) j hj)).2 ((dug_nz d 5 j).2 (.inr ⟨k+1,by omega,hj⟩)))).1 i hi
 rcases (dug_nz d 5 i).1 ((hz i hi).1 hc) with ⟨k,hk,hin⟩ | ⟨k,hk,hpa⟩
 ·have hb:=room_bd hd k
  have hm:=mid_in hd k
  have h0:=(hmids k hk).1
  unfold inRoom at hin
  have h1:=Closed.rowTo hC (rx d k) (ry d k) (rw d k) (rh d k) (by omega) (hroomc k hk) _ (mx d k) (my d k) ((i % 24:Nat):Int) rfl hm.1 hm.2.1 hin.1 hin.2.1 hm.2.2.1 hm.2.2.2 h0
  have h2:=Closed.colTo hC (rx d k) (ry d k) (rw d k) (rh d k) (by omega) (hroomc k hk) _ ((i % 24:Nat):Int) (my d k) ((i / 24:Nat):Int) rfl hin.1 hin.2.1 hm.2.2.1 hm.2.2.2 hin.2.2.1 hin.2.2.2 h1
  rwa [show (((i / 24:Nat):Int)*24+((i % 24:Nat):Int)).toNat=i by omega] at h2
 ·exact (hmids k (by omega)).2 hk i hpa

end Gn

end Go.Proofs.Ytapgkgbpekkdjaa
