import Derived.Test.YtepppmepilffcaaGreatPw20
namespace Go.Proofs.YtepppmepilffcaaGreat
open Go.RowKit

def Sn.sameE (e f:Nat→Int):Bool:=decide (e 0=f 0) && (decide (e 1=f 1) && (decide (e 2=f 2) && (decide (e 3=f 3) && (decide (e 4=f 4) && (decide (e 5=f 5) && (decide (e 6=f 6) && (decide (e 7=f 7) && (decide (e 8=f 8) && (decide (e 9=f 9) && decide (e 10=f 10))))))))))

def Sn.sameI (e f:Nat→Int):Bool:=decide (e 0=f 0) && (decide (e 1=f 1) && (decide (e 2=f 2) && decide (e 3=f 3)))

theorem Sn.sameE_iff (e f:Nat→Int):Sn.sameE e f=true↔∀j,j<11→e j=f j:=by
 unfold Sn.sameE
 simp only [Bool.and_eq_true,decide_eq_true_eq]
 constructor
 ·rintro ⟨h0,h1,h2,h3,h4,h5,h6,h7,h8,h9,h10⟩ j hj
  rcases (show j=0∨j=1∨j=2∨j=3∨j=4∨j=5∨j=6∨j=7∨j=8∨j=9∨j=10 by omega) with rfl | rfl | rfl | rfl | rfl | rfl | rfl | rfl | rfl | rfl | rfl <;> assumption
 ·intro h
  exact ⟨h 0 (by omega),h 1 (by omega),h 2 (by omega),h 3 (by omega),h 4 (by omega),h 5 (by omega),h 6 (by omega),h 7 (by omega),h 8 (by omega),h 9 (by omega),h 10 (by omega)⟩

theorem Sn.sameI_iff (e f:Nat→Int):Sn.sameI e f=true↔∀j,j<4→e j=f j:=by
 unfold Sn.sameI
 simp only [Bool.and_eq_true,decide_eq_true_eq]
 constructor
 ·rintro ⟨h0,h1,h2,h3⟩ j hj
  rcases (show j=0∨j=1∨j=2∨j=3 by omega) with rfl | rfl | rfl | rfl <;> assumption
 ·intro h
  exact ⟨h 0 (by omega),h 1 (by omega),h 2 (by omega),h 3 (by omega)⟩

set_option maxHeartbeats 1600000 in
theorem run_ne_ent (e f:Nat→Int) (w:World):(binOp .neq 61 (.agg #[.int .i64 (e 0),.int .i64 (e 1),.int .i64 (e 2),.int .i64 (e 3),.int .i64 (e 4),.int .i64 (e 5),.int .i64 (e 6),.int .i64 (e 7),.int .i64 (e 8),.int .i64 (e 9),.int .i64 (e 10)]) (.agg #[.int .i64 (f 0),.int .i64 (f 1),.int .i64 (f 2),.int .i64 (f 3),.int .i64 (f 4),.int .i64 (f 5),.int .i64 (f 6),.int .i64 (f 7),.int .i64 (f 8),.int .i64 (f 9),.int .i64 (f 10)])).run Tryz.prog w=.ok (.bool (!Sn.sameE e f)) w:=by
 unfold Sn.sameE
 by_cases h0:e 0=f 0
 ·by_cases h1:e 1=f 1
  ·by_cases h2:e 2=f 2
   ·by_cases h3:e 3=f 3
    ·by_cases h4:e 4=f 4
     ·by_cases h5:e 5=f 5
      ·by_cases h6:e 6=f 6
       ·by_cases h7:e 7=f 7
        ·by_cases h8:e 8=f 8
         ·by_cases h9:e 9=f 9
          ·by_cases h10:e 10=f 10
           ·simp [go_sem,h0,h1,h2,h3,h4,h5,h6,h7,h8,h9,h10]
           ·simp [go_sem,h0,h1,h2,h3,h4,h5,h6,h7,h8,h9,h10]
          ·simp [go_sem,h0,h1,h2,h3,h4,h5,h6,h7,h8,h9]
         ·simp [go_sem,h0,h1,h2,h3,h4,h5,h6,h7,h8]
        ·simp [go_sem,h0,h1,h2,h3,h4,h5,h6,h7]
       ·simp [go_sem,h0,h1,h2,h3,h4,h5,h6]
      ·simp [go_sem,h0,h1,h2,h3,h4,h5]
     ·simp [go_sem,h0,h1,h2,h3,h4]
    ·simp [go_sem,h0,h1,h2,h3]
   ·simp [go_sem,h0,h1,h2]
  ·simp [go_sem,h0,h1]
 ·simp [go_sem,h0]


open Go.RowKit

structure Ft.Stands (c:Nat→Int) (E:Nat→Nat→Int):Prop where
 on:∀k,k<32→E k 0≠0→0≤E k 3∧E k 3<24∧0≤E k 4∧E k 4<16∧Gr.walkB (c (E k 4*24+E k 3).toNat)=true
 apart:∀j k,j<32→k<32→E j 0≠0→E k 0≠0→E j 3=E k 3→E j 4=E k 4→j=k

structure Ft.Set (c:Nat→Int) (E:Nat→Nat→Int):Prop where
 born:Ft.Born E
 stands:Ft.Stands c E

def Ft.Room (c:Nat→Int) (E:Nat→Nat→Int) (q:Nat):Prop:=Gr.walkB (c q)=true∧En.first (En.atQ E ((q:Int) % 24) ((q:Int) / 24)) 32<0

theorem Ft.cell_num {q:Nat} (hq:q<384):0≤(q:Int) % 24∧(q:Int) % 24<24∧0≤(q:Int) / 24∧(q:Int) / 24<16∧((q:Int) / 24*24+(q:Int) % 24).toNat=q:=by omega

theorem Ft.room_none {E:Nat→Nat→Int} {x y:Int} (h:En.first (En.atQ E x y) 32<0):∀j,j<32→E j 0≠0→¬(E j 3=x∧E j 4=y):=by
 rcases En.first_cases (En.atQ E x y) 32 with ⟨_,hno⟩ | ⟨k,_,he,_⟩
 ·intro j hj h0 hxy
  have:=hno j hj
  simp [En.atQ,h0,hxy.1,hxy.2] at this
 ·omega

theorem Ft.Set.put {c:Nat→Int} {E:Nat→Nat→Int} (h:Ft.Set c E) {r q:Nat} {e:Nat→Int} {gn:Int} (_h0:E r 0=0) (hq:q<384) (hr:Ft.Room c E q) (hx:e 3=(q:Int) % 24) (hy:e 4=(q:Int) / 24) (he:e 6=En.stats (e 0) 6∧e 7=En.stats (e 0) 7∧e 8=En.stats (e 0) 8):Ft.Set c (En.put E r (En.gen e gn)):=by
 obtain ⟨n1,n2,n3,n4,n5⟩:=Ft.cell_num hq
 have hno:=Ft.room_none hr.2
 have e3:En.gen e gn 3=(q:Int) % 24:=hx
 have e4:En.gen e gn 4=(q:Int) / 24:=hy
 refine ⟨h.born.put he,⟨fun k hk k0=>?_,fun j k hj hk j0 k0 hx' hy'=>?_⟩⟩
 ·by_cases e':k=r
  ·subst e'
   rw [En.put_same,e3,e4,n5]
   exact ⟨n1,n2,n3,n4,hr.1⟩
  ·rw [En.put_other e'] at k0 ⊢
   exact h.stands.on k hk k0
 ·by_cases ej:j=r
  ·by_cases ek:k=r
   ·omega
   ·subst ej
    rw [En.put_same,En.put_other ek,e3] at hx'
    rw [En.put_same,En.put_other ek,e4] at hy'
    rw [En.put_other ek] at k0
    exact absurd ⟨hx'.symm,hy'.symm⟩ (hno k hk k0)
  ·by_cases ek:k=r
   ·subst ek
    rw [En.put_same,En.put_other ej,e3] at hx'
    rw [En.put_same,En.put_other ej,e4] at hy'
    rw [En.put_other ej] at j0
    exact absurd ⟨hx',hy'⟩ (hno j hj j0)
   ·rw [En.put_other ej,En.put_other ek] at hx' hy'
    rw [En.put_other ej] at j0
    rw [En.put_other ek] at k0
    exact h.stands.apart j k hj hk j0 k0 hx' hy'


open Go.RowKit

theorem Nv.reach_walk {f t:Nat→Int} {tlen blen:Nat} {g:Nat→Bool} {F:Nat→Int} (h:Gr.IsField (fun i=>Gr.openB f blen g i=true) (Gr.tgt f t tlen) F) {p:Nat} (hp:p<384) (h0:0≤F p):Gr.walkB (f p)=true:=by
 by_cases e:F p=0
 ·exact ((h.zero p hp).1 e).1
 ·have ho:=(h.back p hp (by omega)).1
  by_cases hw:Gr.walkB (f p)=true
  ·exact hw
  ·rw [Bool.not_eq_true] at hw
   rw [Gr.open_no hw] at ho
   cases ho

theorem Nv.Floor.all {cs:Nat→Int} (hf:Nv.Floor cs) {H:Nat→Int} {b:Nat} (hb:b<384) (hcb:cs b≠0) (h:Gr.IsField (fun i=>Gr.openB cs 0 (fun _=>false) i=true) (Gr.tgt cs (fun _=>(b:Int)) 1) H) (i:Nat) (hi:i<384) (hci:cs i≠0):0≤H i:=by
 have hw:∀j,cs j≠0→Gr.walkB (cs j)=true:=fun j hj=>(Gn.walk_nz (hf.five j)).2 hj
 refine hf.hang (fun j=>0≤H j) ?_ b hb hcb ?_ i hi hci
 ·intro j e hj he hP hn hc
  exact (h.fwd j hj hP e he hn (by show Gr.openB cs 0 (fun _=>false) _=true;exact Gr.open_past (hw _ hc) (by omega))).1
 ·have:H b=0:=(h.zero b hb).2 ⟨hw b hcb,0,by omega,rfl⟩
  show 0≤H b
  omega

theorem Md.at_stand {c:Nat→Int} {E:Nat→Nat→Int} (hS:Ft.Stands c E) {k:Nat} (hk:k<32) (k0:E k 0≠0):Gr.walkB (Gr.at 384 c (E k 3) (E k 4))=true:=by
 obtain ⟨a1,a2,a3,a4,a5⟩:=hS.on k hk k0
 unfold Gr.at
 rw [if_pos ⟨(Gr.inB_iff _ _).2 (by omega),by omega⟩]
 exact a5


open Go.RowKit

theorem Md.fine_of {c:Nat→Int} {E I:Nat→Nat→Int} (hF:Ft.Fit c E I) (hS:Ft.Set c E):Md.Fine E:=fun k hk k0=>by
 obtain ⟨a,b,d,e,_⟩:=hS.stands.on k hk k0
 have ht:=(hF.rows k hk).taken k0
 exact ⟨a,b,d,e,by omega,by omega⟩

theorem Md.good_fit {c:Nat→Int} {E I:Nat→Nat→Int} (hF:Ft.Fit c E I) (hS:Ft.Set c E):Md.Good c E I :=
 Md.good_of (Md.fine_of hF hS) (fun k hk=>⟨⟨(hF.rows k hk).1,(hF.rows k hk).2.1⟩,fun k0=>by
  rcases (hF.rows k hk).2.2 with hz | ht
  ·exact ⟨hz 3 (by omega) (by omega),hz 4 (by omega) (by omega)⟩
  ·omega⟩) hF.ok


open Go.RowKit

def Cr.Less (E F:Nat→Nat→Int):Prop:=∀k,k<32→F k 0=0∨(F k 0=E k 0∧F k 2=E k 2∧F k 3=E k 3∧F k 4=E k 4∧F k 6=E k 6∧F k 7=E k 7∧F k 8=E k 8)

theorem Cr.Less.refl (E:Nat→Nat→Int):Cr.Less E E:=fun _ _=>.inr ⟨rfl,rfl,rfl,rfl,rfl,rfl,rfl⟩

theorem Cr.Less.trans {E F G:Nat→Nat→Int} (h:Cr.Less E F) (h':Cr.Less F G):Cr.Less E G:=fun k hk=>by
 rcases h' k hk with h0 | ⟨g0,g2,g3,g4,g6,g7,g8⟩
 ·exact .inl h0
 ·rcases h k hk with f0 | ⟨f0,f2,f3,f4,f6,f7,f8⟩
  ·exact .inl (g0.trans f0)
  ·exact .inr ⟨g0.trans f0,g2.trans f2,g3.trans f3,g4.trans f4,g6.trans f6,g7.trans f7,g8.trans f8⟩

theorem Cr.Less.hole (E:Nat→Nat→Int) (k:Nat) (n:Int):Cr.Less E (En.put E k (En.hole n)):=fun i hi=>by
 by_cases e:i=k
 ·rw [e,En.put_same]
  exact .inl rfl
 ·rw [En.put_other e]
  exact Cr.Less.refl E i hi

theorem Cr.Less.set (E:Nat→Nat→Int) (k j:Nat) (v:Int) (hj:j=5∨j=9∨j=10):Cr.Less E (Gd.set E k j v):=fun i _=>by
 have h:∀l,l≠5→l≠9→l≠10→Gd.set E k j v i l=E i l:=fun l h5 h9 h10=>if_neg (by omega)
 exact .inr ⟨h 0 (by omega) (by omega) (by omega),h 2 (by omega) (by omega) (by omega),h 3 (by omega) (by omega) (by omega),h 4 (by omega) (by omega) (by omega),h 6 (by omega) (by omega) (by omega),h 7 (by omega) (by omega) (by omega),h 8 (by omega) (by omega) (by omega)⟩

theorem Cr.Less.hurt (E:Nat→Nat→Int) (k:Nat) (n:Int):Cr.Less E (Ft.hurtE E k n):=by
 unfold Ft.hurtE
 split
 ·exact Cr.Less.set E k 5 _ (.inl rfl)
 ·exact Cr.Less.hole E k _

theorem Cr.Less.leave (s:Nat→Int) (E:Nat→Nat→Int) (f t:Nat):Cr.Less E (Ft.leaveE s E f t):=by
 unfold Ft.leaveE
 split
 ·exact Cr.Less.set E t 9 _ (.inr (.inl rfl))
 ·split
  ·exact Cr.Less.set E t 10 _ (.inr (.inr rfl))
  ·exact Cr.Less.refl E

theorem Cr.Less.hit (s:Nat→Int) (E I:Nat→Nat→Int) (f t:Int):Cr.Less E (Ft.hitE s E I f t):=by
 unfold Ft.hitE
 split
 ·unfold Ft.blowE
  split
  ·exact (Cr.Less.hurt E _ _).trans (Cr.Less.leave s _ _ _)
  ·exact Cr.Less.hurt E _ _
 ·exact Cr.Less.refl E

theorem Cr.Less.one (E:Nat→Nat→Int) (k:Nat):Cr.Less E (Ft.oneE E k):=by
 have hst:Cr.Less E (Ft.stunE E k):=by
  unfold Ft.stunE
  split
  ·exact Cr.Less.set E k 10 _ (.inr (.inr rfl))
  ·exact Cr.Less.refl E
 unfold Ft.oneE
 split
 ·exact (hst.trans (Cr.Less.set _ k 9 _ (.inr (.inl rfl)))).trans (Cr.Less.hurt _ _ _)
 ·exact hst

theorem Cr.Less.ail (E I:Nat→Nat→Int):∀n,Cr.Less E (Ft.ailE E I n).1
 | 0=>Cr.Less.refl E
 | n+1=>by
  unfold Ft.ailE
  split
  ·exact (Cr.Less.ail E I n).trans (Cr.Less.one _ _)
  ·exact Cr.Less.ail E I n

theorem Cr.Less.next (E I:Nat→Nat→Int) (seat input:Int):Cr.Less E (Gd.nextE E I seat input):=by
 unfold Gd.nextE
 split
 ·unfold Gd.entsOf
  split
  ·exact (Cr.Less.set E _ 5 _ (.inl rfl)).trans (Cr.Less.set _ _ 9 _ (.inr (.inl rfl)))
  ·exact Cr.Less.refl E
 ·exact Cr.Less.refl E

structure Cr.Seats (E:Nat→Nat→Int):Prop where
 seat:∀k,k<32→E k 0=1→0≤E k 2∧E k 2<4
 one:∀j k,j<32→k<32→E j 0=1→E k 0=1→E j 2=E k 2→j=k
 none:∀k,k<32→E k 0≠0→E k 0≠1→E k 2=0

structure Cr.Sane (c:Nat→Int) (E I:Nat→Nat→Int):Prop where
 fit:Ft.Fit c E I
 set:Ft.Set c E
 seats:Cr.Seats E

theorem Cr.Less.seats {E F:Nat→Nat→Int} (h:Cr.Less E F) (hs:Cr.Seats E):Cr.Seats F:=by
 refine ⟨fun k hk k1=>?_,fun j k hj hk j1 k1 he=>?_,fun k hk k0 k1=>?_⟩
 ·rcases h k hk with h0 | ⟨f0,f2,_⟩
  ·omega
  ·rw [f2];exact hs.seat k hk (by omega)
 ·rcases h j hj with h0 | ⟨f0,f2,_⟩
  ·omega
  ·rcases h k hk with h0' | ⟨g0,g2,_⟩
   ·omega
   ·exact hs.one j k hj hk (by omega) (by omega) (by omega)
 ·rcases h k hk with h0 | ⟨f0,f2,_⟩
  ·omega
  ·rw [f2];exact hs.none k hk (by omega) (by omega)

theorem Cr.Less.sets {c:Nat→Int} {E F:Nat→Nat→Int} (h:Cr.Less E F) (hs:Ft.Set c E):Ft.Set c F:=by
 refine ⟨fun k hk k0=>?_,⟨fun k hk k0=>?_,fun j k hj hk j0 k0 hx hy=>?_⟩⟩
 ·rcases h k hk with h0 | ⟨f0,_,_,_,f6,f7,f8⟩
  ·exact absurd h0 k0
  ·rw [f0,f6,f7,f8];exact hs.born k hk (by omega)
 ·rcases h k hk with h0 | ⟨f0,_,f3,f4,_⟩
  ·exact absurd h0 k0
  ·rw [f3,f4];exact hs.stands.on k hk (by omega)
 ·rcases h j hj with h0 | ⟨f0,_,f3,f4,_⟩
  ·exact absurd h0 j0
  ·rcases h k hk with h0' | ⟨g0,_,g3,g4,_⟩
   ·exact absurd h0' k0
   ·exact hs.stands.apart j k hj hk (by omega) (by omega) (by omega) (by omega)

theorem Cr.Sane.less {c:Nat→Int} {E F I J:Nat→Nat→Int} (h:Cr.Sane c E I) (hl:Cr.Less E F) (hF:Ft.Fit c F J):Cr.Sane c F J :=
 ⟨hF,hl.sets h.set,hl.seats h.seats⟩

theorem Cr.Sane.hit {c:Nat→Int} {E I:Nat→Nat→Int} (h:Cr.Sane c E I) (s:Nat→Int) (f t:Int):Cr.Sane c (Ft.hitE s E I f t) (Ft.hitI s E I f t) :=
 h.less (Cr.Less.hit s E I f t) (h.fit.hit s f t)

theorem Cr.Sane.good {c:Nat→Int} {E I:Nat→Nat→Int} (h:Cr.Sane c E I):Md.Good c E I:=Md.good_fit h.fit h.set

def Cr.Gold (g:Nat→Int):Prop:=∀t,t<4→0≤g t∧g t≤999

theorem Cr.Sane.fine {c g:Nat→Int} {E I:Nat→Nat→Int} (h:Cr.Sane c E I) (hg:Cr.Gold g):Gd.Fine c g E I :=
 ⟨h.fit.cells,hg,fun k hk=>by
  rcases (h.fit.rows k hk).2.2 with hz | ht
  ·rw [hz 5 (by omega) (by omega)];omega
  ·omega,h.fit.ok⟩

def Cr.go (E:Nat→Nat→Int) (k:Nat) (x y:Int):Nat→Nat→Int:=Gd.set (Gd.set E k 3 x) k 4 y

theorem Cr.go_row (E:Nat→Nat→Int) {k i:Nat} (x y:Int) (h:i≠k):Cr.go E k x y i=E i:=by
 unfold Cr.go
 rw [Ft.set_row _ _ _ _ _ h,Ft.set_row _ _ _ _ _ h]

theorem Cr.go_at (E:Nat→Nat→Int) (k:Nat) (x y:Int) (j:Nat):Cr.go E k x y k j=if j=4 then y else if j=3 then x else E k j:=by
 unfold Cr.go Gd.set
 by_cases h4:j=4
 ·rw [if_pos ⟨rfl,h4⟩,if_pos h4]
 ·rw [if_neg (fun h=>h4 h.2),if_neg h4]
  by_cases h3:j=3
  ·rw [if_pos ⟨rfl,h3⟩,if_pos h3]
  ·rw [if_neg (fun h=>h3 h.2),if_neg h3]

theorem Cr.Sane.go {c:Nat→Int} {E I:Nat→Nat→Int} (h:Cr.Sane c E I) {k:Nat} (hk:k<32) (k0:E k 0≠0) {x y:Int} (hin:Gr.inB x y=true) (hw:Gr.walkB (Gr.at 384 c x y)=true) (hno:En.first (En.atQ E x y) 32<0):Cr.Sane c (Cr.go E k x y) I:=by
 have hb:=(Gr.inB_iff _ _).1 hin
 have hno':=Ft.room_none hno
 have e:∀j,j≠3→j≠4→Cr.go E k x y k j=E k j:=fun j h3 h4=>by rw [Cr.go_at,if_neg h4,if_neg h3]
 have e3:Cr.go E k x y k 3=x:=by rw [Cr.go_at,if_neg (by omega),if_pos rfl]
 have e4:Cr.go E k x y k 4=y:=by rw [Cr.go_at,if_pos rfl]
 have hw':Gr.walkB (c (y*24+x).toNat)=true:=by
  unfold Gr.at at hw
  rwa [if_pos ⟨hin,by omega⟩] at hw
 refine ⟨⟨h.fit.cells,h.fit.ok,fun i hi=>?_⟩,⟨fun i hi i0=>?_,⟨fun i hi i0=>?_,fun i j hi hj i0 j0 hx hy=>?_⟩⟩,⟨fun i hi i1=>?_,fun i j hi hj i1 j1 he=>?_,fun i hi i0 i1=>?_⟩⟩
 ·by_cases x':i=k
  ·rw [x']
   have ht:=(h.fit.rows k hk).taken k0
   refine ⟨by rw [e 1 (by omega) (by omega)];exact (h.fit.rows k hk).1,by rw [e 1 (by omega) (by omega)];exact (h.fit.rows k hk).2.1,.inr ?_⟩
   rw [e 0 (by omega) (by omega),e 5 (by omega) (by omega),e 6 (by omega) (by omega),e 7 (by omega) (by omega),e 8 (by omega) (by omega),e 9 (by omega) (by omega),e 10 (by omega) (by omega)]
   exact ht
  ·rw [Cr.go_row E x y x'];exact h.fit.rows i hi
 ·by_cases x':i=k
  ·rw [x',e 0 (by omega) (by omega),e 6 (by omega) (by omega),e 7 (by omega) (by omega),e 8 (by omega) (by omega)]
   exact h.set.born k hk k0
  ·rw [Cr.go_row E x y x'] at i0 ⊢;exact h.set.born i hi i0
 ·by_cases x':i=k
  ·rw [x',e3,e4]
   exact ⟨hb.1,hb.2.1,hb.2.2.1,hb.2.2.2,hw'⟩
  ·rw [Cr.go_row E x y x'] at i0 ⊢;exact h.set.stands.on i hi i0
 ·by_cases xi:i=k
  ·by_cases xj:j=k
   ·omega
   ·subst xi
    rw [e3,Cr.go_row E x y xj] at hx
    rw [e4,Cr.go_row E x y xj] at hy
    rw [Cr.go_row E x y xj] at j0
    exact absurd ⟨hx.symm,hy.symm⟩ (hno' j hj j0)
  ·by_cases xj:j=k
   ·subst xj
    rw [e3,Cr.go_row E x y xi] at hx
    rw [e4,Cr.go_row E x y xi] at hy
    rw [Cr.go_row E x y xi] at i0
    exact absurd ⟨hx,hy⟩ (hno' i hi i0)
   ·rw [Cr.go_row E x y xi] at i0 hx hy
    rw [Cr.go_row E x y xj] at j0 hx hy
    exact h.set.stands.apart i j hi hj i0 j0 hx hy
 ·by_cases x':i=k
  ·rw [x',e 0 (by omega) (by omega)] at i1
   rw [x',e 2 (by omega) (by omega)]
   exact h.seats.seat k hk i1
  ·rw [Cr.go_row E x y x'] at i1 ⊢;exact h.seats.seat i hi i1
 ·have f0:∀i,Cr.go E k x y i 0=E i 0:=fun i=>by
   by_cases x':i=k
   ·rw [x',e 0 (by omega) (by omega)]
   ·rw [Cr.go_row E x y x']
  have f2:∀i,Cr.go E k x y i 2=E i 2:=fun i=>by
   by_cases x':i=k
   ·rw [x',e 2 (by omega) (by omega)]
   ·rw [Cr.go_row E x y x']
  rw [f0] at i1 j1
  rw [f2,f2] at he
  exact h.seats.one i j hi hj i1 j1 he
 ·by_cases x':i=k
  ·rw [x',e 0 (by omega) (by omega)] at i0 i1
   rw [x',e 2 (by omega) (by omega)]
   exact h.seats.none k hk i0 i1
  ·rw [Cr.go_row E x y x'] at i0 i1 ⊢;exact h.seats.none i hi i0 i1

def Cr.who (E:Nat→Nat→Int) (k:Nat) (d:Int):Int:=En.first (En.atQ E (E k 3+(Fx.way d).1) (E k 4+(Fx.way d).2)) 32

def Cr.act (s c:Nat→Int) (E I:Nat→Nat→Int) (k:Nat) (d:Int) (foe:Bool):(Nat→Nat→Int) × (Nat→Nat→Int) :=
 if d<1∨4<d then (E,I)
 else if 0≤Cr.who E k d then (if decide (E (Cr.who E k d).toNat 0=1)=foe then (Ft.hitE s E I (k:Int) (Cr.who E k d),Ft.hitI s E I (k:Int) (Cr.who E k d)) else (E,I))
 else if Gr.walkB (Gr.at 384 c (E k 3+(Fx.way d).1) (E k 4+(Fx.way d).2))=true then (Cr.go E k (E k 3+(Fx.way d).1) (E k 4+(Fx.way d).2),I) else (E,I)

theorem Cr.walk_in {c:Nat→Int} {x y:Int} (h:Gr.walkB (Gr.at 384 c x y)=true):Gr.inB x y=true:=by
 by_cases hi:Gr.inB x y=true
 ·exact hi
 ·unfold Gr.at at h
  rw [if_neg (fun hh=>hi hh.1)] at h
  cases h

theorem Cr.Sane.act {s c:Nat→Int} {E I:Nat→Nat→Int} (h:Cr.Sane c E I) {k:Nat} (hk:k<32) (k0:E k 0≠0) (d:Int) (foe:Bool):Cr.Sane c (Cr.act s c E I k d foe).1 (Cr.act s c E I k d foe).2:=by
 unfold Cr.act
 split
 ·exact h
 ·split
  ·split
   ·exact h.hit s _ _
   ·exact h
  ·split
   ·rename_i _ hn hw
    exact h.go hk k0 (Cr.walk_in hw) hw (by unfold Cr.who at hn;omega)
   ·exact h

def Cr.join (E:Nat→Nat→Int) (e:Nat→Int):Nat→Nat→Int:=if 0≤En.first (En.freeQ E) 32 then En.put E (En.first (En.freeQ E) 32).toNat (En.gen e ((E (En.first (En.freeQ E) 32).toNat 1+1) % 256)) else E

def Cr.one (kd st:Int) (q:Nat):Nat→Int:=En.upd (En.upd (En.upd (En.stats kd) 2 st) 3 ((q:Int) % 24)) 4 ((q:Int) / 24)

theorem Cr.join_cases (E:Nat→Nat→Int) (e:Nat→Int):Cr.join E e=E∨∃f:Nat,f<32∧E f 0=0∧(∀j,j<f→E j 0≠0)∧Cr.join E e=En.put E f (En.gen e ((E f 1+1) % 256)):=by
 unfold Cr.join
 rcases En.first_cases (En.freeQ E) 32 with ⟨he,_⟩ | ⟨f,hf,he,hq,hno⟩
 ·rw [he,if_neg (by omega)];exact .inl rfl
 ·rw [he,if_pos (by omega),Int.toNat_natCast]
  exact .inr ⟨f,hf,by simpa [En.freeQ] using hq,fun j hj=>by simpa [En.freeQ] using hno j hj,rfl⟩


open Go.RowKit

theorem Md.ok_none (c:Nat→Int):Gd.Ok c 40 (fun _ _=>0):=⟨fun _ _=>.inl ⟨rfl,rfl,rfl,rfl⟩,fun _ _ _ _ _ h=>absurd rfl h⟩

theorem Md.way_some {d:Nat} (h1:1≤d) (h4:d≤4) (x y:Int):¬(x+(Fx.way (d:Int)).1=x∧y+(Fx.way (d:Int)).2=y):=by
 rcases (show d=1∨d=2∨d=3∨d=4 by omega) with rfl | rfl | rfl | rfl
 ·show ¬(x+0=x∧y+(-1)=y);omega
 ·show ¬(x+1=x∧y+0=y);omega
 ·show ¬(x+0=x∧y+1=y);omega
 ·show ¬(x+(-1)=x∧y+0=y);omega

theorem Md.num_cell {m:Nat} (h:m<384):Nv.num ((m:Int) % 24) ((m:Int) / 24)=(m:Int):=by
 unfold Nv.num
 rw [if_pos ((Gr.inB_iff _ _).2 (by omega))]
 omega

theorem Md.set_at (E:Nat→Nat→Int) (k j:Nat) (v:Int):Gd.set E k j v k j=v:=if_pos ⟨rfl,rfl⟩

theorem Md.set_else (E:Nat→Nat→Int) (k j:Nat) (v:Int) {i l:Nat} (h:¬(i=k∧l=j)):Gd.set E k j v i l=E i l:=if_neg h

end Go.Proofs.YtepppmepilffcaaGreat
