import Derived.Test.YtapgkgbpekkdjaaPart38
import Derived.Test.YtapgkgbpekkdjaaPart35
namespace Go.Proofs.Ytapgkgbpekkdjaa
open Go.RowKit

structure Ft.Stands (c:Nat→Int) (E:Nat→Nat→Int):Prop where
 on:∀k,k<32→E k 0≠0→0≤E k 3∧E k 3<24∧0≤E k 4∧E k 4<16∧Gr.walkB (c (E k 4*24+E k 3).toNat)=true
 apart:∀j k,j<32→k<32→E j 0≠0→E k 0≠0→E j 3=E k 3→E j 4=E k 4→j=k

structure Ft.Set (c:Nat→Int) (E:Nat→Nat→Int):Prop where
 born:Ft.Born E
 stands:Ft.Stands c E

def Ft.Room (c:Nat→Int) (E:Nat→Nat→Int) (q:Nat):Prop:=Gr.walkB (c q)=true∧En.first (En.atQ E ((q:Int) % 24) ((q:Int) / 24)) 32<0

structure Ft.MonAt (kd:Int) (q:Nat) (e:Nat→Int):Prop where
 mon:Ft.Mon kd e
 x:e 3=(q:Int) % 24
 y:e 4=(q:Int) / 24

theorem Ft.MonAt.ails {kd p r:Int} {q:Nat} {e:Nat→Int} (h:Ft.MonAt kd q e) (p0:0≤p) (p9:p≤9) (r0:0≤r) (r9:r≤9):Ft.MonAt kd q (En.upd (En.upd e 9 p) 10 r) :=
 ⟨h.mon.ails p0 p9 r0 r9,by rw [En.upd_other (by omega),En.upd_other (by omega)];exact h.x,by rw [En.upd_other (by omega),En.upd_other (by omega)];exact h.y⟩

theorem Ft.cell_num {q:Nat} (hq:q<384):0≤(q:Int) % 24∧(q:Int) % 24<24∧0≤(q:Int) / 24∧(q:Int) / 24<16∧((q:Int) / 24*24+(q:Int) % 24).toNat=q:=by omega

theorem Ft.room_none {E:Nat→Nat→Int} {x y:Int} (h:En.first (En.atQ E x y) 32<0):∀j,j<32→E j 0≠0→¬(E j 3=x∧E j 4=y):=by
 rcases En.first_cases (En.atQ E x y) 32 with ⟨_,hno⟩ | ⟨k,_,he,_⟩
 ·intro j hj h0 hxy
  have:=hno j hj
  simp [En.atQ,h0,hxy.1,hxy.2] at this
 ·omega

theorem Ft.Set.put {c:Nat→Int} {E:Nat→Nat→Int} (h:Ft.Set c E) {r q:Nat} {e:Nat→Int} {gn:Int} (_h0:E r 0=0) (hq:q<384) (hr:Ft.Room c E q) (hx:e 3=(q:Int) % 24) (hy:e 4=(q:Int) / 24) (he:e 6=En.stats (e 0) 6∧e 7=En.stats (e 0) 7∧e 8=En.stats (e 0) 8):Ft.Set c (En.put E r (En.gen e gn)):=by
 obtain ⟨n1,n2,n3,n4,n5⟩:=Ft.cell_num hq
 have hno:=Ft.room_none hr.2
 have e3:En.gen e gn 3=(q:Int) % 24:=hx
 have e4:En.gen e gn 4=(q:Int) / 24:=hy
 refine ⟨h.born.put he,⟨fun k hk k0=>?_,fun j k hj hk j0 k0 hx' hy'=>?_⟩⟩
 ·by_cases e':k=r
  ·subst e'
   rw [En.put_same,e3,e4,n5]
   exact ⟨n1,n2,n3,n4,hr.1⟩
  ·rw [En.put_other e'] at k0 ⊢
   exact h.stands.on k hk k0
 ·by_cases ej:j=r
  ·by_cases ek:k=r
   ·omega
   ·subst ej
    rw [En.put_same,En.put_other ek,e3] at hx'
    rw [En.put_same,En.put_other ek,e4] at hy'
    rw [En.put_other ek] at k0
    exact absurd ⟨hx'.symm,hy'.symm⟩ (hno k hk k0)
  ·by_cases ek:k=r
   ·subst ek
    rw [En.put_same,En.put_other ej,e3] at hx'
    rw [En.put_same,En.put_other ej,e4] at hy'
    rw [En.put_other ej] at j0
    exact absurd ⟨hx',hy'⟩ (hno j hj j0)
   ·rw [En.put_other ej,En.put_other ek] at hx' hy'
    rw [En.put_other ej] at j0
    rw [En.put_other ek] at k0
    exact h.stands.apart j k hj hk j0 k0 hx' hy'

theorem Ft.first_set {c:Nat→Int} {kc:Nat} (hkc:kc<384) (hkw:Gr.walkB (c kc)=true):Ft.Set c (En.put (fun _ _=>0) 1 (Gd.folk 0 kc 1)):=by
 obtain ⟨n1,n2,n3,n4,n5⟩:=Ft.cell_num hkc
 have one:∀k,En.put (fun _ _=>0) 1 (Gd.folk 0 kc 1) k 0≠0→k=1:=fun k h=>by
  by_cases e:k=1
  ·exact e
  ·rw [En.put_other e] at h
   exact absurd rfl h
 refine ⟨Ft.first_born kc,⟨fun k _ k0=>?_,fun j k _ _ j0 k0 _ _=>?_⟩⟩
 ·obtain rfl:=one k k0
  rw [En.put_same]
  show 0≤(kc:Int) % 24∧(kc:Int) % 24<24∧0≤(kc:Int) / 24∧(kc:Int) / 24<16∧Gr.walkB (c ((kc:Int) / 24*24+(kc:Int) % 24).toNat)=true
  rw [n5]
  exact ⟨n1,n2,n3,n4,hkw⟩
 ·rw [one j j0,one k k0]


open Go.RowKit

theorem Md.fine_of {c:Nat→Int} {E I:Nat→Nat→Int} (hF:Ft.Fit c E I) (hS:Ft.Set c E):Md.Fine E:=fun k hk k0=>by
 obtain ⟨a,b,d,e,_⟩:=hS.stands.on k hk k0
 have ht:=(hF.rows k hk).taken k0
 exact ⟨a,b,d,e,by omega,by omega⟩

theorem Md.good_fit {c:Nat→Int} {E I:Nat→Nat→Int} (hF:Ft.Fit c E I) (hS:Ft.Set c E):Md.Good c E I :=
 Md.good_of (Md.fine_of hF hS) (fun k hk=>⟨⟨(hF.rows k hk).1,(hF.rows k hk).2.1⟩,fun k0=>by
  rcases (hF.rows k hk).2.2 with hz | ht
  ·exact ⟨hz 3 (by omega) (by omega),hz 4 (by omega) (by omega)⟩
  ·omega⟩) hF.ok

end Go.Proofs.Ytapgkgbpekkdjaa
