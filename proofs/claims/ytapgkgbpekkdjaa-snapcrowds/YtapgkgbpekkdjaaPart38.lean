import Derived.Test.YtapgkgbpekkdjaaPart36
import Derived.Test.YtapgkgbpekkdjaaPart37
namespace Go.Proofs.Ytapgkgbpekkdjaa
open Go.RowKit

def En.upd (e:Nat→Int) (j:Nat) (v:Int):Nat→Int:=fun l=>if l=j then v else e l

theorem En.upd_same (e:Nat→Int) (j:Nat) (v:Int):En.upd e j v j=v:=if_pos rfl
theorem En.upd_other {e:Nat→Int} {j l:Nat} {v:Int} (h:l≠j):En.upd e j v l=e l:=if_neg h

theorem Lie.upd {x:World} {Q:Nat} {T:TypeId} {e:Nat→Int} (h:Lie x Q T 11 (Ints e)) (j:Nat) (v:Int):Lie (x.setCell ⟨Q,j,none⟩ (.int .i64 v)) Q T 11 (Ints (En.upd e j v)):=by
 refine (h.store j (.int .i64 v)).congr fun l _=>?_
 unfold Ints En.upd
 split <;> rfl

theorem Lie.ent {x:World} {Q:Nat} {T:TypeId} {e:Nat→Int} (h:Lie x Q T 11 (Ints e)):x.cell? ⟨Q,0,none⟩=some (.int .i64 (e 0))∧x.cell? ⟨Q,1,none⟩=some (.int .i64 (e 1))∧x.cell? ⟨Q,2,none⟩=some (.int .i64 (e 2))∧x.cell? ⟨Q,3,none⟩=some (.int .i64 (e 3))∧x.cell? ⟨Q,4,none⟩=some (.int .i64 (e 4))∧x.cell? ⟨Q,5,none⟩=some (.int .i64 (e 5))∧x.cell? ⟨Q,6,none⟩=some (.int .i64 (e 6))∧x.cell? ⟨Q,7,none⟩=some (.int .i64 (e 7))∧x.cell? ⟨Q,8,none⟩=some (.int .i64 (e 8))∧x.cell? ⟨Q,9,none⟩=some (.int .i64 (e 9))∧x.cell? ⟨Q,10,none⟩=some (.int .i64 (e 10)) :=
 ⟨h.cell (by omega),h.cell (by omega),h.cell (by omega),h.cell (by omega),h.cell (by omega),h.cell (by omega),h.cell (by omega),h.cell (by omega),h.cell (by omega),h.cell (by omega),h.cell (by omega)⟩

theorem Lie.born (x:World) (e:Nat→Int) (T:TypeId):Lie (x.alloc (.cells (En.cells e) T)) x.heap.size T 11 (Ints e) :=
 Lie.congr (m:=11) (Arr.lit (heap_alloc_new x (.cells (En.cells e) T))).lie fun j hj=>by
  rcases (show j=0∨j=1∨j=2∨j=3∨j=4∨j=5∨j=6∨j=7∨j=8∨j=9∨j=10 by omega) with rfl | rfl | rfl | rfl | rfl | rfl | rfl | rfl | rfl | rfl | rfl <;> rfl

def Ft.tick (s:Nat→Int) (v:Int):Nat→Int:=fun j=>if j=1 then v else s j

theorem Gd.Law.tick {w x:World} {T gC gE gI cC cE cI:Nat} {s g c:Nat→Int} {E I:Nat→Nat→Int} (h:Gd.Law w x T gC gE gI cC cE cI s g c E I) (v:Int):Gd.Law w (x.setCell ⟨T,1,none⟩ (.int .i64 v)) T gC gE gI cC cE cI (Ft.tick s v) g c E I:=by
 have hb:Lie (x.setCell ⟨T,1,none⟩ (.int .i64 v)) T 29 11 (Gd.box (Ft.tick s v) gC gE gI cC cE cI g):=(h.hold.box.store 1 (.int .i64 v)).congr fun j hj=>by
  rcases (show j=0∨j=1∨j=2∨j=3∨j=4∨j=5∨j=6∨j=7∨j=8∨j=9∨j=10 by omega) with rfl | rfl | rfl | rfl | rfl | rfl | rfl | rfl | rfl | rfl | rfl <;> rfl
 exact { h with hold:={ h.hold with box:=hb,lists:=⟨h.hold.lists.cells.other h.hold.bC _ _,h.hold.lists.ents.other h.hold.bE _ _,h.hold.lists.items.other h.hold.bI _ _⟩ },grown:=gsr h.grown ⟨T,1,none⟩ h.lT _ }

theorem Gd.Law.folk {w x x':World} {T gC gE gI cC cE cI jE dE:Nat} {s g c:Nat→Int} {E I F:Nat→Nat→Int} (h:Gd.Law w x T gC gE gI cC cE cI s g c E I) (hcap:32≤dE) (l2:x.heap.size≤jE) (hO:Own x' jE 32 F) (hg:x.grownBy x' none) :
  Gd.Law w (x'.setCell ⟨T,5,none⟩ (.slice (some ⟨jE,0,none⟩) 32 dE)) T gC jE gI cC dE cI s g c F I:=by
 have h1:=h.hold.box.lt
 have h2:=h.hold.lists.cells.lt
 have h3:=h.hold.lists.items.lt
 have h4:=h.grown.size
 have r:=gs0 x' T 5 (.slice (some ⟨jE,0,none⟩) 32 dE)
 have hb:=((h.hold.box.on hg).store 5 (.slice (some ⟨jE,0,none⟩) 32 dE)).congr (Gd.box_5 s g gC gE gI cC cE cI jE dE)
 exact ⟨⟨hb,⟨(h.hold.lists.cells.on hg).grown r (by simpa using h.hold.bC),(hO.lie (m:=352) (by omega)).grown r (by simp;omega),(h.hold.lists.items.on hg).grown r (by simpa using h.hold.bI)⟩,h.hold.bC,by omega,h.hold.bI,by omega,h.hold.cI,by omega⟩,h.lT,by omega,h.lI,hcap,gsr (gtr h.grown hg) ⟨T,5,none⟩ h.lT _⟩

theorem Gd.Law.worlds {w x:World} {T R gC gE gI cC cE cI:Nat} {s g c:Nat→Int} {E I:Nat→Nat→Int} {F:Nat→Value} (h:Gd.Law w x T gC gE gI cC cE cI s g c E I) (lC:w.heap.size≤gC) (lR:w.heap.size≤R) (hR:Lie x R 29 11 F) (vs:List Value):Gd.Worlds w s g c E I (.returned (.agg (Gd.world s gC gE gI cC cE cI g))) (x.setCells R 0 vs):=by
 have r:=gss (g:=R) vs 0 x (World.grownBy.refl _ _)
 have n1:=hR.type_ne h.hold.lists.cells (by decide)
 have n2:=hR.type_ne h.hold.lists.ents (by decide)
 have n3:=hR.type_ne h.hold.lists.items (by decide)
 exact ⟨gC,gE,gI,cC,cE,cI,rfl,h.cap,lC,h.lE,h.lI,h.hold.cE,h.hold.cI,h.hold.eI,⟨h.hold.lists.cells.grown r (by simpa using n1),h.hold.lists.ents.grown r (by simpa using n2),h.hold.lists.items.grown r (by simpa using n3)⟩,own_sets lR vs 0 x h.grown⟩

theorem within8_any (a n:Int) (w:World) (hn:0<n) (hn2:n≤4611686018427387904) :
  Calls Try.prog 19 #[.int .i64 a,.int .i64 n] w fun e w'=>e=.returned (.int .i64 (a % n))∧w'=w:=by
 have t1:=Int.tmod_lt_of_pos a (b:=n) hn
 have t2:=Int.lt_tmod_of_pos a (b:=n) hn
 have hn0:(n == 0)=false:=by simp;omega
 by_cases h:a.tmod n<0
 ·have ha:¬0≤a:=by
   intro h0
   have:=Int.tmod_nonneg n h0
   omega
  have hd:=hide (Gr.within_neg a n hn h)
  go_enter Try.func19,Try.ntmps19
  go_wp2
  go_ret
  exact ⟨rti (uh hd),rfl⟩
 ·have hd:=hide (Gr.within_pos a n hn h)
  by_cases ha:0≤a
  ·have e:a.tmod n=a % n:=Int.tmod_eq_emod_of_nonneg ha
   have h':¬a % n<0:=by rw [←e];exact h
   clear h t1 t2 e
   go_enter Try.func19,Try.ntmps19
   go_wp2
   go_ret
   exact ⟨rfl,rfl⟩
  ·go_enter Try.func19,Try.ntmps19
   go_wp2
   go_ret
   exact ⟨rti (uh hd),rfl⟩

theorem En.stats_fit {k:Int} (h1:1≤k) (h4:k≤4):En.stats k 0=k∧En.stats k 1=0∧En.stats k 2=0∧En.stats k 3=0∧En.stats k 4=0∧En.stats k 5=En.stats k 6∧4≤En.stats k 6∧En.stats k 6≤20∧0≤En.stats k 7∧En.stats k 7≤5∧0≤En.stats k 8∧En.stats k 8≤1∧En.stats k 9=0∧En.stats k 10=0:=by
 rcases (show k=1∨k=2∨k=3∨k=4 by omega) with rfl | rfl | rfl | rfl <;> decide

theorem refSpawn_fit (b cp:Nat) (E:Nat→Nat→Int) (e:Nat→Int) (w:World) (hE:Ents w b 32 E) (h1:1≤e 0) (h4:e 0≤4) (hG:En.Gens 32 E) :
  Calls Try.prog 24 #[.slice (some ⟨b,0,none⟩) 32 cp,.agg (En.cells e)] w fun e' w'=>(∃r,r<32∧E r 0=0∧Spawns w 32 (En.put E r (En.gen e ((E r 1+1) % 256))) r e' w')∨((∀j,j<32→E j 0≠0)∧Says w (.tuple #[.slice none 0 0,.int .i64 0,.int .i64 5]) e' w'):=by
 rcases En.first_cases (En.freeQ E) 32 with ⟨_,hno⟩ | ⟨r,hr,_,hq,hno⟩
 ·refine (refSpawn_full b 32 cp E e w hE ⟨h1,h4⟩ hno).mono fun e' w' h=>.inr ⟨fun j hj=>?_,h⟩
  have:=hno j hj
  simpa [En.freeQ] using this
 ·have h0:E r 0=0:=by simpa [En.freeQ] using hq
  exact (refSpawn_some b 32 cp r E e w hE ⟨h1,h4⟩ hr h0 hno hG).mono fun e' w' h=>.inl ⟨r,hr,h0,h⟩

theorem Ft.Fit.gens {c:Nat→Int} {E I:Nat→Nat→Int} (h:Ft.Fit c E I):En.Gens 32 E:=fun i hi=>⟨(h.rows i hi).1,(h.rows i hi).2.1⟩

structure Ft.Mon (kd:Int) (e:Nat→Int):Prop where
 k:e 0=kd
 hp:1≤e 5
 hpm:e 5≤e 6
 m:e 6=En.stats kd 6
 atk:e 7=En.stats kd 7
 dfn:e 8=En.stats kd 8
 p0:0≤e 9
 p9:e 9≤9
 s0:0≤e 10
 s9:e 10≤9

theorem Ft.Mon.row {kd:Int} {e:Nat→Int} (h:Ft.Mon kd e) (h1:1≤kd) (h4:kd≤4) {gn:Int} (g0:0≤gn) (g9:gn≤255):Ft.Row (En.gen e gn):=by
 obtain ⟨_,_,_,_,_,_,f6,f6',f7,f7',f8,f8',_,_⟩:=En.stats_fit h1 h4
 obtain ⟨a1,a2,a3,a4,a5,a6,a7,a8,a9,a10⟩:=h
 refine ⟨g0,g9,.inr ?_⟩
 show 1≤e 0∧e 0≤4∧1≤e 5∧e 5≤e 6∧e 6≤20∧0≤e 7∧e 7≤5∧0≤e 8∧e 8≤1∧0≤e 9∧e 9≤9∧0≤e 10∧e 10≤9
 omega

theorem Ft.mon_of {kd sx X Y hp:Int} {st:Nat→Int} (hst:En.stats kd=st) (h1:1≤kd) (h4:kd≤4) (p1:1≤hp) (p2:hp≤st 6):Ft.Mon kd (En.upd (En.upd (En.upd (En.upd st 2 sx) 3 X) 4 Y) 5 hp):=by
 obtain ⟨f0,_,_,_,_,_,f6,f6',f7,f7',f8,f8',f9,f10⟩:=En.stats_fit h1 h4
 rw [hst] at f0 f6 f6' f7 f7' f8 f8' f9 f10
 have e:∀l,l≠2→l≠3→l≠4→l≠5→En.upd (En.upd (En.upd (En.upd st 2 sx) 3 X) 4 Y) 5 hp l=st l:=fun l a b c d=>by rw [En.upd_other d,En.upd_other c,En.upd_other b,En.upd_other a]
 exact ⟨by rw [e 0 (by omega) (by omega) (by omega) (by omega)];exact f0,by rw [En.upd_same];exact p1,by rw [En.upd_same,e 6 (by omega) (by omega) (by omega) (by omega)];exact p2,by rw [hst,e 6 (by omega) (by omega) (by omega) (by omega)],by rw [hst,e 7 (by omega) (by omega) (by omega) (by omega)],by rw [hst,e 8 (by omega) (by omega) (by omega) (by omega)],by rw [e 9 (by omega) (by omega) (by omega) (by omega)];omega,by rw [e 9 (by omega) (by omega) (by omega) (by omega)];omega,by rw [e 10 (by omega) (by omega) (by omega) (by omega)];omega,by rw [e 10 (by omega) (by omega) (by omega) (by omega)];omega⟩

theorem Ft.Mon.ails {kd p r:Int} {e:Nat→Int} (h:Ft.Mon kd e) (p0:0≤p) (p9:p≤9) (r0:0≤r) (r9:r≤9):Ft.Mon kd (En.upd (En.upd e 9 p) 10 r):=by
 have x:∀l,l≠9→l≠10→En.upd (En.upd e 9 p) 10 r l=e l:=fun l a b=>by rw [En.upd_other b,En.upd_other a]
 exact ⟨by rw [x 0 (by omega) (by omega)];exact h.k,by rw [x 5 (by omega) (by omega)];exact h.hp,by rw [x 5 (by omega) (by omega),x 6 (by omega) (by omega)];exact h.hpm,by rw [x 6 (by omega) (by omega)];exact h.m,by rw [x 7 (by omega) (by omega)];exact h.atk,by rw [x 8 (by omega) (by omega)];exact h.dfn,by rw [En.upd_other (by omega),En.upd_same];exact p0,by rw [En.upd_other (by omega),En.upd_same];exact p9,by rw [En.upd_same];exact r0,by rw [En.upd_same];exact r9⟩

structure Ft.Off (w:World) (Q T R gC gE gI:Nat):Prop where
 nT:Q≠T
 nR:Q≠R
 nC:Q≠gC
 nE:Q≠gE
 nI:Q≠gI
 l:w.heap.size≤Q

theorem Gd.Law.off {w x:World} {Q T R gC gE gI cC cE cI:Nat} {s g c:Nat→Int} {E I:Nat→Nat→Int} (h:Gd.Law w x T gC gE gI cC cE cI s g c E I) (hq:Ft.Off w Q T R gC gE gI) (j:Nat) (v:Value):Gd.Law w (x.setCell ⟨Q,j,none⟩ v) T gC gE gI cC cE cI s g c E I :=
 { h with hold:={ h.hold with box:=h.hold.box.other hq.nT _ _,lists:=⟨h.hold.lists.cells.other hq.nC _ _,h.hold.lists.ents.other hq.nE _ _,h.hold.lists.items.other hq.nI _ _⟩ },grown:=gsr h.grown ⟨Q,j,none⟩ hq.l _ }

def Ft.Born (E:Nat→Nat→Int):Prop:=∀k,k<32→E k 0≠0→E k 6=En.stats (E k 0) 6∧E k 7=En.stats (E k 0) 7∧E k 8=En.stats (E k 0) 8

theorem Ft.Born.put {E:Nat→Nat→Int} (h:Ft.Born E) {r:Nat} {e:Nat→Int} (he:e 6=En.stats (e 0) 6∧e 7=En.stats (e 0) 7∧e 8=En.stats (e 0) 8):Ft.Born (En.put E r e):=fun k hk h0=>by
 by_cases x:k=r
 ·rw [x,En.put_same]
  exact he
 ·rw [En.put_other x] at h0 ⊢
  exact h k hk h0

theorem Ft.stays {E:Nat→Nat→Int} {r k:Nat} {e:Nat→Int} (h0:E r 0=0) (hk:E k 0≠0):En.put E r e k=E k:=En.put_other (by rintro rfl;exact hk h0)

def Ft.Has (E:Nat→Nat→Int) (kd:Int):Prop:=∃r,r<32∧E r 0=kd

theorem Ft.Has.put {E:Nat→Nat→Int} {kd:Int} (h:Ft.Has E kd) (hk:kd≠0) {r:Nat} {e:Nat→Int} (h0:E r 0=0):Ft.Has (En.put E r e) kd:=by
 obtain ⟨q,hq,he⟩:=h
 exact ⟨q,hq,by rw [Ft.stays h0 (by omega)];exact he⟩


open Go.RowKit

theorem Gd.hero_some {E:Nat→Nat→Int} {k:Nat} {seat:Int} (hk:k<32) (h0:E k 0=1) (h2:E k 2=seat):0≤Gd.hero E seat:=by
 unfold Gd.hero
 rcases En.first_cases (En.heroQ E seat) 32 with ⟨_,hno⟩ | ⟨j,_,he,_⟩
 ·have:=hno k hk
  simp [En.heroQ,h0,h2] at this
 ·omega

theorem Ft.first_fit {c:Nat→Int} {I:Nat→Nat→Int} {kc:Nat} (hF:Nv.Floor c) (hOk:Gd.Ok c 40 I):Ft.Fit c (En.put (fun _ _=>0) 1 (Gd.folk 0 kc 1)) I:=by
 have h0:Ft.Fit c (fun _ _=>0) I:=⟨fun i=>⟨(hF.five i).1,by have:=(hF.five i).2;omega⟩,hOk,fun k _=>⟨Int.le_refl _,by show (0:Int)≤255;omega,.inl fun _ _ _=>rfl⟩⟩
 refine h0.put ⟨Int.le_refl _,by show (0:Int)≤255;omega,.inr ?_⟩
 show (1:Int)≤1∧(1:Int)≤4∧(1:Int)≤1+1∧(1:Int)+1≤20∧(20:Int)≤20∧(0:Int)≤5∧(5:Int)≤5∧(0:Int)≤1∧(1:Int)≤1∧(0:Int)≤0∧(0:Int)≤9∧(0:Int)≤0∧(0:Int)≤9
 omega

theorem Ft.first_born (kc:Nat):Ft.Born (En.put (fun _ _=>0) 1 (Gd.folk 0 kc 1)):=fun k _ h0=>by
 by_cases e:k=1
 ·subst e
  rw [En.put_same]
  exact ⟨rfl,rfl,rfl⟩
 ·rw [En.put_other e] at h0
  exact absurd rfl h0

theorem Ft.first_room {c:Nat→Int} {kc:Nat} (hF:Nv.Floor c):∃q,q<384∧Gr.walkB (c q)=true∧En.first (En.atQ (En.put (fun _ _=>0) 1 (Gd.folk 0 kc 1)) ((q:Int) % 24) ((q:Int) / 24)) 32<0:=by
 obtain ⟨u,v,hu,hv,h3,h4⟩:=hF.stairs
 have huv:u≠v:=by
  rintro rfl
  have a:=(h3 u).2 rfl
  have b:=(h4 u).2 rfl
  omega
 have hno:∀q:Nat,q<384→q≠kc→En.first (En.atQ (En.put (fun _ _=>0) 1 (Gd.folk 0 kc 1)) ((q:Int) % 24) ((q:Int) / 24)) 32<0:=fun q hq hne=>by
  rw [En.first_none fun j _=>?_]
  ·omega
  ·by_cases e:j=1
   ·subst e
    simp only [En.atQ,En.put_same]
    have:¬((kc:Int) % 24=(q:Int) % 24∧(kc:Int) / 24=(q:Int) / 24):=by omega
    show (!(decide ((1:Int)=0)) && (decide ((kc:Int) % 24=(q:Int) % 24) && decide ((kc:Int) / 24=(q:Int) / 24)))=false
    by_cases h1:(kc:Int) % 24=(q:Int) % 24
    ·have h2:¬(kc:Int) / 24=(q:Int) / 24:=fun h=>this ⟨h1,h⟩
     simp [h2]
    ·simp [h1]
   ·simp [En.atQ,En.put_other e]
 by_cases e:u=kc
 ·exact ⟨v,hv,by rw [(h4 v).2 rfl];rfl,hno v hv (by omega)⟩
 ·exact ⟨u,hu,by rw [(h3 u).2 rfl];rfl,hno u hu e⟩

end Go.Proofs.Ytapgkgbpekkdjaa
