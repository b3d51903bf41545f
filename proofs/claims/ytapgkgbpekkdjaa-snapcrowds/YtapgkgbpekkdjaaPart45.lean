import Derived.Test.YtapgkgbpekkdjaaPart29
import Derived.Test.YtapgkgbpekkdjaaPart44
namespace Go.Proofs.Ytapgkgbpekkdjaa
open Go.RowKit

def Sn.void:Array Value:=#[.int .i64 0,.int .i64 0,.int .i64 0,.int .i64 0,.slice none 0 0,.slice none 0 0,.slice none 0 0,.int .i64 0,.int .i64 0,.int .i64 0,Value.int .i64 0]

theorem Sn.worlds_congr {w w':World} {e:Ending} {s s' g g' c c':Nat→Int} {E E' I I':Nat→Nat→Int} (h:Gd.Worlds w s g c E I e w') (hs:∀k,k<4→s k=s' k) (hg:∀k,k<4→g k=g' k) (hc:∀k,k<384→c k=c' k) (hE:∀i j,i<32→j<11→E i j=E' i j) (hI:∀i j,i<40→j<4→I i j=I' i j):Gd.Worlds w s' g' c' E' I' e w':=by
 obtain ⟨gC,gE,gI,cC,cE,cI,rfl,h1,h2,h3,h4,h5,h6,h7,hL,hg2⟩:=h
 refine ⟨gC,gE,gI,cC,cE,cI,?_,h1,h2,h3,h4,h5,h6,h7,⟨hL.cells.congr fun k hk=>?_,hL.ents.congr fun k hk=>?_,hL.items.congr fun k hk=>?_⟩,hg2⟩
 ·unfold Gd.world
  rw [hs 0 (by omega),hs 1 (by omega),hs 2 (by omega),hs 3 (by omega),hg 0 (by omega),hg 1 (by omega),hg 2 (by omega),hg 3 (by omega)]
 ·show Value.int .u8 (c k)=.int .u8 (c' k)
  rw [hc k hk]
 ·show Value.int .i64 (E (k / 11) (k % 11))=.int .i64 (E' (k / 11) (k % 11))
  rw [hE _ _ (by omega) (by omega)]
 ·show Value.int .i64 (I (k / 4) (k % 4))=.int .i64 (I' (k / 4) (k % 4))
  rw [hI _ _ (by omega) (by omega)]

def Sn.Decodes (w:World) (s g c:Nat→Int) (E I:Nat→Nat→Int) (e:Ending) (w':World):Prop :=
 ∃r,Sn.Chk s g c E I r∧((r≠0∧e=.returned (.tuple #[.agg Sn.void,.int .i64 r])∧w.grownBy w' none) ∨
  (r=0∧∃v,e=.returned (.tuple #[v,.int .i64 0])∧Gd.Worlds w s g c E I (.returned v) w'))

set_option maxRecDepth 8000 in
set_option maxHeartbeats 6400000 in
theorem decode_any (G cap:Nat) (F sF gF cF:Nat→Int) (eF iF:Nat→Nat→Int) (w:World) (hS:Sn.Src w G F) (hc:918≤cap) (hm:cap≤9223372036854775807) (qs:∀k,k<4→Sn.rs F k=sF k) (qg:∀k,k<4→Sn.rg F k=gF k) (qc:∀k,k<384→Sn.rc F k=cF k) (qE:∀i j,i<32→j<11→Sn.rE F i j=eF i j) (qI:∀i j,i<40→j<4→Sn.rI F i j=iF i j) (hby':∀i,0≤cF i∧cF i≤255) :
  Calls Try.prog 16 #[.slice (some ⟨G,0,none⟩) 918 cap] w (Sn.Decodes w sF gF cF eF iF):=by
 obtain ⟨w0,hw0⟩:∃w0,w0=w.alloc (.cells #[.int .i64 0,.int .i64 0,.int .i64 0,.int .i64 0,.slice none 0 0,.slice none 0 0,.slice none 0 0,.int .i64 0,.int .i64 0,.int .i64 0,.int .i64 0] 29):=⟨_,rfl⟩
 have hg0:w.grownBy w0 none:=by rw [hw0];exact World.grownBy_alloc _ _ _
 obtain ⟨P,hP⟩:∃P,w.heap.size=P:=⟨_,rfl⟩
 have hR:Lie w0 P 29 11 (fun j=>#[.int .i64 0,.int .i64 0,.int .i64 0,.int .i64 0,.slice none 0 0,.slice none 0 0,.slice none 0 0,.int .i64 0,.int .i64 0,.int .i64 0,Value.int .i64 0][j]?.getD undef):=by
  rw [hw0,←hP]
  exact (Arr.lit (heap_alloc_new w _)).lie
 have hby:=hide hby'
 have cr:=hide ((snReads_any G cap F w0 (hS.on hg0 (by simp)) hc hm).mono fun e x h=>Sn.worlds_congr h qs qg qc qE qI)
 obtain ⟨D,hD⟩:∃D,Sn.Decodes w sF gF cF eF iF=D:=⟨_,rfl⟩
 have hD1:Hid (∀r x,Sn.Chk sF gF cF eF iF r→r≠0→w.grownBy x none→D (.returned (.tuple #[.agg Sn.void,.int .i64 r])) x):=fun r x h1 h2 h3=>by
  rw [←hD]
  exact ⟨r,h1,.inl ⟨h2,rfl,h3⟩⟩
 have hD0:Hid (∀v x,Sn.Chk sF gF cF eF iF 0→Gd.Worlds w sF gF cF eF iF (.returned v) x→D (.returned (.tuple #[v,.int .i64 0])) x):=fun v x h1 h2=>by
  rw [←hD]
  exact ⟨0,h1,.inr ⟨rfl,v,rfl,h2⟩⟩
 rw [hD]
 have HP:=hide hP
 have HR:=hide hR
 have HG:=hide hg0
 clear hg0 hR hP hS hc hm hD qs qg qc qE qI hby'
 go_enter Try.func16,Try.ntmps16
 go_upto_region 1 with fail
 rw [←hw0,uh HP]
 clear hw0
 go_wp2_with fail
 refine (uh cr).mono ?_
 rintro e w1 ⟨gC,gE,gI,cC,cE,cI,rfl,hcE,l1,l2,l3,n1,n2,n3,hL,hg1⟩
 have hW0:Hid (Gd.Worlds w0 sF gF cF eF iF (.returned (.agg (Gd.world sF gC gE gI cC cE cI gF))) w1):=⟨gC,gE,gI,cC,cE,cI,rfl,hcE,l1,l2,l3,n1,n2,n3,hL,hg1⟩
 obtain ⟨w2,hw2⟩:∃w2,w2=w1.alloc (.cells (Gd.world sF gC gE gI cC cE cI gF) 29):=⟨_,rfl⟩
 have hg2:w1.grownBy w2 none:=by rw [hw2];exact World.grownBy_alloc _ _ _
 have hB:Hid (Lie w2 w1.heap.size 29 11 (Gd.box sF gC gE gI cC cE cI gF)):=by show Lie w2 _ _ _ _;rw [hw2];exact (Arr.world (heap_alloc_new w1 _)).lie
 have HR2:=hide ((uh HR).on (gtr hg1 hg2))
 have HG2:=hide (gtr (uh HG) (gtr hg1 hg2))
 have HL2:=hide (hL.on hg2)
 have cc:=hide (snCheck_any sF gF cF eF iF gC gE gI cC cE cI w2 (uh HL2) (uh hby) hcE)
 have HX:Hid (32≤cE∧w0.heap.size≤gC∧w0.heap.size≤gE∧w0.heap.size≤gI∧gC≠gE∧gC≠gI∧gE≠gI):=⟨hcE,l1,l2,l3,n1,n2,n3⟩
 clear hcE l1 l2 l3 n1 n2 n3 hL hg1 hg2 cr HR hW0
 unfold Gd.world at hw2 cc ⊢
 go_upto_region 6 with fail
 rw [←hw2]
 clear hw2
 obtain ⟨B,hBe⟩:∃B,w1.heap.size=B:=⟨_,rfl⟩
 rw [hBe] at hB ⊢
 clear hBe w1
 obtain ⟨b0,b1,b2,b3,b4,b5,b6,b7,b8,b9,b10⟩:=(uh hB).eleven
 go_wp2_with fail
 refine (uh cc).mono ?_
 rintro e w3 ⟨r,rfl,hr,hg3⟩
 have HR3:=hide ((uh HR2).on hg3)
 have HG3:=hide (gtr (uh HG2) hg3)
 have HL3:=hide ((uh HL2).on hg3)
 have hB3:=hide ((uh hB).on hg3)
 have hr':=hide hr
 clear hg3 hr cc HR2 HG2 HL2 hB b0 b1 b2 b3 b4 b5 b6 b7 b8 b9 b10
 have fz:=(uh HR3).free
 obtain ⟨z0,z1,z2,z3,z4,z5,z6,z7,z8,z9,z10⟩:=Gd.res_cells (uh HR3)
 by_cases h0:r=0
 ·subst h0
  have hPl:Hid (w.heap.size≤P):=(show w.heap.size≤P by have:=uh HP;omega)
  have hfo:Hid (∀vs,D (.returned (.tuple #[.agg (Gd.world sF gC gE gI cC cE cI gF),.int .i64 0])) (w3.setCells P 0 vs)):=fun vs=>by
   obtain ⟨x1,x2,x3,x4,x5,x6,x7⟩:=uh HX
   have hs:=(uh HG).size
   have h:=uh HL3
   have hr:=uh HR3
   refine uh hD0 _ _ (uh hr') ⟨gC,gE,gI,cC,cE,cI,rfl,x1,by omega,by omega,by omega,x5,x6,x7,⟨h.cells.others (hr.type_ne h.cells (by decide)) _ _,h.ents.others (hr.type_ne h.ents (by decide)) _ _,h.items.others (hr.type_ne h.items (by decide)) _ _⟩,own_sets (uh hPl) vs 0 w3 (uh HG3)⟩
  obtain ⟨b0,b1,b2,b3,b4,b5,b6,b7,b8,b9,b10⟩:=(uh hB3).eleven
  clear HX HL3 HR3 HG3 hB3 hD0 hD1 hr' hby
  go_wp2
  refine bodyPost_ret (v:=.tuple #[.agg (Gd.world sF gC gE gI cC cE cI gF),.int .i64 0]) (by simp [results,Try.results16,go_sem,Gd.world,z0,z1,z2,z3,z4,z5,z6,z7,z8,z9,z10]) rfl ?_
  exact uh hfo [_,_,_,_,_,_,_,_,_,_,_]
 ·have h0':(r != 0)=true:=by simp [h0]
  have hPl:Hid (w.heap.size≤P):=(show w.heap.size≤P by have:=uh HP;omega)
  have hfo:Hid (∀vs,D (.returned (.tuple #[.agg Sn.void,.int .i64 r])) (w3.setCells P 0 vs)):=fun vs=>uh hD1 r _ (uh hr') h0 (own_sets (uh hPl) vs 0 w3 (uh HG3))
  clear HX HL3 HR3 HG3 hB3 hD0 hD1 hr' h0 hby
  go_wp2
  refine bodyPost_ret (v:=.tuple #[.agg Sn.void,.int .i64 r]) (by simp [results,Try.results16,go_sem,Sn.void,z0,z1,z2,z3,z4,z5,z6,z7,z8,z9,z10]) rfl ?_
  exact uh hfo [_,_,_,_,_,_,_,_,_,_,_]

end Go.Proofs.Ytapgkgbpekkdjaa

namespace Go.Proofs.Ytapgkgbpekkdjaa

theorem Sn.ent_sane {c:Nat→Int} {E I:Nat→Nat→Int} (hS:Cr.Sane c E I) {k:Nat} (hk:k<32):Sn.entC c E k=0:=by
 have hr:=hS.fit.rows k hk
 have g0:=hr.1
 have g1:=hr.2.1
 unfold Sn.entC
 by_cases h0:E k 0=0
 ·have hz:∀j,j≠1→j<11→E k j=0:=fun j j1 hj=>by
   rcases hr.2.2 with hz | ht
   ·exact hz j hj j1
   ·omega
  have hf:Sn.freeB (E k)=true:=by
   unfold Sn.freeB
   rw [decide_eq_true_eq]
   exact ⟨hz 2 (by omega) (by omega),hz 3 (by omega) (by omega),hz 4 (by omega) (by omega),hz 5 (by omega) (by omega),hz 6 (by omega) (by omega),hz 7 (by omega) (by omega),hz 8 (by omega) (by omega),hz 9 (by omega) (by omega),hz 10 (by omega) (by omega)⟩
  rw [if_pos (by omega),if_pos ⟨g0,g1⟩,if_pos h0,if_pos hf]
 ·have ht:=hr.taken h0
  have hbo:=hS.set.born k hk h0
  obtain ⟨p1,p2,p3,p4,p5⟩:=hS.set.stands.on k hk h0
  have h1:Sn.soundB (E k)=true:=by
   unfold Sn.soundB
   rw [decide_eq_true_eq]
   exact ⟨hbo.1,hbo.2.1,hbo.2.2,by omega,by omega,by omega,by omega,by omega,by omega⟩
  have h2:Sn.aloneB c E k=true:=by
   unfold Sn.aloneB
   have hat:Gr.at 384 c (E k 3) (E k 4)=c (E k 4*24+E k 3).toNat:=Gr.at_in ((Gr.inB_iff _ _).2 (by omega)) (by omega)
   rw [hat,p5,Bool.true_and,decide_eq_true_eq]
   exact En.first_none fun j hj=>by
    by_cases e:E j 0=0
    ·simp [En.atQ,e]
    ·by_cases x3:E j 3=E k 3
     ·by_cases x4:E j 4=E k 4
      ·have:=hS.set.stands.apart j k (by omega) hk e h0 x3 x4
       omega
      ·simp [En.atQ,x4]
     ·simp [En.atQ,x3]
  have h3:Sn.seatedB E k=true:=by
   unfold Sn.seatedB
   by_cases k1:E k 0=1
   ·rw [if_pos k1,decide_eq_true_eq]
    have hs:=hS.seats.seat k hk k1
    refine ⟨by omega,by omega,En.first_none fun j hj=>?_⟩
    by_cases e:E j 0=1
    ·by_cases x:E j 2=E k 2
     ·have:=hS.seats.one j k (by omega) hk e k1 x
      omega
     ·simp [En.heroQ,x]
    ·simp [En.heroQ,e]
   ·rw [if_neg k1,decide_eq_true_eq]
    exact hS.seats.none k hk h0 k1
  rw [if_pos (by omega),if_pos ⟨g0,g1⟩,if_neg h0,if_pos ⟨h1,h2,h3⟩]

theorem Sn.head_good {s g c:Nat→Int} {E I:Nat→Nat→Int} (hG:Cr.Good ⟨s,g,c,E,I⟩) (a1:0≤s 1) (a2:s 1<1073741824):Sn.headB s g=true:=by
 have f1:1≤s 2:=hG.f1
 have f3:s 2≤3:=hG.f3
 have s0:0≤s 3:=hG.s0
 have s2:s 3≤2:=hG.s2
 unfold Sn.headB Sn.numB
 rw [Bool.and_eq_true,decide_eq_true_eq]
 refine ⟨Sn.goldsB_of fun t ht=>?_,⟨a1,a2,f1,f3,s0,s2⟩⟩
 unfold Sn.goldB
 rw [decide_eq_true_eq]
 exact hG.gold t ht

theorem Sn.chk_good {s g c:Nat→Int} {E I:Nat→Nat→Int} (hG:Cr.Good ⟨s,g,c,E,I⟩) (a1:0≤s 1) (a2:s 1<1073741824):Sn.Chk s g c E I 0:=by
 obtain ⟨u,hu,hfu,hcu,hu1⟩:=Cr.up_stair hG.floor
 obtain ⟨u',d,hu'',hd,h3,h4⟩:=hG.floor.stairs
 unfold Sn.Chk
 rw [if_pos (Sn.head_good hG a1 a2),if_pos (Sn.mx_le.2 fun i _=>(hG.floor.five i).2),if_pos ⟨Sn.cnt_one hcu hu (fun i _ e=>hu1 i e),Sn.cnt_one ((h4 d).2 rfl) hd (fun i _ e=>(h4 i).1 e)⟩,if_pos (Sn.rowC_zero fun k hk=>Sn.ent_sane hG.sane hk)]
 exact .inl ⟨rfl,hG.sane.fit.ok⟩


open Go.RowKit

def Cr.SeatFor (E:Nat→Nat→Int) (kd sx:Int):Prop:=(kd=1→1≤sx∧sx≤3∧Gd.hero E sx<0)∧(kd≠1→sx=0)

def Cr.Crew (c:Nat→Int) (E:Nat→Nat→Int):Prop:=Ft.Set c E∧Cr.Seats E

structure Cr.MonAt (kd:Int) (q:Nat) (sx:Int) (e:Nat→Int):Prop where
 pos:Ft.MonAt kd q e
 seat:e 2=sx

theorem Cr.MonAt.ails {kd p r sx:Int} {q:Nat} {e:Nat→Int} (h:Cr.MonAt kd q sx e) (p0:0≤p) (p9:p≤9) (r0:0≤r) (r9:r≤9):Cr.MonAt kd q sx (En.upd (En.upd e 9 p) 10 r) :=
 ⟨h.pos.ails p0 p9 r0 r9,by rw [En.upd_other (by omega),En.upd_other (by omega)];exact h.seat⟩

theorem Cr.no_hero {E:Nat→Nat→Int} {s:Int} (h:Gd.hero E s<0) (j:Nat) (hj:j<32) (h1:E j 0=1):E j 2≠s:=fun e=>by
 have:=Gd.hero_some (E:=E) hj h1 e
 omega

theorem Cr.Crew.put {c:Nat→Int} {E:Nat→Nat→Int} (h:Cr.Crew c E) {r q:Nat} {e:Nat→Int} {gn:Int} (hs:Cr.SeatFor E (e 0) (e 2)) (h0:E r 0=0) (hq:q<384) (hr:Ft.Room c E q) (hx:e 3=(q:Int) % 24) (hy:e 4=(q:Int) / 24) (he:e 6=En.stats (e 0) 6∧e 7=En.stats (e 0) 7∧e 8=En.stats (e 0) 8):Cr.Crew c (En.put E r (En.gen e gn)):=by
 have g0:En.gen e gn 0=e 0:=rfl
 have g2:En.gen e gn 2=e 2:=rfl
 refine ⟨h.1.put h0 hq hr hx hy he,⟨fun k hk k1=>?_,fun j k hj hk j1 k1 hjk=>?_,fun k hk k0 k1=>?_⟩⟩
 ·by_cases e':k=r
  ·subst e'
   rw [En.put_same,g0] at k1
   rw [En.put_same,g2]
   have:=hs.1 k1
   omega
  ·rw [En.put_other e'] at k1 ⊢
   exact h.2.seat k hk k1
 ·by_cases ej:j=r
  ·by_cases ek:k=r
   ·omega
   ·subst ej
    rw [En.put_same,g0] at j1
    rw [En.put_other ek] at k1
    rw [En.put_same,En.put_other ek,g2] at hjk
    exact absurd hjk.symm (Cr.no_hero (hs.1 j1).2.2 k hk k1)
  ·by_cases ek:k=r
   ·subst ek
    rw [En.put_same,g0] at k1
    rw [En.put_other ej] at j1
    rw [En.put_same,En.put_other ej,g2] at hjk
    exact absurd hjk (Cr.no_hero (hs.1 k1).2.2 j hj j1)
   ·rw [En.put_other ej] at j1
    rw [En.put_other ek] at k1
    rw [En.put_other ej,En.put_other ek] at hjk
    exact h.2.one j k hj hk j1 k1 hjk
 ·by_cases e':k=r
  ·subst e'
   rw [En.put_same,g0] at k1
   rw [En.put_same,g2]
   exact hs.2 k1
  ·rw [En.put_other e'] at k0 k1 ⊢
   exact h.2.none k hk k0 k1

theorem Cr.first_crew {c:Nat→Int} {kc:Nat} (hkc:kc<384) (hkw:Gr.walkB (c kc)=true):Cr.Crew c (En.put (fun _ _=>0) 1 (Gd.folk 0 kc 1)):=by
 have one:∀k,En.put (fun _ _=>0) 1 (Gd.folk 0 kc 1) k 0≠0→k=1:=fun k h=>by
  by_cases e:k=1
  ·exact e
  ·rw [En.put_other e] at h
   exact absurd rfl h
 refine ⟨Ft.first_set hkc hkw,⟨fun k _ k1=>?_,fun j k _ _ j1 k1 _=>?_,fun k _ k0 k1=>?_⟩⟩
 ·obtain rfl:=one k (by omega)
  exact ⟨show (0:Int)≤0 by decide,show (0:Int)<4 by decide⟩
 ·rw [one j (by omega),one k (by omega)]
 ·obtain rfl:=one k k0
  exact absurd rfl k1

theorem Cr.gold_fifty:Cr.Gold (Gd.give (fun _=>0) ((0:Int) % 4).toNat ((50:Int) % 1000)):=fun t _=>by
 unfold Gd.give
 split
 ·decide
 ·exact ⟨show (0:Int)≤0 by decide,show (0:Int)≤999 by decide⟩

theorem Cr.head_fits (seed floor:Int):1≤Gd.head seed (1+floor % 3) 2∧Gd.head seed (1+floor % 3) 2≤3∧Gd.head seed (1+floor % 3) 3=0:=by
 show 1≤1+floor % 3∧1+floor % 3≤3∧(0:Int)=0
 omega

theorem Cr.tick_fits {s:Nat→Int} {v:Int} (h:0≤v∧v<1048576) (hs:1≤s 2∧s 2≤3∧s 3=0):0≤Ft.tick s v 1∧Ft.tick s v 1<1048576∧1≤Ft.tick s v 2∧Ft.tick s v 2≤3∧Ft.tick s v 3=0:=⟨h.1,h.2,hs.1,hs.2.1,hs.2.2⟩

set_option maxRecDepth 8000 in
set_option maxHeartbeats 12800000 in
theorem crowd_good (seed floor frame:Int) (aK:Option Addr) (lenK capK:Nat) (f:Nat→Int) (aL:Option Addr) (nL cL:Nat) (M:Nat→Nat→Int) (w:World) (hK:NumArg w aK lenK f) (hM:ItArg w aL nL cL M) :
  Calls Try.prog 6 #[.int .i64 seed,.int .i64 floor,.slice aK lenK capK,.slice aL nL cL,.int .i64 frame] w fun e w'=>∃S:Cr.W,Cr.Good S∧0≤S.s 1∧S.s 1<1048576∧Md.Wide e∧Gd.Worlds w S.s S.g S.c S.E S.I e w':=by
 have hm6:=hK.most
 unfold maxLen at hm6
 have hN:=hide hK
 have hItw:=hide ((hM.on (World.grownBy_alloc w (.cells #[.int .i64 0,.int .i64 0,.int .i64 0,.int .i64 0,.slice none 0 0,.slice none 0 0,.slice none 0 0,.int .i64 0,.int .i64 0,.int .i64 0,.int .i64 0] 29) none)).some (min nL 20) (by omega) (by omega))
 have hr0:=hide (Arr.lit (heap_alloc_new w (.cells #[.int .i64 0,.int .i64 0,.int .i64 0,.int .i64 0,.slice none 0 0,.slice none 0 0,.slice none 0 0,.int .i64 0,.int .i64 0,.int .i64 0,.int .i64 0] 29))).lie
 have hg0:=hide (World.grownBy_alloc w (.cells #[.int .i64 0,.int .i64 0,.int .i64 0,.int .i64 0,.slice none 0 0,.slice none 0 0,.slice none 0 0,.int .i64 0,.int .i64 0,.int .i64 0,.int .i64 0] 29) none)
 have hs0:Hid ((w.alloc (.cells #[.int .i64 0,.int .i64 0,.int .i64 0,.int .i64 0,.slice none 0 0,.slice none 0 0,.slice none 0 0,.int .i64 0,.int .i64 0,.int .i64 0,.int .i64 0] 29)).heap.size=w.heap.size+1):=by
  show _=_
  simp
 obtain ⟨W,hWb,cW⟩:∃W:Int→Int→Int,Hid (∀a n,0<n→0≤W a n∧W a n<n)∧Hid (∀a n wq,0<n→n≤1048576→Calls Try.prog 19 #[.int .i64 a,.int .i64 n] wq fun e w'=>e=.returned (.int .i64 (W a n))∧w'=wq)∧Hid (∀a,W a 4=a % 4):=⟨fun a n=>a % n,fun a n hn=>⟨Int.emod_nonneg _ (by omega),Int.emod_lt_of_pos _ hn⟩,fun a n wq h1 h2=>within8_any a n wq h1 (by omega),fun _=>rfl⟩
 obtain ⟨cW,hW4⟩:=cW
 have cX:Hid (∀a n wq,0<n→n≤1048576→Calls Try.prog 19 #[.int .i64 a,.int .i64 n] wq fun e w'=>∃m:Int,0≤m∧m<n∧e=.returned (.int .i64 m)∧w'=wq):=fun a n wq h1 h2=>(uh cW a n wq h1 h2).mono fun e w' ⟨he,hw⟩=>⟨_,(uh hWb a n h1).1,(uh hWb a n h1).2,he,hw⟩
 clear hK hM
 go_enter Try.func6,Try.ntmps6
 go_wp2_with fail
 refine (world_any seed floor 0 1 50 aL nL cL M _ (uh hItw)).mono ?_
 rintro e wa ⟨c,kc,hF,hkc,hkw,-,I,⟨gC,gE,gI,cC,cE,cI,rfl,hcap,l1,l2,l3,n1,n2,n3,hL,hg⟩,hOk,-,hSn⟩
 have hcw:Hid (384≤cC):=Md.snug_cap hSn
 have hfl:Hid (Nv.Floor c):=hF
 clear hSn
 have hfit:Hid (Ft.Fit c (En.put (fun _ _=>0) 1 (Gd.folk 0 kc 1)) I):=Ft.first_fit hF hOk
 have hborn:Hid (Cr.Crew c (En.put (fun _ _=>0) 1 (Gd.folk 0 kc 1))):=Cr.first_crew hkc hkw
 have hroom:=hide (Ft.first_room (kc:=kc) hF)
 have hone:Hid (En.put (fun _ _=>0) 1 (Gd.folk 0 kc 1) 1 0=1∧En.put (fun _ _=>0) 1 (Gd.folk 0 kc 1) 1 2=0):=⟨rfl,rfl⟩
 have hcc:Hid (∀i,0≤c i∧c i≤255):=(uh hfit).cells
 have hz0:Hid (En.put (fun _ _=>0) 1 (Gd.folk 0 kc 1) 0 0=0):=rfl
 obtain ⟨E0,hE0⟩:∃E0,En.put (fun _ _=>0) 1 (Gd.folk 0 kc 1)=E0:=⟨_,rfl⟩
 have hL2:Gd.Lists wa gC gE gI c E0 I:=by rw [←hE0];exact hL
 rw [hE0] at hfit hborn hroom hone hz0
 obtain ⟨s,hs⟩:∃s,Gd.head seed (1+floor % 3)=s:=⟨_,rfl⟩
 obtain ⟨g,hge⟩:∃g,Gd.give (fun _=>0) ((0:Int) % 4).toNat ((50:Int) % 1000)=g:=⟨_,rfl⟩
 rw [hs,hge]
 have hgold:Hid (Cr.Gold g):=by rw [←hge];exact Cr.gold_fifty
 have hs1:Hid (1≤s 2∧s 2≤3∧s 3=0):=by rw [←hs];exact Cr.head_fits seed floor
 have hW:=hide (Gd.law_new (s:=s) (g:=g) (cC:=cC) (cI:=cI) (uh hg0) hcap l1 l2 l3 n1 n2 n3 hL2 hg)
 have lC:Hid (w.heap.size≤gC):=(show w.heap.size≤gC by have:=uh hs0;omega)
 have hR:=hide ((uh hr0).on (gtr hg (World.grownBy_alloc wa (.cells #[.int .i64 (s 0),.int .i64 (s 1),.int .i64 (s 2),.int .i64 (s 3),.slice (some ⟨gC,0,none⟩) 384 cC,.slice (some ⟨gE,0,none⟩) 32 cE,.slice (some ⟨gI,0,none⟩) 40 cI,.int .i64 (g 0),.int .i64 (g 1),.int .i64 (g 2),.int .i64 (g 3)] 29) none)))
 have hRT:Hid (wa.heap.size≠w.heap.size):=(show wa.heap.size≠w.heap.size by have:=uh hs0;have:=hg.size;omega)
 clear hcap l1 l2 l3 n1 n2 n3 hL hL2 hg hOk hF hkc hkw hE0 hs hge hItw hg0 hs0 hr0
 unfold Gd.world at hW ⊢
 go_upto_region 2 with fail
 obtain ⟨T,hT⟩:∃T,wa.heap.size=T:=⟨_,rfl⟩
 rw [hT] at hW hRT ⊢
 generalize wa.alloc (.cells #[.int .i64 (s 0),.int .i64 (s 1),.int .i64 (s 2),.int .i64 (s 3),.slice (some ⟨gC,0,none⟩) 384 cC,.slice (some ⟨gE,0,none⟩) 32 cE,.slice (some ⟨gI,0,none⟩) 40 cI,.int .i64 (g 0),.int .i64 (g 1),.int .i64 (g 2),.int .i64 (g 3)] 29)=wb at hW hR ⊢
 clear hT
 obtain ⟨R,hRe⟩:∃R,w.heap.size=R:=⟨_,rfl⟩
 rw [hRe] at hR hRT ⊢
 have lR:Hid (w.heap.size≤R):=(show w.heap.size≤R by omega)
 clear hRe
 have b1:=(uh hW).eleven.2.1
 have fT:=(uh hW).hold.box.free
 have hfr:=uh hWb frame 1048576 (by omega)
 go_wp2_with fail
 refine (uh cW _ _ _ (by decide) (by decide)).mono ?_
 rintro e wy ⟨rfl,hy⟩
 subst wy
 obtain ⟨fr,hfe⟩:∃fr,W frame 1048576=fr:=⟨_,rfl⟩
 rw [hfe]
 have hW1:=hide ((uh hW).tick fr)
 have hR1:=hide ((uh hR).other (uh hRT) 1 (.int .i64 fr))
 obtain ⟨s2,hs2⟩:∃s2,Ft.tick s fr=s2:=⟨_,rfl⟩
 rw [hs2] at hW1
 have hs3:Hid (0≤s2 1∧s2 1<1048576∧1≤s2 2∧s2 2≤3∧s2 3=0):=by rw [←hs2];exact Cr.tick_fits (by rw [←hfe];exact hfr) (uh hs1)
 clear hfe hfr hs2 hs1
 go_upto_region 3 with fail
 generalize wb.setCell ⟨T,1,none⟩ (.int .i64 fr)=wc at hW1 hR1 ⊢
 clear b1 fT hW hR
 go_upto_block 0 with fail
 go_cut [] from 12 (fun wx=>∃(E:Nat→Nat→Int) (gE cE:Nat),Hid (Ft.Fit c E I)∧Hid (Cr.Crew c E)∧Hid (E 1 0=1∧E 1 2=0)∧Hid (0<lenK→f 0 % 4=1→Ft.Has E 2)∧Hid (Gd.Law w wx T gC gE gI cC cE cI s2 g c E I)∧Hid (Lie wx R 29 11 (fun j=>#[.int .i64 0,.int .i64 0,.int .i64 0,.int .i64 0,.slice none 0 0,.slice none 0 0,.slice none 0 0,.int .i64 0,.int .i64 0,.int .i64 0,Value.int .i64 0][j]?.getD undef)))
 case first =>
  go_wp2_with fail
  go_loopw [12,13] (fun va vi wr=>∃(a i:Nat) (E:Nat→Nat→Int) (gE cE:Nat),i≤lenK∧i≤12∧a≤400∧va=.int .i64 (a:Int)∧vi=.int .i64 (i:Int)∧Hid (Ft.Fit c E I)∧Hid (Cr.Crew c E)∧Hid (E 1 0=1∧E 1 2=0)∧Hid ((i=0→a=0∧E=E0)∧(0<i→f 0 % 4=1→Ft.Has E 2))∧Hid (Gd.Law w wr T gC gE gI cC cE cI s2 g c E I)∧Hid (Lie wr R 29 11 (fun j=>#[.int .i64 0,.int .i64 0,.int .i64 0,.int .i64 0,.slice none 0 0,.slice none 0 0,.slice none 0 0,.int .i64 0,.int .i64 0,.int .i64 0,Value.int .i64 0][j]?.getD undef))) (fun _ vi _=>30 - (intOf vi).toNat)
  case atStart=>exact ⟨0,0,E0,gE,cE,by omega,by omega,by omega,rfl,rfl,hfit,hborn,hone,⟨fun _=>⟨rfl,rfl⟩,fun h=>by omega⟩,hW1,hR1⟩
  case round =>
   clear hW1 hR1 hfit hborn hone
   obtain ⟨a,i,E,gE,cE,hi,hi12,ha,rfl,rfl,hFit,hBorn,hOne,hSt,hW,hR⟩:=hrel
   by_cases hlt:i<lenK∧i<12
   ·have hlt':(i:Int)<(lenK:Int):=by omega
    have hlt2:(i:Int)<12:=by omega
    have HL:=hide hlt
    clear hi hi12
    obtain ⟨b,o,rfl,hbw,hcw⟩:=(uh hN).at hlt.1
    have hbl:b<wr.heap.size:=Nat.lt_of_lt_of_le hbw (uh hW).grown.size
    have hcell:=(gce (uh hW).grown b (o+i) hbw (by simp)).trans hcw
    have hbT:Hid (T≠b):=(show T≠b by have:=(uh hW).lT;omega)
    clear hbw hcw
    have hcl:Hid (∀x,wr.grownBy x none→x.cell? ⟨b,o+i,none⟩=some (.int .i64 (f i))):=fun x hx=>(gce hx b _ hbl (by simp)).trans hcell
    obtain ⟨v,hv⟩:∃v,f i=v:=⟨_,rfl⟩
    have hv0:Hid (i=0→f 0=v):=fun h=>by rw [←hv,h]
    rw [hv] at hcl hcell
    clear hlt hv
    obtain ⟨p,hp,hpw,hpf⟩:=uh hroom
    have hp':=hide (show p<384∧Gr.walkB (c p)=true∧En.first (En.atQ E0 ((p:Int) % 24) ((p:Int) / 24)) 32<0 from ⟨hp,hpw,hpf⟩)
    clear hp hpw hpf
    go_upto_block 2 with fail
    go_cut [12] from 35 to 58 (fun va wx=>∃q:Nat,q≤400∧va=.int .i64 (q:Int)∧wx=wr∧Hid (i=0→q<384)∧Hid (q<384→Ft.Room c E q))
    case first =>
     have b4:=(uh hW).eleven.2.2.2.2.1
     have b5:=(uh hW).eleven.2.2.2.2.2.1
     go_wp2_with fail
     go_loop [12] (fun va=>∃q:Nat,q≤400∧va=.int .i64 (q:Int)∧Hid (i=0→q≤p)) (fun va=>500 - (intOf va).toNat)
     case atStart=>exact ⟨a,ha,rfl,fun h=>by rw [((uh hSt).1 h).1];omega⟩
     case round =>
      obtain ⟨q,hq,rfl,hqp⟩:=hrel
      by_cases hq4:q<384
      ·have hq4':(q:Int)<384:=by omega
       have HQ:=hide hq4
       have u0:wr.cell? ⟨gC,q,none⟩=some (.int .u8 (c q)):=(uh hW).hold.lists.cells.cell hq4
       have c0:=(uh hcc q).1
       have c9:=(uh hcc q).2
       have cw:=hide (fun wx=>refWalk_any (c q) wx)
       have ca:=hide (fun wx (hx:Own wx gE 32 E)=>entRefAt_same gE 32 cE E ((q:Int) % 24) ((q:Int) / 24) wx hx.ents)
       have hpq:Hid (i=0→q=p→Gr.walkB (c q)=true∧En.first (En.atQ E ((q:Int) % 24) ((q:Int) / 24)) 32<0):=fun h e=>by
        rw [e,((uh hSt).1 h).2]
        exact (uh hp').2
       obtain ⟨wk,hwk⟩:∃b,Gr.walkB (c q)=b:=⟨_,rfl⟩
       obtain ⟨z,hz⟩:∃z,En.first (En.atQ E ((q:Int) % 24) ((q:Int) / 24)) 32=z:=⟨_,rfl⟩
       rw [hwk] at cw hpq
       rw [hz] at ca hpq
       have HRm:Hid (wk=true→z<0→Ft.Room c E q):=fun h1 h2=>⟨hwk.trans h1,by rw [hz];exact h2⟩
       clear hwk hz hq4 hq
       go_wp2_with fail
       refine (uh cw _).mono ?_
       rintro e wy ⟨rfl,hy⟩
       subst wy
       cases wk
       ·go_wp2
        go_round
        case rel=>exact ⟨q+1,by have:=uh HQ;omega,by go_num,fun h=>by
         have h1:=uh hqp h
         by_cases e:q=p
         ·have:=(uh hpq h e).1
          simp at this
         ·omega⟩
        case measure=>simp [intOf];have:=uh HQ;omega
       ·go_wp2_with fail
        refine (uh ca _ (uh hW).hold.lists.own).mono ?_
        rintro e wy ⟨rfl,hy⟩
        subst wy
        by_cases hz0:z<0
        ·go_wp2_with fail
         go_meet
         exact ⟨q,by have:=uh HQ;omega,rfl,rfl,fun _=>uh HQ,fun _=>uh HRm (by first | rfl | trivial) hz0⟩
        ·go_wp2
         go_round
         case rel=>exact ⟨q+1,by have:=uh HQ;omega,by go_num,fun h=>by
          have h1:=uh hqp h
          by_cases e:q=p
          ·have:=(uh hpq h e).2
           omega
          ·omega⟩
         case measure=>simp [intOf];have:=uh HQ;omega
      ·have hq4':¬(q:Int)<384:=by omega
       have hpl:=(uh hp').1
       go_wp2_with fail
       go_meet
       exact ⟨q,hq,rfl,rfl,fun h=>by have:=uh hqp h;omega,fun h=>absurd h hq4⟩
    case rest =>
     obtain ⟨q,hq,rfl,hwe,hq0,hqr⟩:=hcut
     subst hwe
     clear hp' ha
     by_cases hq4:q<384
     ·have hq4':(q:Int)<384:=by omega
      have hq4n:¬384≤(q:Int):=by omega
      have HQ:=hide hq4
      have hw4:=uh hWb v 4 (by omega)
      have hw4v:=hide (uh hW4 v)
      go_wp2_with fail
      refine (uh cW _ _ _ (by decide) (by decide)).mono ?_
      rintro e wy ⟨rfl,hy⟩
      subst wy
      obtain ⟨kd,hkd⟩:∃kd,1+W v 4=kd:=⟨_,rfl⟩
      have kd1:1≤kd:=by omega
      have kd4:kd≤4:=by omega
      have hkv:Hid (i=0→kd=1+f 0 % 4):=fun h=>by rw [uh hv0 h,←hkd,uh hw4v]
      have cst:=hide (entRefStats_any kd wc)
      obtain ⟨st,hst⟩:∃st,En.stats kd=st:=⟨_,rfl⟩
      have hsf:=En.stats_fit kd1 kd4
      rw [hst] at hsf cst
      have hst':=hide hst
      obtain ⟨w40,w44⟩:=hw4
      have HSF:=hide hsf
      clear hw4v hst hq4 hq hsf
      unfold En.cells at cst
      go_wp2_with fail
      refine (uh cst).mono ?_
      rintro e w1 ⟨rfl,hg1⟩
      clear hkd w40 w44
      have hQ:=hide (Lie.born w1 st 45)
      have hg2:=hide (gtr hg1 (World.grownBy_alloc w1 (.cells (En.cells st) 45) none))
      have hoff:Hid (Ft.Off w w1.heap.size T R gC gE gI):=by
       have q1:=((uh hW).on hg1).hold.box.lt
       have q2:=((uh hR).on hg1).lt
       have q3:=((uh hW).on hg1).hold.lists.cells.lt
       have q4:=((uh hW).on hg1).hold.lists.ents.lt
       have q5:=((uh hW).on hg1).hold.lists.items.lt
       have q6:=(uh hW).grown.size
       have q7:=hg1.size
       exact ⟨by omega,by omega,by omega,by omega,by omega,by omega⟩
      have hW1:=hide ((uh hW).on (uh hg2))
      have hR1:=hide ((uh hR).on (uh hg2))
      have hcl1:Hid (∀x,(w1.alloc (.cells (En.cells st) 45)).grownBy x none→x.cell? ⟨b,o+i,none⟩=some (.int .i64 v)):=fun x hx=>uh hcl x (gtr (uh hg2) hx)
      have hbQ:Hid (b<w1.heap.size):=Nat.lt_of_lt_of_le hbl hg1.size
      clear hg1 cst
      unfold En.cells at hQ hg2 hW1 hR1 hcl1
      go_upto_region 11 with fail
      obtain ⟨Q,hQe⟩:∃Q,w1.heap.size=Q:=⟨_,rfl⟩
      rw [hQe] at hQ hoff hbQ ⊢
      generalize w1.alloc (.cells #[.int .i64 (st 0),.int .i64 (st 1),.int .i64 (st 2),.int .i64 (st 3),.int .i64 (st 4),.int .i64 (st 5),.int .i64 (st 6),.int .i64 (st 7),.int .i64 (st 8),.int .i64 (st 9),.int .i64 (st 10)] 45)=wd at hQ hg2 hW1 hR1 hcl1 ⊢
      clear hQe hcell hcl hbl hg2
      have hnb:Q≠b:=by have:=uh hbQ;omega
      have hbn:b≠Q:=hnb.symm
      have z0:=(uh hQ).ent.1
      rw [(uh HSF).1] at z0
      obtain ⟨r1,hr1⟩:∃r:Bool,(kd == 1)=r:=⟨_,rfl⟩
      go_upto_if 70 with fail
      go_cut [] from 70 to 84 (fun wx=>∃sx:Int,Hid (Gd.Law w wx T gC gE gI cC cE cI s2 g c E I)∧Hid (Lie wx R 29 11 (fun j=>#[.int .i64 0,.int .i64 0,.int .i64 0,.int .i64 0,.slice none 0 0,.slice none 0 0,.slice none 0 0,.int .i64 0,.int .i64 0,.int .i64 0,Value.int .i64 0][j]?.getD undef))∧Hid (Lie wx Q 45 11 (Ints (En.upd st 2 sx)))∧Hid (∀x,wx.grownBy x none→x.cell? ⟨b,o+i,none⟩=some (.int .i64 v))∧Hid (Cr.SeatFor E kd sx))
      case first =>
       cases r1
       rotate_left
       ·have hk1:kd=1:=by simpa using hr1
        have hnot:Hid (i=0→f 0 % 4≠1):=fun h e=>by have:=uh hkv h;omega
        have hcell:=uh hcl1 wd (World.grownBy.refl _ _)
        have z2:=(uh hQ).ent.2.2.1
        have zf:=(uh hQ).free
        have HK1:=hide hk1
        clear hk1
        go_wp2_with fail
        refine (uh cX _ _ _ (by decide) (by decide)).mono ?_
        rintro e wy ⟨m,m0,m9,rfl,hy⟩
        subst wy
        have hW2:=hide ((uh hW1).off (uh hoff) 2 (.int .i64 (1+m)))
        have hR2:=hide ((uh hR1).other (uh hoff).nR 2 (.int .i64 (1+m)))
        have hQ2:=hide ((uh hQ).upd 2 (1+m))
        have hcl2:Hid (∀x,(wd.setCell ⟨Q,2,none⟩ (.int .i64 (1+m))).grownBy x none→x.cell? ⟨b,o+i,none⟩=some (.int .i64 v)):=fun x hx=>(gce hx b _ (by have:=uh hbQ;have:=(uh hQ2).lt;omega) (by simp)).trans ((gce (gs0 wd Q 2 (.int .i64 (1+m))) b _ (by have:=uh hbQ;have:=(uh hQ).lt;omega) (by simpa using hnb)).trans (uh hcl1 wd (World.grownBy.refl _ _)))
        go_upto_region 13 with fail
        generalize wd.setCell ⟨Q,2,none⟩ (.int .i64 (1+m))=we at hW2 hR2 hQ2 hcl2 ⊢
        clear hcell z2 zf z0 hW1 hR1
        have y2:=(uh hQ2).ent.2.2.1
        rw [En.upd_same] at y2
        have b5:=(uh hW2).eleven.2.2.2.2.2.1
        have ch:=refHero7_any gE cE E (1+m) we (uh hW2).hold.lists.own
        obtain ⟨hh,hhe⟩:∃hh,Gd.hero E (1+m)=hh:=⟨_,rfl⟩
        rw [hhe] at ch
        have ch':=hide ch
        have HHE:=hide hhe
        clear ch hhe
        go_wp2_with fail
        refine (uh ch').mono ?_
        rintro e wf ⟨rfl,hg⟩
        have hW3:=hide ((uh hW2).on hg)
        have hR3:=hide ((uh hR2).on hg)
        have hQ3:=hide ((uh hQ2).on hg)
        have hcl3:Hid (∀x,wf.grownBy x none→x.cell? ⟨b,o+i,none⟩=some (.int .i64 v)):=fun x hx=>uh hcl2 x (gtr hg hx)
        clear hg ch' y2 b5 hW2 hR2
        by_cases hn:hh<0
        ·go_wp2_with fail
         go_meet
         exact ⟨1+m,hW3,hR3,hQ3,hcl3,⟨fun _=>⟨by omega,by omega,by rw [uh HHE];exact hn⟩,fun h=>absurd (uh HK1) h⟩⟩
        ·go_wp2
         go_roundw
         case rel=>exact ⟨q,i+1,E,gE,cE,by have:=uh HL;omega,by have:=uh HL;omega,by have:=uh HQ;omega,rfl,by go_num,hFit,hBorn,hOne,⟨fun h=>by omega,fun _ h1=>by
          by_cases e:i=0
          ·exact absurd h1 (uh hnot e)
          ·exact (uh hSt).2 (by omega) h1⟩,hW3,hR3⟩
         case measure=>simp [intOf];have:=uh HL;omega
       ·have HSD:Hid (Cr.SeatFor E kd 0):=⟨fun h=>by rw [h] at hr1;simp at hr1,fun _=>rfl⟩
        have hQ2:Hid (Lie wd Q 45 11 (Ints (En.upd st 2 0))):=(uh hQ).congr fun j _=>by
         show Value.int .i64 (st j)=.int .i64 (if j=2 then 0 else st j)
         split
         ·rename_i e
          rw [e,(uh HSF).2.2.1]
         ·rfl
        go_wp2_with fail
        go_meet
        exact ⟨0,hW1,hR1,hQ2,hcl1,HSD⟩
      case rest =>
       clear hW1 hR1 hQ hcl1 z0 hr1
       obtain ⟨sx,hW2,hR2,hQ2,hcl2,hSx⟩:=hcut
       have f6:4≤st 6:=(uh HSF).2.2.2.2.2.2.1
       have f6':st 6≤20:=(uh HSF).2.2.2.2.2.2.2.1
       go_upto_region 14 with fail
       go_cut [] from 85 to 100 (fun wx=>∃e:Nat→Int,Hid (Cr.MonAt kd q sx e)∧Hid (Gd.Law w wx T gC gE gI cC cE cI s2 g c E I)∧Hid (Lie wx R 29 11 (fun j=>#[.int .i64 0,.int .i64 0,.int .i64 0,.int .i64 0,.slice none 0 0,.slice none 0 0,.slice none 0 0,.int .i64 0,.int .i64 0,.int .i64 0,Value.int .i64 0][j]?.getD undef))∧Hid (Lie wx Q 45 11 (Ints e))∧Hid (wc.grownBy wx (some Q)))
       case first =>
        have hcell:=uh hcl2 wc (World.grownBy.refl _ _)
        have z6:wc.cell? ⟨Q,6,none⟩=some (.int .i64 (st 6)):=by
         have:=(uh hQ2).ent.2.2.2.2.2.2.1
         rwa [En.upd_other (by omega)] at this
        have z3:=(uh hQ2).ent.2.2.2.1
        have z4:=(uh hQ2).ent.2.2.2.2.1
        have z5:=(uh hQ2).ent.2.2.2.2.2.1
        have zf:=(uh hQ2).free
        have t1:(q:Int).tmod 24=(q:Int) % 24:=Int.tmod_eq_emod_of_nonneg (by omega)
        have t2:IntKind.i64.wrap ((q:Int).tdiv 24)=(q:Int) / 24:=by
         rw [Int.tdiv_eq_ediv_of_nonneg (by omega),IntKind.wrap_i64]
         omega
        have t3:Hid (IntKind.i64.wrap ((q:Int) / 24)=(q:Int) / 24):=(show IntKind.i64.wrap ((q:Int) / 24)=(q:Int) / 24 by rw [IntKind.wrap_i64];omega)
        have hmk:Hid (∀X Y m,X=(q:Int) % 24→Y=(q:Int) / 24→0≤m→m<st 6→Cr.MonAt kd q sx (En.upd (En.upd (En.upd (En.upd st 2 sx) 3 X) 4 Y) 5 (1+m))):=fun X Y m hX hY h1 h2=>⟨⟨Ft.mon_of (uh hst') kd1 kd4 (by omega) (by omega),by rw [En.upd_other (by omega),En.upd_other (by omega),En.upd_same];exact hX,by rw [En.upd_other (by omega),En.upd_same];exact hY⟩,by rw [En.upd_other (by omega),En.upd_other (by omega),En.upd_other (by omega),En.upd_same]⟩
        have hput:Hid (∀X Y m,Gd.Law w (((wc.setCell ⟨Q,3,none⟩ (.int .i64 X)).setCell ⟨Q,4,none⟩ (.int .i64 Y)).setCell ⟨Q,5,none⟩ (.int .i64 (1+m))) T gC gE gI cC cE cI s2 g c E I∧Lie (((wc.setCell ⟨Q,3,none⟩ (.int .i64 X)).setCell ⟨Q,4,none⟩ (.int .i64 Y)).setCell ⟨Q,5,none⟩ (.int .i64 (1+m))) R 29 11 (fun j=>#[.int .i64 0,.int .i64 0,.int .i64 0,.int .i64 0,.slice none 0 0,.slice none 0 0,.slice none 0 0,.int .i64 0,.int .i64 0,.int .i64 0,Value.int .i64 0][j]?.getD undef)∧Lie (((wc.setCell ⟨Q,3,none⟩ (.int .i64 X)).setCell ⟨Q,4,none⟩ (.int .i64 Y)).setCell ⟨Q,5,none⟩ (.int .i64 (1+m))) Q 45 11 (Ints (En.upd (En.upd (En.upd (En.upd st 2 sx) 3 X) 4 Y) 5 (1+m)))∧wc.grownBy (((wc.setCell ⟨Q,3,none⟩ (.int .i64 X)).setCell ⟨Q,4,none⟩ (.int .i64 Y)).setCell ⟨Q,5,none⟩ (.int .i64 (1+m))) (some Q)):=fun X Y m=>⟨(((uh hW2).off (uh hoff) 3 _).off (uh hoff) 4 _).off (uh hoff) 5 _,(((uh hR2).other (uh hoff).nR 3 _).other (uh hoff).nR 4 _).other (uh hoff).nR 5 _,(((uh hQ2).upd 3 X).upd 4 Y).upd 5 (1+m),gst (gst (gst (World.grownBy.refl _ _) _ _) _ _) _ _⟩
        go_region_held3 (fun x=>x.cell? ⟨b,o+i,none⟩=some (.int .i64 v)∧x.cell? ⟨Q,6,none⟩=some (.int .i64 (st 6))) (simp [*,World.cell?_setCell_far,World.cell?_setCell_other]) (first | (go_at_call 19;refine (uh cX _ _ _ (by omega) (by omega)).mono ?_;rintro e wy ⟨m,m0,m9,rfl,hy⟩;subst wy;have hv1:IntKind.i64.wrap (1+m)=1+m:=(by rw [IntKind.wrap_i64];omega)))
        all_goals
         go_wp2_with fail
         go_meet
         exact ⟨_,uh hmk _ _ m (by first | rfl | exact uh t3) (by first | rfl | exact uh t3) m0 m9,(uh hput _ _ m).1.on (gd1 (World.grownBy.refl _ _)),(uh hput _ _ m).2.1.on (gd1 (World.grownBy.refl _ _)),(uh hput _ _ m).2.2.1.on (gd1 (World.grownBy.refl _ _)),grown_none (uh hput _ _ m).2.2.2 (gd1 (World.grownBy.refl _ _))⟩
       case rest =>
        obtain ⟨em,hMon,hW3,hR3,hQ3,hgQ⟩:=hcut
        have hb3:Hid (b<wc.heap.size):=by have h1:=uh hbQ;have h2:=(uh hQ3).lt;exact (show b<wc.heap.size by omega)
        have hcl3:Hid (wc.cell? ⟨b,o+i,none⟩=some (.int .i64 v)):=by
         show _=_
         rw [gce (uh hgQ) b _ (by have h1:=uh hbQ;have h2:=(uh hQ2).lt;omega) (by simpa using hnb)]
         exact uh hcl2 _ (World.grownBy.refl _ _)
        clear hQ2 hW2 hR2 hcl2 hgQ f6 f6'
        go_upto_region 15 with fail
        go_cut [] from 101 to 114 (fun wx=>∃e:Nat→Int,Hid (Cr.MonAt kd q sx e)∧Hid (Gd.Law w wx T gC gE gI cC cE cI s2 g c E I)∧Hid (Lie wx R 29 11 (fun j=>#[.int .i64 0,.int .i64 0,.int .i64 0,.int .i64 0,.slice none 0 0,.slice none 0 0,.slice none 0 0,.int .i64 0,.int .i64 0,.int .i64 0,Value.int .i64 0][j]?.getD undef))∧Hid (Lie wx Q 45 11 (Ints e))∧Hid (∀x,wx.grownBy x none→x.cell? ⟨b,o+i,none⟩=some (.int .i64 v)))
        case first =>
         have hcell:=uh hcl3
         have z9:=(uh hQ3).ent.2.2.2.2.2.2.2.2.2.1
         have z10:=(uh hQ3).ent.2.2.2.2.2.2.2.2.2.2
         have zf:=(uh hQ3).free
         have hput:Hid (∀p r,0≤p→p<10→0≤r→r<10→∃e:Nat→Int,Hid (Cr.MonAt kd q sx e)∧Hid (Gd.Law w ((wc.setCell ⟨Q,9,none⟩ (.int .i64 p)).setCell ⟨Q,10,none⟩ (.int .i64 r)).drew T gC gE gI cC cE cI s2 g c E I)∧Hid (Lie ((wc.setCell ⟨Q,9,none⟩ (.int .i64 p)).setCell ⟨Q,10,none⟩ (.int .i64 r)).drew R 29 11 (fun j=>#[.int .i64 0,.int .i64 0,.int .i64 0,.int .i64 0,.slice none 0 0,.slice none 0 0,.slice none 0 0,.int .i64 0,.int .i64 0,.int .i64 0,Value.int .i64 0][j]?.getD undef))∧Hid (Lie ((wc.setCell ⟨Q,9,none⟩ (.int .i64 p)).setCell ⟨Q,10,none⟩ (.int .i64 r)).drew Q 45 11 (Ints e))∧Hid (∀x,((wc.setCell ⟨Q,9,none⟩ (.int .i64 p)).setCell ⟨Q,10,none⟩ (.int .i64 r)).drew.grownBy x none→x.cell? ⟨b,o+i,none⟩=some (.int .i64 v))):=fun p r p0 p9 r0 r9=>by
          have hdr:=gd1 (World.grownBy.refl ((wc.setCell ⟨Q,9,none⟩ (.int .i64 p)).setCell ⟨Q,10,none⟩ (.int .i64 r)) none)
          have hgq:wc.grownBy ((wc.setCell ⟨Q,9,none⟩ (.int .i64 p)).setCell ⟨Q,10,none⟩ (.int .i64 r)) (some Q):=gst (gst (World.grownBy.refl _ _) _ _) _ _
          refine ⟨_,(uh hMon).ails p0 (by omega) r0 (by omega),(((uh hW3).off (uh hoff) 9 _).off (uh hoff) 10 _).on hdr,(((uh hR3).other (uh hoff).nR 9 _).other (uh hoff).nR 10 _).on hdr,(((uh hQ3).upd 9 p).upd 10 r).on hdr,fun x hx=>?_⟩
          rw [gce (gtr hdr hx) b _ (Nat.lt_of_lt_of_le (uh hb3) hgq.size) (by simp),gce hgq b _ (uh hb3) (by simpa using hnb)]
          exact uh hcl3
         go_region_held3 (fun x=>x.cell? ⟨b,o+i,none⟩=some (.int .i64 v)) (go_keep) (first | (go_at_call 19;refine (uh cX _ _ _ (by decide) (by decide)).mono ?_;rintro e wy ⟨m,m0,m9,rfl,hy⟩;subst wy))
         all_goals
          go_wp2_with fail
          go_meet
          exact uh hput _ _ (by assumption) (by assumption) (by assumption) (by assumption)
        case rest =>
         clear hMon hW3 hR3 hQ3 hcl3 hb3
         obtain ⟨en,hMon,hW3,hR3,hQ3,hcl3⟩:=hcut
         have b5:=(uh hW3).eleven.2.2.2.2.2.1
         obtain ⟨c0,c1,c2,c3,c4,c5,c6,c7,c8,c9,c10⟩:=(uh hQ3).ent
         have csp:=hide (refSpawn_fit gE cE E en wc (uh hW3).hold.lists.own.ents (by rw [(uh hMon).pos.mon.k];exact kd1) (by rw [(uh hMon).pos.mon.k];exact kd4) (uh hFit).gens)
         unfold En.cells at csp
         go_wp2_with fail
         refine (uh csp).mono ?_
         rintro e' wg (⟨r,hr,hr0,jE,cap,rfl,hlo,hnc,hcm,hown,hgr⟩ | ⟨hfull,rfl,hgr⟩)
         ·have hW5:=hide ((uh hW3).folk hnc hlo hown hgr)
          have hR5:=hide (((uh hR3).on hgr).other (uh hRT) 5 (.slice (some ⟨jE,0,none⟩) 32 cap))
          have hF5:Hid (Ft.Fit c (En.put E r (En.gen en ((E r 1+1) % 256))) I):=(uh hFit).put ((uh hMon).pos.mon.row kd1 kd4 (by omega) (by omega))
          have hB5:Hid (Cr.Crew c (En.put E r (En.gen en ((E r 1+1) % 256)))):=(uh hBorn).put (by rw [(uh hMon).pos.mon.k,(uh hMon).seat];exact uh hSx) hr0 (uh HQ) (uh hqr (uh HQ)) (uh hMon).pos.x (uh hMon).pos.y (by
           show en 6=En.stats (en 0) 6∧en 7=En.stats (en 0) 7∧en 8=En.stats (en 0) 8
           rw [(uh hMon).pos.mon.k]
           exact ⟨(uh hMon).pos.mon.m,(uh hMon).pos.mon.atk,(uh hMon).pos.mon.dfn⟩)
          have h1s:En.put E r (En.gen en ((E r 1+1) % 256)) 1=E 1:=Ft.stays hr0 (by rw [(uh hOne).1];omega)
          have hO5:Hid (En.put E r (En.gen en ((E r 1+1) % 256)) 1 0=1∧En.put E r (En.gen en ((E r 1+1) % 256)) 1 2=0):=by
           show _∧_
           rw [h1s]
           exact uh hOne
          have hS5:Hid ((i+1=0→q+1=0∧En.put E r (En.gen en ((E r 1+1) % 256))=E0)∧(0<i+1→f 0 % 4=1→Ft.Has (En.put E r (En.gen en ((E r 1+1) % 256))) 2)):=⟨fun h=>by omega,fun _ h1=>by
           by_cases e:i=0
           ·refine ⟨r,hr,?_⟩
            rw [En.put_same]
            show en 0=2
            have:=uh hkv e
            rw [(uh hMon).pos.mon.k]
            omega
           ·exact ((uh hSt).2 (by omega) h1).put (by omega) hr0⟩
          have y5:=((uh hW3).on hgr).eleven.2.2.2.2.2.1
          have fT:=((uh hW3).on hgr).hold.box.free
          have hcl5:Hid ((wg.setCell ⟨T,5,none⟩ (.slice (some ⟨jE,0,none⟩) 32 cap)).cell? ⟨b,o+i,none⟩=some (.int .i64 v)):=by
           show _=_
           rw [World.cell?_setCell_far _ _ _ _ (uh hbT)]
           exact uh hcl3 wg hgr
          obtain ⟨E5,hE5⟩:∃E5,En.put E r (En.gen en ((E r 1+1) % 256))=E5:=⟨_,rfl⟩
          rw [hE5] at hW5 hF5 hB5 hO5 hS5
          clear hlo hnc hcm hown hgr hr0 hr h1s hE5 csp b5 c0 c1 c2 c3 c4 c5 c6 c7 c8 c9 c10 hW3 hR3 hQ3 hcl3 hMon hFit hBorn hOne
          go_upto_region 19 with fail
          generalize wg.setCell ⟨T,5,none⟩ (.slice (some ⟨jE,0,none⟩) 32 cap)=wh at hW5 hR5 hcl5 ⊢
          clear y5 fT
          have hcell:=uh hcl5
          clear hcl5
          go_wp2_with fail
          refine (uh cX _ _ _ (by decide) (by decide)).mono ?_
          rintro e wy ⟨m,m0,m9,rfl,hy⟩
          subst wy
          obtain ⟨mn,rfl⟩:∃n:Nat,m=(n:Int):=⟨m.toNat,by omega⟩
          clear hcell
          go_wp2
          go_roundw
          case rel=>exact ⟨q+1+mn,i+1,E5,jE,cap,by have:=uh HL;omega,by have:=uh HL;omega,by have:=uh HQ;omega,by go_num,by go_num,hF5,hB5,hO5,⟨fun h=>by omega,(uh hS5).2⟩,hW5,hR5⟩
          case measure=>simp [intOf];have:=uh HL;omega
         ·have hW5:=hide ((uh hW3).on hgr)
          have hR5:=hide ((uh hR3).on hgr)
          have hcl5:=hide (uh hcl3 wg hgr)
          have hS5:Hid (0<i+1→f 0 % 4=1→Ft.Has E 2):=fun _ h1=>by
           by_cases e:i=0
           ·have h0:=hfull 0 (by omega)
            rw [((uh hSt).1 e).2] at h0
            exact absurd (uh hz0) h0
           ·exact (uh hSt).2 (by omega) h1
          clear hfull hgr csp b5 c0 c1 c2 c3 c4 c5 c6 c7 c8 c9 c10 hW3 hR3 hQ3 hcl3 hMon
          have hcell:=uh hcl5
          clear hcl5
          go_wp2_with fail
          refine (uh cX _ _ _ (by decide) (by decide)).mono ?_
          rintro e wy ⟨m,m0,m9,rfl,hy⟩
          subst wy
          obtain ⟨mn,rfl⟩:∃n:Nat,m=(n:Int):=⟨m.toNat,by omega⟩
          clear hcell
          go_wp2
          go_roundw
          case rel=>exact ⟨q+1+mn,i+1,E,gE,cE,by have:=uh HL;omega,by have:=uh HL;omega,by have:=uh HQ;omega,by go_num,by go_num,hFit,hBorn,hOne,⟨fun h=>by omega,uh hS5⟩,hW5,hR5⟩
          case measure=>simp [intOf];have:=uh HL;omega
     ·have hq4':¬(q:Int)<384:=by omega
      have hq4n:384≤(q:Int):=by omega
      have hgo:Hid (0<lenK→f 0 % 4=1→Ft.Has E 2):=fun h0 h1=>(uh hSt).2 (by
       by_cases e:i=0
       ·exact absurd (uh hq0 e) hq4
       ·omega) h1
      clear hq4 hq
      go_wp2_with fail
      go_meet
      exact ⟨E,gE,cE,hFit,hBorn,hOne,hgo,hW,hR⟩
   ·have hgo:Hid (0<lenK→f 0 % 4=1→Ft.Has E 2):=fun h0 h1=>(uh hSt).2 (by omega) h1
    by_cases hl:i<lenK
    ·have hl':(i:Int)<(lenK:Int):=by omega
     have h20:¬(i:Int)<12:=by omega
     clear hlt hi hi12
     go_wp2_with fail
     go_meet
     exact ⟨E,gE,cE,hFit,hBorn,hOne,hgo,hW,hR⟩
    ·have hl':¬(i:Int)<(lenK:Int):=by omega
     clear hlt hi hi12
     go_wp2_with fail
     go_meet
     exact ⟨E,gE,cE,hFit,hBorn,hOne,hgo,hW,hR⟩
 case rest =>
  clear hW1 hR1 hfit hborn hone hroom
  obtain ⟨E,gE,cE,hFit,hBorn,hOne,hgo,hW,hR⟩:=hcut
  obtain ⟨b0,b1,b2,b3,b4,b5,b6,b7,b8,b9,b10⟩:=(uh hW).eleven
  have fz:=(uh hR).free
  obtain ⟨z0,z1,z2,z3,z4,z5,z6,z7,z8,z9,z10⟩:=Gd.res_cells (uh hR)
  have hfin:=hide (fun vs=>(uh hW).worlds (uh lC) (uh lR) (uh hR) vs)
  go_wp2
  refine bodyPost_ret (v:=.agg (Gd.world s2 gC gE gI cC cE cI g)) (by simp [results,Try.results6,go_sem,Gd.world,z0,z1,z2,z3,z4,z5,z6,z7,z8,z9,z10]) rfl ?_
  exact ⟨⟨s2,g,c,E,I⟩,⟨⟨uh hFit,(uh hBorn).1,(uh hBorn).2⟩,uh hfl,uh hgold,(uh hs3).2.2.1,(uh hs3).2.2.2.1,by show 0≤s2 3;rw [(uh hs3).2.2.2.2];decide,by show s2 3≤2;rw [(uh hs3).2.2.2.2];decide⟩,(uh hs3).1,(uh hs3).2.1,⟨s2,gC,gE,gI,cC,cE,cI,g,uh hcw,rfl⟩,uh hfin [_,_,_,_,_,_,_,_,_,_,_]⟩

end Go.Proofs.Ytapgkgbpekkdjaa
