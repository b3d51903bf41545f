import Derived.Test.YtkcooekhigmioaaGreatPart38
import Derived.Test.YtkcooekhigmioaaGreatPart36
import Derived.Test.YtkcooekhigmioaaGreatPart39
import Derived.Test.YtkcooekhigmioaaGreatPart29
namespace Go.Proofs.YtkcooekhigmioaaGreat
open Go.RowKit

def Sn.void:Array Value:=#[.int .i64 0,.int .i64 0,.int .i64 0,.int .i64 0,.slice none 0 0,.slice none 0 0,.slice none 0 0,.int .i64 0,.int .i64 0,.int .i64 0,Value.int .i64 0]

theorem Sn.worlds_congr {w w':World} {e:Ending} {s s' g g' c c':Nat→Int} {E E' I I':Nat→Nat→Int} (h:Gd.Worlds w s g c E I e w') (hs:∀k,k<4→s k=s' k) (hg:∀k,k<4→g k=g' k) (hc:∀k,k<384→c k=c' k) (hE:∀i j,i<32→j<11→E i j=E' i j) (hI:∀i j,i<40→j<4→I i j=I' i j):Gd.Worlds w s' g' c' E' I' e w':=by
 obtain ⟨gC,gE,gI,cC,cE,cI,rfl,h1,h2,h3,h4,h5,h6,h7,hL,hg2⟩:=h
 refine ⟨gC,gE,gI,cC,cE,cI,?_,h1,h2,h3,h4,h5,h6,h7,⟨hL.cells.congr fun k hk=>?_,hL.ents.congr fun k hk=>?_,hL.items.congr fun k hk=>?_⟩,hg2⟩
 ·unfold Gd.world
  rw [hs 0 (by omega),hs 1 (by omega),hs 2 (by omega),hs 3 (by omega),hg 0 (by omega),hg 1 (by omega),hg 2 (by omega),hg 3 (by omega)]
 ·show Value.int .u8 (c k)=.int .u8 (c' k)
  rw [hc k hk]
 ·show Value.int .i64 (E (k / 11) (k % 11))=.int .i64 (E' (k / 11) (k % 11))
  rw [hE _ _ (by omega) (by omega)]
 ·show Value.int .i64 (I (k / 4) (k % 4))=.int .i64 (I' (k / 4) (k % 4))
  rw [hI _ _ (by omega) (by omega)]

def Sn.Decodes (w:World) (s g c:Nat→Int) (E I:Nat→Nat→Int) (e:Ending) (w':World):Prop :=
 ∃r,Sn.Chk s g c E I r∧((r≠0∧e=.returned (.tuple #[.agg Sn.void,.int .i64 r])∧w.grownBy w' none) ∨
  (r=0∧∃v,e=.returned (.tuple #[v,.int .i64 0])∧Gd.Worlds w s g c E I (.returned v) w'))

set_option maxRecDepth 8000 in
set_option maxHeartbeats 6400000 in
theorem decode_any (G cap:Nat) (F sF gF cF:Nat→Int) (eF iF:Nat→Nat→Int) (w:World) (hS:Sn.Src w G F) (hc:918≤cap) (hm:cap≤9223372036854775807) (qs:∀k,k<4→Sn.rs F k=sF k) (qg:∀k,k<4→Sn.rg F k=gF k) (qc:∀k,k<384→Sn.rc F k=cF k) (qE:∀i j,i<32→j<11→Sn.rE F i j=eF i j) (qI:∀i j,i<40→j<4→Sn.rI F i j=iF i j) (hby':∀i,0≤cF i∧cF i≤255) :
  Calls Tryz.prog 18 #[.slice (some ⟨G,0,none⟩) 918 cap] w (Sn.Decodes w sF gF cF eF iF):=by
 obtain ⟨w0,hw0⟩:∃w0,w0=w.alloc (.cells #[.int .i64 0,.int .i64 0,.int .i64 0,.int .i64 0,.slice none 0 0,.slice none 0 0,.slice none 0 0,.int .i64 0,.int .i64 0,.int .i64 0,.int .i64 0] 31):=⟨_,rfl⟩
 have hg0:w.grownBy w0 none:=by rw [hw0];exact World.grownBy_alloc _ _ _
 obtain ⟨P,hP⟩:∃P,w.heap.size=P:=⟨_,rfl⟩
 have hR:Lie w0 P 31 11 (fun j=>#[.int .i64 0,.int .i64 0,.int .i64 0,.int .i64 0,.slice none 0 0,.slice none 0 0,.slice none 0 0,.int .i64 0,.int .i64 0,.int .i64 0,Value.int .i64 0][j]?.getD undef):=by
  rw [hw0,←hP]
  exact (Arr.lit (heap_alloc_new w _)).lie
 have hby:=hide hby'
 have cr:=hide ((snReads_any G cap F w0 (hS.on hg0 (by simp)) hc hm).mono fun e x h=>Sn.worlds_congr h qs qg qc qE qI)
 obtain ⟨D,hD⟩:∃D,Sn.Decodes w sF gF cF eF iF=D:=⟨_,rfl⟩
 have hD1:Hid (∀r x,Sn.Chk sF gF cF eF iF r→r≠0→w.grownBy x none→D (.returned (.tuple #[.agg Sn.void,.int .i64 r])) x):=fun r x h1 h2 h3=>by
  rw [←hD]
  exact ⟨r,h1,.inl ⟨h2,rfl,h3⟩⟩
 have hD0:Hid (∀v x,Sn.Chk sF gF cF eF iF 0→Gd.Worlds w sF gF cF eF iF (.returned v) x→D (.returned (.tuple #[v,.int .i64 0])) x):=fun v x h1 h2=>by
  rw [←hD]
  exact ⟨0,h1,.inr ⟨rfl,v,rfl,h2⟩⟩
 rw [hD]
 have HP:=hide hP
 have HR:=hide hR
 have HG:=hide hg0
 clear hg0 hR hP hS hc hm hD qs qg qc qE qI hby'
 go_enter Tryz.func18,Tryz.ntmps18
 go_upto_region 1 with fail
 rw [←hw0,uh HP]
 clear hw0
 go_wp2_with fail
 refine (uh cr).mono ?_
 rintro e w1 ⟨gC,gE,gI,cC,cE,cI,rfl,hcE,l1,l2,l3,n1,n2,n3,hL,hg1⟩
 have hW0:Hid (Gd.Worlds w0 sF gF cF eF iF (.returned (.agg (Gd.world sF gC gE gI cC cE cI gF))) w1):=⟨gC,gE,gI,cC,cE,cI,rfl,hcE,l1,l2,l3,n1,n2,n3,hL,hg1⟩
 obtain ⟨w2,hw2⟩:∃w2,w2=w1.alloc (.cells (Gd.world sF gC gE gI cC cE cI gF) 31):=⟨_,rfl⟩
 have hg2:w1.grownBy w2 none:=by rw [hw2];exact World.grownBy_alloc _ _ _
 have hB:Hid (Lie w2 w1.heap.size 31 11 (Gd.box sF gC gE gI cC cE cI gF)):=by show Lie w2 _ _ _ _;rw [hw2];exact (Arr.world (heap_alloc_new w1 _)).lie
 have HR2:=hide ((uh HR).on (gtr hg1 hg2))
 have HG2:=hide (gtr (uh HG) (gtr hg1 hg2))
 have HL2:=hide (hL.on hg2)
 have cc:=hide (snCheck_any sF gF cF eF iF gC gE gI cC cE cI w2 (uh HL2) (uh hby) hcE)
 have HX:Hid (32≤cE∧w0.heap.size≤gC∧w0.heap.size≤gE∧w0.heap.size≤gI∧gC≠gE∧gC≠gI∧gE≠gI):=⟨hcE,l1,l2,l3,n1,n2,n3⟩
 clear hcE l1 l2 l3 n1 n2 n3 hL hg1 hg2 cr HR hW0
 unfold Gd.world at hw2 cc ⊢
 go_upto_region 6 with fail
 rw [←hw2]
 clear hw2
 obtain ⟨B,hBe⟩:∃B,w1.heap.size=B:=⟨_,rfl⟩
 rw [hBe] at hB ⊢
 clear hBe w1
 obtain ⟨b0,b1,b2,b3,b4,b5,b6,b7,b8,b9,b10⟩:=(uh hB).eleven
 go_wp2_with fail
 refine (uh cc).mono ?_
 rintro e w3 ⟨r,rfl,hr,hg3⟩
 have HR3:=hide ((uh HR2).on hg3)
 have HG3:=hide (gtr (uh HG2) hg3)
 have HL3:=hide ((uh HL2).on hg3)
 have hB3:=hide ((uh hB).on hg3)
 have hr':=hide hr
 clear hg3 hr cc HR2 HG2 HL2 hB b0 b1 b2 b3 b4 b5 b6 b7 b8 b9 b10
 have fz:=(uh HR3).free
 obtain ⟨z0,z1,z2,z3,z4,z5,z6,z7,z8,z9,z10⟩:=Gd.res_cells (uh HR3)
 by_cases h0:r=0
 ·subst h0
  have hPl:Hid (w.heap.size≤P):=(show w.heap.size≤P by have:=uh HP;omega)
  have hfo:Hid (∀vs,D (.returned (.tuple #[.agg (Gd.world sF gC gE gI cC cE cI gF),.int .i64 0])) (w3.setCells P 0 vs)):=fun vs=>by
   obtain ⟨x1,x2,x3,x4,x5,x6,x7⟩:=uh HX
   have hs:=(uh HG).size
   have h:=uh HL3
   have hr:=uh HR3
   refine uh hD0 _ _ (uh hr') ⟨gC,gE,gI,cC,cE,cI,rfl,x1,by omega,by omega,by omega,x5,x6,x7,⟨h.cells.others (hr.type_ne h.cells (by decide)) _ _,h.ents.others (hr.type_ne h.ents (by decide)) _ _,h.items.others (hr.type_ne h.items (by decide)) _ _⟩,own_sets (uh hPl) vs 0 w3 (uh HG3)⟩
  obtain ⟨b0,b1,b2,b3,b4,b5,b6,b7,b8,b9,b10⟩:=(uh hB3).eleven
  clear HX HL3 HR3 HG3 hB3 hD0 hD1 hr' hby
  go_wp2
  refine bodyPost_ret (v:=.tuple #[.agg (Gd.world sF gC gE gI cC cE cI gF),.int .i64 0]) (by simp [results,Tryz.results18,go_sem,Gd.world,z0,z1,z2,z3,z4,z5,z6,z7,z8,z9,z10]) rfl ?_
  exact uh hfo [_,_,_,_,_,_,_,_,_,_,_]
 ·have h0':(r != 0)=true:=by simp [h0]
  have hPl:Hid (w.heap.size≤P):=(show w.heap.size≤P by have:=uh HP;omega)
  have hfo:Hid (∀vs,D (.returned (.tuple #[.agg Sn.void,.int .i64 r])) (w3.setCells P 0 vs)):=fun vs=>uh hD1 r _ (uh hr') h0 (own_sets (uh hPl) vs 0 w3 (uh HG3))
  clear HX HL3 HR3 HG3 hB3 hD0 hD1 hr' h0 hby
  go_wp2
  refine bodyPost_ret (v:=.tuple #[.agg Sn.void,.int .i64 r]) (by simp [results,Tryz.results18,go_sem,Sn.void,z0,z1,z2,z3,z4,z5,z6,z7,z8,z9,z10]) rfl ?_
  exact uh hfo [_,_,_,_,_,_,_,_,_,_,_]

end Go.Proofs.YtkcooekhigmioaaGreat

namespace Go.Proofs.YtkcooekhigmioaaGreat

theorem Sn.ent_sane {c:Nat→Int} {E I:Nat→Nat→Int} (hS:Cr.Sane c E I) {k:Nat} (hk:k<32):Sn.entC c E k=0:=by
 have hr:=hS.fit.rows k hk
 have g0:=hr.1
 have g1:=hr.2.1
 unfold Sn.entC
 by_cases h0:E k 0=0
 ·have hz:∀j,j≠1→j<11→E k j=0:=fun j j1 hj=>by
   rcases hr.2.2 with hz | ht
   ·exact hz j hj j1
   ·omega
  have hf:Sn.freeB (E k)=true:=by
   unfold Sn.freeB
   rw [decide_eq_true_eq]
   exact ⟨hz 2 (by omega) (by omega),hz 3 (by omega) (by omega),hz 4 (by omega) (by omega),hz 5 (by omega) (by omega),hz 6 (by omega) (by omega),hz 7 (by omega) (by omega),hz 8 (by omega) (by omega),hz 9 (by omega) (by omega),hz 10 (by omega) (by omega)⟩
  rw [if_pos (by omega),if_pos ⟨g0,g1⟩,if_pos h0,if_pos hf]
 ·have ht:=hr.taken h0
  have hbo:=hS.set.born k hk h0
  obtain ⟨p1,p2,p3,p4,p5⟩:=hS.set.stands.on k hk h0
  have h1:Sn.soundB (E k)=true:=by
   unfold Sn.soundB
   rw [decide_eq_true_eq]
   exact ⟨hbo.1,hbo.2.1,hbo.2.2,by omega,by omega,by omega,by omega,by omega,by omega⟩
  have h2:Sn.aloneB c E k=true:=by
   unfold Sn.aloneB
   have hat:Gr.at 384 c (E k 3) (E k 4)=c (E k 4*24+E k 3).toNat:=Gr.at_in ((Gr.inB_iff _ _).2 (by omega)) (by omega)
   rw [hat,p5,Bool.true_and,decide_eq_true_eq]
   exact En.first_none fun j hj=>by
    by_cases e:E j 0=0
    ·simp [En.atQ,e]
    ·by_cases x3:E j 3=E k 3
     ·by_cases x4:E j 4=E k 4
      ·have:=hS.set.stands.apart j k (by omega) hk e h0 x3 x4
       omega
      ·simp [En.atQ,x4]
     ·simp [En.atQ,x3]
  have h3:Sn.seatedB E k=true:=by
   unfold Sn.seatedB
   by_cases k1:E k 0=1
   ·rw [if_pos k1,decide_eq_true_eq]
    have hs:=hS.seats.seat k hk k1
    refine ⟨by omega,by omega,En.first_none fun j hj=>?_⟩
    by_cases e:E j 0=1
    ·by_cases x:E j 2=E k 2
     ·have:=hS.seats.one j k (by omega) hk e k1 x
      omega
     ·simp [En.heroQ,x]
    ·simp [En.heroQ,e]
   ·rw [if_neg k1,decide_eq_true_eq]
    exact hS.seats.none k hk h0 k1
  rw [if_pos (by omega),if_pos ⟨g0,g1⟩,if_neg h0,if_pos ⟨h1,h2,h3⟩]

theorem Sn.head_good {s g c:Nat→Int} {E I:Nat→Nat→Int} (hG:Cr.Good ⟨s,g,c,E,I⟩) (a1:0≤s 1) (a2:s 1<1073741824):Sn.headB s g=true:=by
 have f1:1≤s 2:=hG.f1
 have f3:s 2≤3:=hG.f3
 have s0:0≤s 3:=hG.s0
 have s2:s 3≤2:=hG.s2
 unfold Sn.headB Sn.numB
 rw [Bool.and_eq_true,decide_eq_true_eq]
 refine ⟨Sn.goldsB_of fun t ht=>?_,⟨a1,a2,f1,f3,s0,s2⟩⟩
 unfold Sn.goldB
 rw [decide_eq_true_eq]
 exact hG.gold t ht

theorem Sn.chk_good {s g c:Nat→Int} {E I:Nat→Nat→Int} (hG:Cr.Good ⟨s,g,c,E,I⟩) (a1:0≤s 1) (a2:s 1<1073741824):Sn.Chk s g c E I 0:=by
 obtain ⟨u,hu,hfu,hcu,hu1⟩:=Cr.up_stair hG.floor
 obtain ⟨u',d,hu'',hd,h3,h4⟩:=hG.floor.stairs
 unfold Sn.Chk
 rw [if_pos (Sn.head_good hG a1 a2),if_pos (Sn.mx_le.2 fun i _=>(hG.floor.five i).2),if_pos ⟨Sn.cnt_one hcu hu (fun i _ e=>hu1 i e),Sn.cnt_one ((h4 d).2 rfl) hd (fun i _ e=>(h4 i).1 e)⟩,if_pos (Sn.rowC_zero fun k hk=>Sn.ent_sane hG.sane hk)]
 exact .inl ⟨rfl,hG.sane.fit.ok⟩


open Go.RowKit

theorem Sn.placed_small {c r:Nat→Int} (h:Gd.Placed c r):(0≤r 0∧r 0≤255)∧(0≤r 1∧r 1≤255)∧(0≤r 2∧r 2≤255)∧0≤r 3∧r 3≤255:=by
 obtain ⟨h1,h2,h | h | h | h⟩:=h
 ·have:=(Gr.inB_iff _ _).1 h.2.1
  omega
 ·omega
 ·omega
 ·omega

theorem Sn.small {c:Nat→Int} {E I:Nat→Nat→Int} (hS:Cr.Sane c E I):(∀i j,i<32→j<11→0≤E i j∧E i j≤255)∧(∀i j,i<40→j<4→0≤I i j∧I i j≤255):=by
 refine ⟨fun i j hi hj=>?_,fun i j hi hj=>?_⟩
 ·have hr:=hS.fit.rows i hi
  by_cases h0:E i 0=0
  ·by_cases h1:j=1
   ·subst h1
    exact ⟨hr.1,hr.2.1⟩
   ·rcases hr.2.2 with hz | ht
    ·rw [hz j hj h1]
     omega
    ·omega
  ·have ht:=hr.taken h0
   obtain ⟨p1,p2,p3,p4,-⟩:=hS.set.stands.on i hi h0
   have hs:0≤E i 2∧E i 2≤3:=by
    by_cases k1:E i 0=1
    ·have:=hS.seats.seat i hi k1
     omega
    ·have:=hS.seats.none i hi h0 k1
     omega
   have g0:=hr.1
   have g1:=hr.2.1
   rcases (show j=0∨j=1∨j=2∨j=3∨j=4∨j=5∨j=6∨j=7∨j=8∨j=9∨j=10 by omega) with rfl | rfl | rfl | rfl | rfl | rfl | rfl | rfl | rfl | rfl | rfl <;> omega
 ·rcases hS.fit.ok.each i hi with hz | hp
  ·obtain ⟨z0,z1,z2,z3⟩:=hz
   rcases (show j=0∨j=1∨j=2∨j=3 by omega) with rfl | rfl | rfl | rfl <;> omega
  ·obtain ⟨q1,q2,q3,q4⟩:=Sn.placed_small hp
   rcases (show j=0∨j=1∨j=2∨j=3 by omega) with rfl | rfl | rfl | rfl <;> omega

theorem Sn.Bytes.src {w:World} {base:Nat} {v:Value} {l:List Int} (h:Sn.Bytes w base v l) (hl:l.length=918) (hb:∀b∈l,0≤b∧b≤255):∃G cap,v=.slice (some ⟨G,0,none⟩) 918 cap∧918≤cap∧cap≤9223372036854775807∧Sn.Src w G (Sn.fn l):=by
 have h':=h
 unfold Sn.Bytes at h
 rw [hl] at h
 rcases h.2 with ⟨_,h0⟩ | ⟨G,cap,cur,rfl,_,hg,h1,h2,h3,h4⟩
 ·omega
 ·refine ⟨G,cap,rfl,h1,h2,⟨lt_of_block hg,fun i hi=>?_,fun i=>?_⟩⟩
  ·rw [h.cellAt i (by omega),List.getElem?_map,Sn.fn_at (by omega)]
   rfl
  ·unfold Sn.fn
   by_cases hi:i<l.length
   ·rw [List.getElem?_eq_getElem hi]
    exact hb _ (List.getElem_mem hi)
   ·rw [List.getElem?_eq_none (by omega)]
    exact ⟨by decide,by decide⟩


open Go.RowKit

theorem Sn.decode_back (s g c:Nat→Int) (E I:Nat→Nat→Int) (base:Nat) (v:Value) (w:World) (hG:Cr.Good ⟨s,g,c,E,I⟩) (a0:-9223372036854775808≤s 0∧s 0<9223372036854775808) (a1:0≤s 1) (a2:s 1<1073741824) (hB:Sn.Bytes w base v (Sn.bytes s g c E I)) :
  ∃G cap,v=.slice (some ⟨G,0,none⟩) 918 cap∧Calls Tryz.prog 18 #[.slice (some ⟨G,0,none⟩) 918 cap] w fun e w'=>∃u,e=.returned (.tuple #[u,.int .i64 0])∧Gd.Worlds w s g c E I (.returned u) w':=by
 obtain ⟨G,cap,rfl,h1,h2,hS⟩:=hB.src (Sn.bytes_len _ _ _ _ _) (Sn.bytes_byte s g c E I hG.sane.fit.cells)
 refine ⟨G,cap,rfl,?_⟩
 have hsm:=Sn.small hG.sane
 have f1:1≤s 2:=hG.f1
 have f3:s 2≤3:=hG.f3
 have s0:0≤s 3:=hG.s0
 have s2:s 3≤2:=hG.s2
 obtain ⟨q1,q2,q3,q4,q5⟩:=Sn.back (s:=s) (g:=g) (c:=c) (E:=E) (I:=I) a0 (by omega) (by omega) (by omega) (fun t ht=>by have:=hG.gold t ht;show 0≤g t∧g t<65536;have h:0≤g t∧g t≤999:=this;omega) hsm.1 hsm.2
 refine (decode_any G cap _ s g c E I w hS h1 h2 q1 q2 q3 q4 q5 hG.sane.fit.cells).mono ?_
 rintro e w' ⟨r,hr,⟨h0,_⟩ | ⟨_,u,rfl,hu⟩⟩
 ·exact absurd ((Sn.chk_good hG a1 a2).one hr) h0
 ·exact ⟨u,rfl,hu⟩

theorem Cr.IsNew.head {seed:Int} {T:Cr.W} (h:Cr.IsNew seed T):T.s 0=seed∧T.s 1=0:=by
 obtain ⟨c,es,is,_,rfl⟩:=h
 exact ⟨rfl,rfl⟩

set_option maxRecDepth 8000 in
set_option maxHeartbeats 6400000 in
theorem known11_any (w:World):Calls Tryz.prog 6 #[] w (Says w (.bool true)):=by
 have cn:=hide (refNew_any 1 w)
 go_enter Tryz.func6,Tryz.ntmps6
 go_wp2_with fail
 refine (uh cn).mono ?_
 rintro e w1 ⟨⟨s,g,c,E,I⟩,hN,gC,gE,gI,cC,cE,cI,rfl,hcE,l1,l2,l3,n1,n2,n3,hL,hg1⟩
 have hGo:=hide hN.good
 have hHd:=hide hN.head
 obtain ⟨w2,hw2⟩:∃w2,w2=w1.alloc (.cells (Gd.world s gC gE gI cC cE cI g) 31):=⟨_,rfl⟩
 have hg2:w1.grownBy w2 none:=by rw [hw2];exact World.grownBy_alloc _ _ _
 have hB:Hid (Lie w2 w1.heap.size 31 11 (Gd.box s gC gE gI cC cE cI g)):=by show Lie w2 _ _ _ _;rw [hw2];exact (Arr.world (heap_alloc_new w1 _)).lie
 have HG2:=hide (gtr hg1 hg2)
 have HL2:=hide (hL.on hg2)
 have ce:=hide (encode_any s g c E I gC gE gI cC cE cI w2 (uh HL2) (uh hGo).sane.fit.cells hcE)
 clear cn hcE l1 l2 l3 n1 n2 n3 hL hg1 hg2 hN
 unfold Gd.world at hw2 ce ⊢
 dsimp only
 go_upto_region 2 with fail
 rw [←hw2]
 clear hw2
 obtain ⟨B,hBe⟩:∃B,w1.heap.size=B:=⟨_,rfl⟩
 rw [hBe] at hB ⊢
 clear hBe w1
 obtain ⟨b0,b1,b2,b3,b4,b5,b6,b7,b8,b9,b10⟩:=(uh hB).eleven
 go_wp2_with fail
 refine (uh ce).mono ?_
 rintro e w3 ⟨v,r,rfl,hr,-,hown,hg3⟩
 obtain rfl:r=0:=(Sn.chk_good (uh hGo) (by have:s 1=0:=(uh hHd).2;omega) (by have:s 1=0:=(uh hHd).2;omega)).one hr
 obtain ⟨G,cap,rfl,cd⟩:=Sn.decode_back s g c E I _ v w3 (uh hGo) (by have:s 0=1:=(uh hHd).1;omega) (by have:s 1=0:=(uh hHd).2;omega) (by have:s 1=0:=(uh hHd).2;omega) (hown rfl)
 have cd':=hide cd
 have HG3:=hide (gtr (uh HG2) hg3)
 have HL3:=hide ((uh HL2).on hg3)
 have hB3:=hide ((uh hB).on hg3)
 clear hr hown hg3 cd ce HG2 HL2 hB b0 b1 b2 b3 b4 b5 b6 b7 b8 b9 b10 w2
 go_wp2_with fail
 refine (uh cd').mono ?_
 rintro e w4 ⟨u,rfl,jC,jE,jI,dC,dE,dI,hu,hdE,m1,m2,m3,p1,p2,p3,hM,hg4⟩
 obtain rfl:u=.agg (Gd.world s jC jE jI dC dE dI g):=by simpa using hu
 obtain ⟨w5,hw5⟩:∃w5,w5=w4.alloc (.cells (Gd.world s jC jE jI dC dE dI g) 31):=⟨_,rfl⟩
 have hg5:w4.grownBy w5 none:=by rw [hw5];exact World.grownBy_alloc _ _ _
 have hD:Hid (Lie w5 w4.heap.size 31 11 (Gd.box s jC jE jI dC dE dI g)):=by show Lie w5 _ _ _ _;rw [hw5];exact (Arr.world (heap_alloc_new w4 _)).lie
 have HG5:=hide (gtr (uh HG3) (gtr hg4 hg5))
 have hB5:=hide ((uh hB3).on (gtr hg4 hg5))
 have cs:=hide (same7_any s g c E I jC jE jI dC dE dI gC gE gI cC cE cI w5 (hM.on hg5) ((uh HL3).on (gtr hg4 hg5)))
 clear cd' hu hdE m1 m2 m3 p1 p2 p3 hM hg4 hg5 HG3 HL3 hB3
 unfold Gd.world at hw5 cs ⊢
 go_upto_region 4 with fail
 rw [←hw5]
 clear hw5
 obtain ⟨D,hDe⟩:∃D,w4.heap.size=D:=⟨_,rfl⟩
 rw [hDe] at hD ⊢
 clear hDe
 clear w3 w4
 obtain ⟨b0,b1,b2,b3,b4,b5,b6,b7,b8,b9,b10⟩:=(uh hB5).eleven
 obtain ⟨y0,y1,y2,y3,y4,y5,y6,y7,y8,y9,y10⟩:=(uh hD).eleven
 go_wp2_with fail
 refine (uh cs).mono ?_
 rintro e w6 ⟨rfl,hg6⟩
 have hgf:=hide (gtr (uh HG5) hg6)
 clear hg6 cs b0 b1 b2 b3 b4 b5 b6 b7 b8 b9 b10 y0 y1 y2 y3 y4 y5 y6 y7 y8 y9 y10 hB5 hD HG5
 go_wp2
 go_ret
 exact ⟨rfl,uh hgf⟩


open Go.RowKit

def Sn.prV (P:List (Int × Int)):List Value:=P.flatMap fun p=>[.int .i64 p.1,.int .i64 p.2]

theorem Sn.prV_more (P:List (Int × Int)) (a b:Int):Sn.prV (P ++ [(a,b)])=Sn.prV P ++ [.int .i64 a,.int .i64 b]:=by
 unfold Sn.prV
 rw [List.flatMap_append]
 rfl

structure Sn.Rr (w x:World) (base:Nat) (v:Value) (P:List (Int × Int)):Prop where
 own:x.ownsRow base 97 2 v P.length (Sn.prV P)
 bel:Below base w x

theorem Sn.Rr.top {w x:World} {base:Nat} {v:Value} {P:List (Int × Int)} (h:Sn.Rr w x base v P) (hb:base≤w.heap.size):base≤x.heap.size:=Nat.le_trans hb h.bel.size

theorem Sn.Rr.on {w x y:World} {base:Nat} {v:Value} {P:List (Int × Int)} (h:Sn.Rr w x base v P) (hb:base≤w.heap.size) (hg:x.grownBy y none):Sn.Rr w y base v P :=
 ⟨h.own.kept hg (by cases v.ownBlock <;> simp),h.bel.trans (Sn.below hg (fun k e=>by cases e) (h.top hb))⟩

theorem Sn.Rr.more {w x y x':World} {base:Nat} {v v':Value} {P:List (Int × Int)} {a b:Int} (h:Sn.Rr w x base v P) (hb:base≤w.heap.size) (hxy:x.grownBy y none) (hown:x'.ownsRow base 97 2 v' (P.length+1) (Sn.prV P ++ [.int .i64 a,.int .i64 b])) (hg:y.grownBy x' v.ownBlock):Sn.Rr w x' base v' (P ++ [(a,b)]):=by
 have hb1:Below base x y:=Sn.below hxy (fun k e=>by cases e) (h.top hb)
 have hb2:=Sn.below hg (fun k e=>(h.own.lt k e).1) (Nat.le_trans (h.top hb) hb1.size)
 refine ⟨?_,h.bel.trans (hb1.trans hb2)⟩
 rw [List.length_append,Sn.prV_more]
 exact hown

def Sn.Brings (w:World) (P:List (Int × Int)) (e:Ending) (w':World):Prop :=
 ∃v base,e=.returned v∧w.heap.size≤base∧w'.ownsRow base 97 2 v P.length (Sn.prV P)∧w.grownBy w' none

theorem Sn.rwE_len (q:Nat→Bool):∀k,(Sn.rwE q k).length≤k
 | 0=>Nat.le_refl _
 | k+1=>by
  have:=Sn.rwE_len q k
  unfold Sn.rwE
  rw [List.length_append]
  split <;> simp <;> omega

theorem Sn.rwI_len (q:Nat→Bool):∀k,(Sn.rwI q k).length≤k
 | 0=>Nat.le_refl _
 | k+1=>by
  have:=Sn.rwI_len q k
  unfold Sn.rwI
  rw [List.length_append]
  split <;> simp <;> omega

set_option maxRecDepth 16000 in
set_option maxHeartbeats 12800000 in
theorem refRows_any (s t g h c d:Nat→Int) (E F I J:Nat→Nat→Int) (gC gE gI cC cE cI jC jE jI dC dE dI:Nat) (w:World) (hL:Gd.Lists w gC gE gI c E I) (hL2:Gd.Lists w jC jE jI d F J) (hc:∀i,0≤c i∧c i≤255) (hd:∀i,0≤d i∧d i≤255) :
  Calls Tryz.prog 24 #[.agg (Gd.world s gC gE gI cC cE cI g),.agg (Gd.world t jC jE jI dC dE dI h)] w (Sn.Brings w (Sn.rw s t g h c d E F I J)):=by
 obtain ⟨W0,hW⟩:∃W,W=(w.alloc (.cells (Gd.world s gC gE gI cC cE cI g) 31)).alloc (.cells (Gd.world t jC jE jI dC dE dI h) 31):=⟨_,rfl⟩
 have hg:w.grownBy W0 none:=by rw [hW];exact gal (World.grownBy_alloc _ _ _) _
 have x1:Lie W0 w.heap.size 31 11 (Gd.box s gC gE gI cC cE cI g):=by
  rw [hW]
  exact ((Arr.world (heap_alloc_new w _)).alloc _).lie
 have x2:Lie W0 (w.heap.size+1) 31 11 (Gd.box t jC jE jI dC dE dI h):=by
  rw [hW]
  have hh:=heap_alloc_new (w.alloc (.cells (Gd.world s gC gE gI cC cE cI g) 31)) (.cells (Gd.world t jC jE jI dC dE dI h) 31)
  rw [show (w.alloc (.cells (Gd.world s gC gE gI cC cE cI g) 31)).heap.size=w.heap.size+1 by simp] at hh
  exact (Arr.world hh).lie
 obtain ⟨B,hB⟩:∃B,w.heap.size=B:=⟨_,rfl⟩
 obtain ⟨base,hbase⟩:∃base,W0.heap.size=base:=⟨_,rfl⟩
 have HB0:Hid (base≤W0.heap.size):=(show base≤W0.heap.size by omega)
 have HB:Hid (w.heap.size=B∧B+2=base):=⟨hB,by rw [←hbase,hW,←hB];simp⟩
 rw [hB] at x1 x2
 have lC:=hide (And.intro hL.cells.lt (And.intro hL.ents.lt (And.intro hL.items.lt (And.intro hL2.cells.lt (And.intro hL2.ents.lt hL2.items.lt)))))
 have hbx:Hid (∀x,Below base W0 x→Lie x B 31 11 (Gd.box s gC gE gI cC cE cI g)∧Lie x (B+1) 31 11 (Gd.box t jC jE jI dC dE dI h)∧Gd.Lists x gC gE gI c E I∧Gd.Lists x jC jE jI d F J):=fun x hx=>by
  obtain ⟨e1,e2⟩:=uh HB
  obtain ⟨l1,l2,l3,l4,l5,l6⟩:=uh lC
  exact ⟨x1.below hx (by omega),x2.below hx (by omega),(hL.on hg).below hx (by omega) (by omega) (by omega),(hL2.on hg).below hx (by omega) (by omega) (by omega)⟩
 have hg':=hide hg
 obtain ⟨k0,e0⟩:∃k,Sn.sameH s t g h=k:=⟨_,rfl⟩
 obtain ⟨k1,e1⟩:∃k,Sn.allB (fun i=>c i == d i) 384=k:=⟨_,rfl⟩
 obtain ⟨qE,hqE'⟩:∃q:Nat→Bool,(fun i=>Sn.sameE (E i) (F i))=q:=⟨_,rfl⟩
 obtain ⟨qI,hqI'⟩:∃q:Nat→Bool,(fun i=>Sn.sameI (I i) (J i))=q:=⟨_,rfl⟩
 have hqE:Hid (∀k,qE k=Sn.sameE (E k) (F k)):=fun k=>by rw [←hqE']
 have hqI:Hid (∀k,qI k=Sn.sameI (I k) (J k)):=fun k=>by rw [←hqI']
 obtain ⟨X,hX⟩:∃T,Gd.text c=T:=⟨_,rfl⟩
 obtain ⟨Y,hY⟩:∃T,Gd.text d=T:=⟨_,rfl⟩
 have hXY:(X.toList == Y.toList)=k1:=by rw [←hX,←hY,←e1];exact Sn.text_ne hc hd
 have htx:Hid (∀x,Below base W0 x→(convert 26 9 (.slice (some ⟨gC,0,none⟩) 384 cC)).run Tryz.prog x=.ok (.string X) x∧(convert 26 9 (.slice (some ⟨jC,0,none⟩) 384 dC)).run Tryz.prog x=.ok (.string Y) x):=fun x hx=>by
  rw [←hX,←hY]
  exact ⟨(uh hbx x hx).2.2.1.cells.text,(uh hbx x hx).2.2.2.cells.text⟩
 have hk0:Hid ((∀j,j<4→s j≠t j→k0=false)∧(Sn.sameG g h=false→k0=false)∧((∀j,j<4→s j=t j)→Sn.sameG g h=true→k0=true)):=by
  rw [←e0]
  exact ⟨fun j hj hn=>Sn.sameH_no_s hj hn,fun e=>by unfold Sn.sameH;rw [e];simp,fun h1 h2=>(Sn.sameH_iff s t g h).2 ⟨h1,(Sn.sameG_iff g h).1 h2⟩⟩
 have hpost:Hid (∀v x,Sn.Rr W0 x base v (Sn.rwH k0 ++ Sn.rwC k1 ++ Sn.rwE qE 32 ++ Sn.rwI qI 40)→Sn.Brings w (Sn.rw s t g h c d E F I J) (.returned v) x):=fun v x hx=>by
  obtain ⟨f1,f2⟩:=uh HB
  refine ⟨v,base,rfl,by omega,?_,below_grown (Sn.below_trans (none_below (uh hg')) (hx.bel.mono (by omega)))⟩
  unfold Sn.rw
  rw [e0,e1,hqE',hqI']
  exact hx.own
 obtain ⟨D,hD⟩:∃D,Sn.Brings w (Sn.rw s t g h c d E F I J)=D:=⟨_,rfl⟩
 rw [hD] at hpost ⊢
 have hgold:=fun wx=>run_ne_gold g h wx
 obtain ⟨m,hm⟩:∃m,Sn.sameG g h=m:=⟨_,rfl⟩
 rw [hm] at hgold hk0
 obtain ⟨i0,hi,hz0,hz1,hz2⟩:=info_parts info_row
 have hX0:Hid (Sn.Rr W0 W0 base (.slice none 0 0) []):=⟨World.ownsRow_nil _ _ _ _,Below.refl _ _⟩
 clear hL hL2 hg x1 x2 e0 e1 hD lC hqE' hqI' hX hY hm hc hd
 unfold Gd.world at hW ⊢
 go_enter Tryz.func24,Tryz.ntmps24
 go_upto_region 2 with fail
 rw [←hW]
 clear hW hB hbase
 go_cut [40] from 8 to 39 (fun v40 wx=>v40=.bool (!k0)∧wx=W0)
 case first =>
  obtain ⟨a0,a1,a2,a3,a4,a5,a6,a7,a8,a9,a10⟩:=(uh hbx _ (Below.refl _ _)).1.eleven
  obtain ⟨b0,b1,b2,b3,b4,b5,b6,b7,b8,b9,b10⟩:=(uh hbx _ (Below.refl _ _)).2.1.eleven
  by_cases q0:s 0=t 0
  ·have r0:(s 0 != t 0)=false:=by simp [q0]
   clear q0
   by_cases q1:s 1=t 1
   ·have r1:(s 1 != t 1)=false:=by simp [q1]
    clear q1
    by_cases q2:s 2=t 2
    ·have r2:(s 2 != t 2)=false:=by simp [q2]
     clear q2
     by_cases q3:s 3=t 3
     ·have r3:(s 3 != t 3)=false:=by simp [q3]
      clear q3
      have HS:Hid (∀j,j<4→s j=t j):=fun j hj=>by
       have e0:s 0=t 0:=by simpa using r0
       have e1:s 1=t 1:=by simpa using r1
       have e2:s 2=t 2:=by simpa using r2
       have e3:s 3=t 3:=by simpa using r3
       rcases (show j=0∨j=1∨j=2∨j=3 by omega) with rfl | rfl | rfl | rfl <;> assumption
      cases m with
      | false =>
       have hk:=hide ((uh hk0).2.1 rfl)
       go_wp2_with fail
       go_meet
       exact ⟨by rw [uh hk];rfl,rfl⟩
      | true =>
       have hk:=hide ((uh hk0).2.2 (uh HS) rfl)
       go_wp2_with fail
       go_meet
       exact ⟨by rw [uh hk];rfl,rfl⟩
     ·have r3:(s 3 != t 3)=true:=by simp [q3]
      have hk:=hide ((uh hk0).1 3 (by omega) q3)
      clear q3
      go_wp2_with fail
      go_meet
      exact ⟨by rw [uh hk];rfl,rfl⟩
    ·have r2:(s 2 != t 2)=true:=by simp [q2]
     have hk:=hide ((uh hk0).1 2 (by omega) q2)
     clear q2
     go_wp2_with fail
     go_meet
     exact ⟨by rw [uh hk];rfl,rfl⟩
   ·have r1:(s 1 != t 1)=true:=by simp [q1]
    have hk:=hide ((uh hk0).1 1 (by omega) q1)
    clear q1
    go_wp2_with fail
    go_meet
    exact ⟨by rw [uh hk];rfl,rfl⟩
  ·have r0:(s 0 != t 0)=true:=by simp [q0]
   have hk:=hide ((uh hk0).1 0 (by omega) q0)
   clear q0
   go_wp2_with fail
   go_meet
   exact ⟨by rw [uh hk];rfl,rfl⟩
 case rest =>
 obtain ⟨rfl,hcw⟩:=hcut
 obtain rfl:W0=wc:=hcw.symm
 clear hgold hk0
 go_upto_if 40 with fail
 go_cut [5] from 40 to 44 (fun v5 wx=>Hid (Sn.Rr W0 wx base v5 (Sn.rwH k0)))
 case first =>
  cases k0 with
  | true =>
   go_wp2
   go_meet
   exact hX0
  | false =>
   go_wp2_with (at_builtin;refine wpList_append_own _ rfl _ _ 56 rfl base 97 i0 (.agg #[.int .i64 0,.int .i64 0]) 2 16 Tryz.underlying56 hi hz0 hz1 hz2 rfl (by decide) _ _ _ rfl ((uh hX0).own.alloc _) ⟨W0.heap.size,0,none⟩ 1 1 [.int .i64 0,.int .i64 0] rfl rfl (Sn.news W0 #[.int .i64 0,.int .i64 0] _ _ rfl) ?_ ?_ ?_ ?_ ?_)
   ·first | rfl | (intro u hu;simp only [List.mem_cons,List.not_mem_nil,or_false] at hu;rcases hu with rfl | rfl <;> rfl) | simp [Value.oneCell']
   ·first | (unfold maxLen;omega) | (unfold maxLen;simp)
   ·have:=(uh hX0).top (uh HB0);first | omega | (simp;omega)
   intro v4 w4 hown hgrow _
   have hX3:Hid (Sn.Rr W0 w4 base v4 (Sn.rwH false)):=(uh hX0).more (a:=0) (b:=0) (uh HB0) (World.grownBy_alloc _ _ _) hown hgrow
   clear hown hgrow
   go_wp2
   go_meet
   exact hX3
 case rest =>
 have hX1:Hid (Sn.Rr W0 wc base u5 (Sn.rwH k0)):=hcut
 clear hcut hX0
 obtain ⟨LH,hLH⟩:∃L,Sn.rwH k0=L:=⟨_,rfl⟩
 have hLHl:Hid (LH.length≤1):=by
  show LH.length≤1
  rw [←hLH]
  unfold Sn.rwH
  split <;> simp
 rw [hLH] at hX1 hpost
 clear hLH
 have b4:=(uh hbx _ (uh hX1).bel).1.eleven.2.2.2.2.1
 have d4:=(uh hbx _ (uh hX1).bel).2.1.eleven.2.2.2.2.1
 obtain ⟨t1,t2⟩:=uh htx _ (uh hX1).bel
 go_upto_if 51 with fail
 clear b4 d4 t1 t2 hXY htx
 go_cut [5] from 51 to 55 (fun v5 wx=>Hid (Sn.Rr W0 wx base v5 (LH ++ Sn.rwC k1)))
 case first =>
  cases k1 with
  | true =>
   have hX2:Hid (Sn.Rr W0 wc base u5 (LH ++ Sn.rwC true)):=by
    show Sn.Rr _ _ _ _ (LH ++ [])
    rw [List.append_nil]
    exact hX1
   go_wp2
   go_meet
   exact hX2
  | false =>
   have hll:=uh hLHl
   go_wp2_with (at_builtin;refine wpList_append_own _ rfl _ _ 56 rfl base 97 i0 (.agg #[.int .i64 0,.int .i64 0]) 2 16 Tryz.underlying56 hi hz0 hz1 hz2 rfl (by decide) _ _ _ rfl ((uh hX1).own.alloc _) ⟨wc.heap.size,0,none⟩ 1 1 [.int .i64 1,.int .i64 0] rfl rfl (Sn.news wc #[.int .i64 1,.int .i64 0] _ _ rfl) ?_ ?_ ?_ ?_ ?_)
   ·first | rfl | (intro u hu;simp only [List.mem_cons,List.not_mem_nil,or_false] at hu;rcases hu with rfl | rfl <;> rfl) | simp [Value.oneCell']
   ·unfold maxLen;omega
   ·omega
   ·have:=(uh hX1).top (uh HB0);first | omega | (simp;omega)
   intro v4 w4 hown hgrow _
   have hX3:Hid (Sn.Rr W0 w4 base v4 (LH ++ Sn.rwC false)):=(uh hX1).more (a:=1) (b:=0) (uh HB0) (World.grownBy_alloc _ _ _) hown hgrow
   clear hown hgrow
   go_wp2
   go_meet
   exact hX3
 case rest =>
 have hX2:Hid (Sn.Rr W0 wc base u5 (LH ++ Sn.rwC k1)):=hcut
 clear hcut hX1
 obtain ⟨LC,hLC⟩:∃L,LH ++ Sn.rwC k1=L:=⟨_,rfl⟩
 have hLCl:Hid (LC.length≤2):=by
  have h1:=uh hLHl
  show LC.length≤2
  rw [←hLC,List.length_append]
  unfold Sn.rwC
  split <;> simp <;> omega
 rw [hLC] at hX2 hpost
 clear hLC hLHl
 go_wp2_with fail
 go_loopw [5,6] (fun v5 vk wr=>∃k:Nat,k≤32∧vk=.int .i64 (k:Int)∧Hid (Sn.Rr W0 wr base v5 (LC ++ Sn.rwE qE k))) (fun _ vk _=>60 - (intOf vk).toNat)
 case atStart=>exact ⟨0,by omega,rfl,by rw [show Sn.rwE qE 0=[] from rfl,List.append_nil];exact hX2⟩
 case round =>
  clear hX2
  obtain ⟨k,hk,rfl,hX⟩:=hrel
  have b5:=(uh hbx _ (uh hX).bel).1.eleven.2.2.2.2.2.1
  have d5:=(uh hbx _ (uh hX).bel).2.1.eleven.2.2.2.2.2.1
  by_cases hlt:k<32
  ·have hlt':(k:Int)<32:=by omega
   have HL:=hide hlt
   have hll:Hid ((LC ++ Sn.rwE qE k).length≤34):=by
    show (LC ++ Sn.rwE qE k).length≤34
    have:=uh hLCl;have:=Sn.rwE_len qE k;rw [List.length_append];omega
   obtain ⟨r0,r1,r2,r3,r4,r5,r6,r7,r8,r9,r10⟩:=(uh hbx _ (uh hX).bel).2.2.1.own.ents.row (uh HL)
   obtain ⟨v0,v1,v2,v3,v4,v5,v6,v7,v8,v9,v10⟩:=(uh hbx _ (uh hX).bel).2.2.2.own.ents.row (uh HL)
   have hcmp:∀wx:World,(binOp .neq 70 (.agg #[.int .i64 (E k 0),.int .i64 (E k 1),.int .i64 (E k 2),.int .i64 (E k 3),.int .i64 (E k 4),.int .i64 (E k 5),.int .i64 (E k 6),.int .i64 (E k 7),.int .i64 (E k 8),.int .i64 (E k 9),.int .i64 (E k 10)]) (.agg #[.int .i64 (F k 0),.int .i64 (F k 1),.int .i64 (F k 2),.int .i64 (F k 3),.int .i64 (F k 4),.int .i64 (F k 5),.int .i64 (F k 6),.int .i64 (F k 7),.int .i64 (F k 8),.int .i64 (F k 9),.int .i64 (F k 10)])).run Tryz.prog wx=.ok (.bool (!Sn.sameE (E k) (F k))) wx:=fun wx=>run_ne_ent (E k) (F k) wx
   have hmo:Hid (Sn.rwE qE (k+1)=Sn.rwE qE k ++ if qE k=true then [] else [(2,(k:Int))]):=rfl
   have hqk:Hid (qE k=Sn.sameE (E k) (F k)):=uh hqE k
   obtain ⟨p,hp⟩:∃p,Sn.sameE (E k) (F k)=p:=⟨_,rfl⟩
   rw [hp] at hcmp hqk
   have hmo1:Hid (Sn.rwE qE (k+1)=Sn.rwE qE k ++ if p=true then [] else [(2,(k:Int))]):=by rw [←uh hqk];exact uh hmo
   have hXd:Hid (∀m,Sn.Rr W0 (wr.drewN m) base u5 (LC ++ Sn.rwE qE k)):=fun m=>(uh hX).on (uh HB0) (gdw (World.grownBy.refl _ none) m)
   clear hlt hk hp hmo hqk
   go_wp2_with fail
   go_quiet (fail)
   have hX5:=hide (uh hXd nq)
   clear hXd hX r0 r1 r2 r3 r4 r5 r6 r7 r8 r9 r10 v0 v1 v2 v3 v4 v5 v6 v7 v8 v9 v10 hcmp b5 d5
   generalize wr.drewN nq=w5 at hX5 ⊢
   cases p with
   | true =>
    rw [if_pos rfl,List.append_nil] at hmo1
    have hX6:Hid (Sn.Rr W0 w5 base u5 (LC ++ Sn.rwE qE (k+1))):=by
     rw [uh hmo1]
     exact hX5
    go_wp2
    go_roundw
    case rel=>exact ⟨k+1,by have:=uh HL;omega,by go_num,hX6⟩
    case measure=>simp [intOf];have:=uh HL;omega
   | false =>
    have hmo':Hid (Sn.rwE qE (k+1)=Sn.rwE qE k ++ [(2,(k:Int))]):=uh hmo1
    obtain ⟨l,hl⟩:∃l,LC ++ Sn.rwE qE k=l:=⟨_,rfl⟩
    rw [hl] at hX5 hll
    have hl':=hide hl
    clear hl hmo1
    go_upto_region 10 with fail
    go_wp2_with (at_builtin;refine wpList_append_own _ rfl _ _ 56 rfl base 97 i0 (.agg #[.int .i64 0,.int .i64 0]) 2 16 Tryz.underlying56 hi hz0 hz1 hz2 rfl (by decide) _ _ _ rfl ((uh hX5).own.alloc _) ⟨w5.heap.size,0,none⟩ 1 1 [.int .i64 2,.int .i64 (k:Int)] rfl rfl (Sn.news w5 #[.int .i64 2,.int .i64 (k:Int)] _ _ rfl) ?_ ?_ ?_ ?_ ?_)
    ·first | rfl | (intro u hu;simp only [List.mem_cons,List.not_mem_nil,or_false] at hu;rcases hu with rfl | rfl <;> rfl) | simp [Value.oneCell']
    ·have:=uh hll;unfold maxLen;omega
    ·have:=uh hll;omega
    ·have:=(uh hX5).top (uh HB0);first | omega | (simp;omega)
    intro v6 w6 hown hgrow _
    have hX6:Hid (Sn.Rr W0 w6 base v6 (LC ++ Sn.rwE qE (k+1))):=by
     rw [uh hmo',←List.append_assoc,uh hl']
     exact (uh hX5).more (uh HB0) (World.grownBy_alloc _ _ _) hown hgrow
    clear hown hgrow hX5
    go_wp2
    go_roundw
    case rel=>exact ⟨k+1,by have:=uh HL;omega,by go_num,hX6⟩
    case measure=>simp [intOf];have:=uh HL;omega
  ·obtain rfl:k=32:=by omega
   have hge:¬((32:Nat):Int)<32:=by omega
   clear hlt hk
   clear b5 d5
   obtain ⟨LE,hLE⟩:∃L,LC ++ Sn.rwE qE 32=L:=⟨_,rfl⟩
   have hLEl:Hid (LE.length≤34):=by
    have h1:=uh hLCl
    have h2:=Sn.rwE_len qE 32
    show LE.length≤34
    rw [←hLE,List.length_append]
    omega
   rw [hLE] at hX hpost
   have b5:=(uh hbx _ (uh hX).bel).1.eleven.2.2.2.2.2.1
   clear hLE
   go_wp2_with fail
   clear b5
   go_loopw [5,7] (fun v5 vk wr=>∃k:Nat,k≤40∧vk=.int .i64 (k:Int)∧Hid (Sn.Rr W0 wr base v5 (LE ++ Sn.rwI qI k))) (fun _ vk _=>60 - (intOf vk).toNat)
   case atStart=>exact ⟨0,by omega,rfl,by rw [show Sn.rwI qI 0=[] from rfl,List.append_nil];exact hX⟩
   case round =>
    clear hX hge
    obtain ⟨k,hk,rfl,hX⟩:=hrel
    have b5:=(uh hbx _ (uh hX).bel).1.eleven.2.2.2.2.2.2.1
    have d5:=(uh hbx _ (uh hX).bel).2.1.eleven.2.2.2.2.2.2.1
    by_cases hlt:k<40
    ·have hlt':(k:Int)<40:=by omega
     have HL:=hide hlt
     have hll:Hid ((LE ++ Sn.rwI qI k).length≤74):=by
      show (LE ++ Sn.rwI qI k).length≤74
      have:=uh hLEl;have:=Sn.rwI_len qI k;rw [List.length_append];omega
     obtain ⟨r0,r1,r2,r3⟩:=(uh hbx _ (uh hX).bel).2.2.1.its.row (uh HL)
     obtain ⟨v0,v1,v2,v3⟩:=(uh hbx _ (uh hX).bel).2.2.2.its.row (uh HL)
     have hcmp:∀wx:World,(binOp .neq 72 (.agg #[.int .i64 (I k 0),.int .i64 (I k 1),.int .i64 (I k 2),.int .i64 (I k 3)]) (.agg #[.int .i64 (J k 0),.int .i64 (J k 1),.int .i64 (J k 2),.int .i64 (J k 3)])).run Tryz.prog wx=.ok (.bool (!Sn.sameI (I k) (J k))) wx:=fun wx=>run_ne_item (I k 0) (I k 1) (I k 2) (I k 3) (J k 0) (J k 1) (J k 2) (J k 3) wx
     have hmo:Hid (Sn.rwI qI (k+1)=Sn.rwI qI k ++ if qI k=true then [] else [(3,(k:Int))]):=rfl
     have hqk:Hid (qI k=Sn.sameI (I k) (J k)):=uh hqI k
     obtain ⟨p,hp⟩:∃p,Sn.sameI (I k) (J k)=p:=⟨_,rfl⟩
     rw [hp] at hcmp hqk
     have hmo1:Hid (Sn.rwI qI (k+1)=Sn.rwI qI k ++ if p=true then [] else [(3,(k:Int))]):=by rw [←uh hqk];exact uh hmo
     have hXd:Hid (∀m,Sn.Rr W0 (wr.drewN m) base u5 (LE ++ Sn.rwI qI k)):=fun m=>(uh hX).on (uh HB0) (gdw (World.grownBy.refl _ none) m)
     clear hlt hk hp hmo hqk
     go_wp2_with fail
     go_quiet (fail)
     have hX5:=hide (uh hXd nq)
     clear hXd hX r0 r1 r2 r3 v0 v1 v2 v3 hcmp b5 d5
     generalize wr.drewN nq=w5 at hX5 ⊢
     cases p with
     | true =>
      rw [if_pos rfl,List.append_nil] at hmo1
      have hX6:Hid (Sn.Rr W0 w5 base u5 (LE ++ Sn.rwI qI (k+1))):=by
       rw [uh hmo1]
       exact hX5
      go_wp2
      go_roundw
      case rel=>exact ⟨k+1,by have:=uh HL;omega,by go_num,hX6⟩
      case measure=>simp [intOf];have:=uh HL;omega
     | false =>
      have hmo':Hid (Sn.rwI qI (k+1)=Sn.rwI qI k ++ [(3,(k:Int))]):=uh hmo1
      obtain ⟨l,hl⟩:∃l,LE ++ Sn.rwI qI k=l:=⟨_,rfl⟩
      rw [hl] at hX5 hll
      have hl':=hide hl
      clear hl hmo1
      go_upto_region 15 with fail
      go_wp2_with (at_builtin;refine wpList_append_own _ rfl _ _ 56 rfl base 97 i0 (.agg #[.int .i64 0,.int .i64 0]) 2 16 Tryz.underlying56 hi hz0 hz1 hz2 rfl (by decide) _ _ _ rfl ((uh hX5).own.alloc _) ⟨w5.heap.size,0,none⟩ 1 1 [.int .i64 3,.int .i64 (k:Int)] rfl rfl (Sn.news w5 #[.int .i64 3,.int .i64 (k:Int)] _ _ rfl) ?_ ?_ ?_ ?_ ?_)
      ·first | rfl | (intro u hu;simp only [List.mem_cons,List.not_mem_nil,or_false] at hu;rcases hu with rfl | rfl <;> rfl) | simp [Value.oneCell']
      ·have:=uh hll;unfold maxLen;omega
      ·have:=uh hll;omega
      ·have:=(uh hX5).top (uh HB0);first | omega | (simp;omega)
      intro v6 w6 hown hgrow _
      have hX6:Hid (Sn.Rr W0 w6 base v6 (LE ++ Sn.rwI qI (k+1))):=by
       rw [uh hmo',←List.append_assoc,uh hl']
       exact (uh hX5).more (uh HB0) (World.grownBy_alloc _ _ _) hown hgrow
      clear hown hgrow hX5
      go_wp2
      go_roundw
      case rel=>exact ⟨k+1,by have:=uh HL;omega,by go_num,hX6⟩
      case measure=>simp [intOf];have:=uh HL;omega
    ·obtain rfl:k=40:=by omega
     have hge:¬((40:Nat):Int)<40:=by omega
     clear hlt hk
     have hfin:=hide (uh hpost _ _ (uh hX))
     go_wp2
     exact uh hfin

end Go.Proofs.YtkcooekhigmioaaGreat
