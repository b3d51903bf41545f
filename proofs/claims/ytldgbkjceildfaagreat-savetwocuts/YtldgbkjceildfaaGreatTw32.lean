import Derived.Test.YtldgbkjceildfaaGreatTw24
import Derived.Test.YtldgbkjceildfaaGreatTw31
import Derived.Test.YtldgbkjceildfaaGreatTw26
namespace Go.Proofs.YtldgbkjceildfaaGreat
open Go.RowKit

def Sn.void:Array Value:=#[.int .i64 0,.int .i64 0,.int .i64 0,.int .i64 0,.slice none 0 0,.slice none 0 0,.slice none 0 0,.int .i64 0,.int .i64 0,.int .i64 0,Value.int .i64 0]

theorem Sn.worlds_congr {w w':World} {e:Ending} {s s' g g' c c':Nat→Int} {E E' I I':Nat→Nat→Int} (h:Gd.Worlds w s g c E I e w') (hs:∀k,k<4→s k=s' k) (hg:∀k,k<4→g k=g' k) (hc:∀k,k<384→c k=c' k) (hE:∀i j,i<32→j<11→E i j=E' i j) (hI:∀i j,i<40→j<4→I i j=I' i j):Gd.Worlds w s' g' c' E' I' e w':=by
 obtain ⟨gC,gE,gI,cC,cE,cI,rfl,h1,h2,h3,h4,h5,h6,h7,hL,hg2⟩:=h
 refine ⟨gC,gE,gI,cC,cE,cI,?_,h1,h2,h3,h4,h5,h6,h7,⟨hL.cells.congr fun k hk=>?_,hL.ents.congr fun k hk=>?_,hL.items.congr fun k hk=>?_⟩,hg2⟩
 ·unfold Gd.world
  rw [hs 0 (by omega),hs 1 (by omega),hs 2 (by omega),hs 3 (by omega),hg 0 (by omega),hg 1 (by omega),hg 2 (by omega),hg 3 (by omega)]
 ·show Value.int .u8 (c k)=.int .u8 (c' k)
  rw [hc k hk]
 ·show Value.int .i64 (E (k / 11) (k % 11))=.int .i64 (E' (k / 11) (k % 11))
  rw [hE _ _ (by omega) (by omega)]
 ·show Value.int .i64 (I (k / 4) (k % 4))=.int .i64 (I' (k / 4) (k % 4))
  rw [hI _ _ (by omega) (by omega)]

def Sn.Decodes (w:World) (s g c:Nat→Int) (E I:Nat→Nat→Int) (e:Ending) (w':World):Prop :=
 ∃r,Sn.Chk s g c E I r∧((r≠0∧e=.returned (.tuple #[.agg Sn.void,.int .i64 r])∧w.grownBy w' none) ∨
  (r=0∧∃v,e=.returned (.tuple #[v,.int .i64 0])∧Gd.Worlds w s g c E I (.returned v) w'))

set_option maxRecDepth 8000 in
set_option maxHeartbeats 6400000 in
theorem decode_any (G o cap:Nat) (F sF gF cF:Nat→Int) (eF iF:Nat→Nat→Int) (w:World) (hS:Sn.Src w G o F) (hc:918≤cap) (hm:cap≤9223372036854775807) (qs:∀k,k<4→Sn.rs F k=sF k) (qg:∀k,k<4→Sn.rg F k=gF k) (qc:∀k,k<384→Sn.rc F k=cF k) (qE:∀i j,i<32→j<11→Sn.rE F i j=eF i j) (qI:∀i j,i<40→j<4→Sn.rI F i j=iF i j) (hby':∀i,0≤cF i∧cF i≤255) :
  Calls Tryz.prog 28 #[.slice (some ⟨G,o,none⟩) 918 cap] w (Sn.Decodes w sF gF cF eF iF):=by
 obtain ⟨w0,hw0⟩:∃w0,w0=w.alloc (.cells #[.int .i64 0,.int .i64 0,.int .i64 0,.int .i64 0,.slice none 0 0,.slice none 0 0,.slice none 0 0,.int .i64 0,.int .i64 0,.int .i64 0,.int .i64 0] 30):=⟨_,rfl⟩
 have hg0:w.grownBy w0 none:=by rw [hw0];exact World.grownBy_alloc _ _ _
 obtain ⟨P,hP⟩:∃P,w.heap.size=P:=⟨_,rfl⟩
 have hR:Lie w0 P 30 11 (fun j=>#[.int .i64 0,.int .i64 0,.int .i64 0,.int .i64 0,.slice none 0 0,.slice none 0 0,.slice none 0 0,.int .i64 0,.int .i64 0,.int .i64 0,Value.int .i64 0][j]?.getD undef):=by
  rw [hw0,←hP]
  exact (Arr.lit (heap_alloc_new w _)).lie
 have hby:=hide hby'
 have cr:=hide ((snReads_any G o cap F w0 (hS.on hg0 (by simp)) hc hm).mono fun e x h=>Sn.worlds_congr h qs qg qc qE qI)
 obtain ⟨D,hD⟩:∃D,Sn.Decodes w sF gF cF eF iF=D:=⟨_,rfl⟩
 have hD1:Hid (∀r x,Sn.Chk sF gF cF eF iF r→r≠0→w.grownBy x none→D (.returned (.tuple #[.agg Sn.void,.int .i64 r])) x):=fun r x h1 h2 h3=>by
  rw [←hD]
  exact ⟨r,h1,.inl ⟨h2,rfl,h3⟩⟩
 have hD0:Hid (∀v x,Sn.Chk sF gF cF eF iF 0→Gd.Worlds w sF gF cF eF iF (.returned v) x→D (.returned (.tuple #[v,.int .i64 0])) x):=fun v x h1 h2=>by
  rw [←hD]
  exact ⟨0,h1,.inr ⟨rfl,v,rfl,h2⟩⟩
 rw [hD]
 have HP:=hide hP
 have HR:=hide hR
 have HG:=hide hg0
 clear hg0 hR hP hS hc hm hD qs qg qc qE qI hby'
 go_enter Tryz.func28,Tryz.ntmps28
 go_upto_region 1 with fail
 rw [←hw0,uh HP]
 clear hw0
 go_wp2_with fail
 refine (uh cr).mono ?_
 rintro e w1 ⟨gC,gE,gI,cC,cE,cI,rfl,hcE,l1,l2,l3,n1,n2,n3,hL,hg1⟩
 have hW0:Hid (Gd.Worlds w0 sF gF cF eF iF (.returned (.agg (Gd.world sF gC gE gI cC cE cI gF))) w1):=⟨gC,gE,gI,cC,cE,cI,rfl,hcE,l1,l2,l3,n1,n2,n3,hL,hg1⟩
 obtain ⟨w2,hw2⟩:∃w2,w2=w1.alloc (.cells (Gd.world sF gC gE gI cC cE cI gF) 30):=⟨_,rfl⟩
 have hg2:w1.grownBy w2 none:=by rw [hw2];exact World.grownBy_alloc _ _ _
 have hB:Hid (Lie w2 w1.heap.size 30 11 (Gd.box sF gC gE gI cC cE cI gF)):=by show Lie w2 _ _ _ _;rw [hw2];exact (Arr.world (heap_alloc_new w1 _)).lie
 have HR2:=hide ((uh HR).on (gtr hg1 hg2))
 have HG2:=hide (gtr (uh HG) (gtr hg1 hg2))
 have HL2:=hide (hL.on hg2)
 have cc:=hide (snCheck_any sF gF cF eF iF gC gE gI cC cE cI w2 (uh HL2) (uh hby) hcE)
 have HX:Hid (32≤cE∧w0.heap.size≤gC∧w0.heap.size≤gE∧w0.heap.size≤gI∧gC≠gE∧gC≠gI∧gE≠gI):=⟨hcE,l1,l2,l3,n1,n2,n3⟩
 clear hcE l1 l2 l3 n1 n2 n3 hL hg1 hg2 cr HR hW0
 unfold Gd.world at hw2 cc ⊢
 go_upto_region 6 with fail
 rw [←hw2]
 clear hw2
 obtain ⟨B,hBe⟩:∃B,w1.heap.size=B:=⟨_,rfl⟩
 rw [hBe] at hB ⊢
 clear hBe w1
 obtain ⟨b0,b1,b2,b3,b4,b5,b6,b7,b8,b9,b10⟩:=(uh hB).eleven
 go_wp2_with fail
 refine (uh cc).mono ?_
 rintro e w3 ⟨r,rfl,hr,hg3⟩
 have HR3:=hide ((uh HR2).on hg3)
 have HG3:=hide (gtr (uh HG2) hg3)
 have HL3:=hide ((uh HL2).on hg3)
 have hB3:=hide ((uh hB).on hg3)
 have hr':=hide hr
 clear hg3 hr cc HR2 HG2 HL2 hB b0 b1 b2 b3 b4 b5 b6 b7 b8 b9 b10
 have fz:=(uh HR3).free
 obtain ⟨z0,z1,z2,z3,z4,z5,z6,z7,z8,z9,z10⟩:=Gd.res_cells (uh HR3)
 by_cases h0:r=0
 ·subst h0
  have hPl:Hid (w.heap.size≤P):=(show w.heap.size≤P by have:=uh HP;omega)
  have hfo:Hid (∀vs,D (.returned (.tuple #[.agg (Gd.world sF gC gE gI cC cE cI gF),.int .i64 0])) (w3.setCells P 0 vs)):=fun vs=>by
   obtain ⟨x1,x2,x3,x4,x5,x6,x7⟩:=uh HX
   have hs:=(uh HG).size
   have h:=uh HL3
   have hr:=uh HR3
   refine uh hD0 _ _ (uh hr') ⟨gC,gE,gI,cC,cE,cI,rfl,x1,by omega,by omega,by omega,x5,x6,x7,⟨h.cells.others (hr.type_ne h.cells (by decide)) _ _,h.ents.others (hr.type_ne h.ents (by decide)) _ _,h.items.others (hr.type_ne h.items (by decide)) _ _⟩,own_sets (uh hPl) vs 0 w3 (uh HG3)⟩
  obtain ⟨b0,b1,b2,b3,b4,b5,b6,b7,b8,b9,b10⟩:=(uh hB3).eleven
  clear HX HL3 HR3 HG3 hB3 hD0 hD1 hr' hby
  go_wp2
  refine bodyPost_ret (v:=.tuple #[.agg (Gd.world sF gC gE gI cC cE cI gF),.int .i64 0]) (by simp [results,Tryz.results28,go_sem,Gd.world,z0,z1,z2,z3,z4,z5,z6,z7,z8,z9,z10]) rfl ?_
  exact uh hfo [_,_,_,_,_,_,_,_,_,_,_]
 ·have h0':(r != 0)=true:=by simp [h0]
  have hPl:Hid (w.heap.size≤P):=(show w.heap.size≤P by have:=uh HP;omega)
  have hfo:Hid (∀vs,D (.returned (.tuple #[.agg Sn.void,.int .i64 r])) (w3.setCells P 0 vs)):=fun vs=>uh hD1 r _ (uh hr') h0 (own_sets (uh hPl) vs 0 w3 (uh HG3))
  clear HX HL3 HR3 HG3 hB3 hD0 hD1 hr' h0 hby
  go_wp2
  refine bodyPost_ret (v:=.tuple #[.agg Sn.void,.int .i64 r]) (by simp [results,Tryz.results28,go_sem,Sn.void,z0,z1,z2,z3,z4,z5,z6,z7,z8,z9,z10]) rfl ?_
  exact uh hfo [_,_,_,_,_,_,_,_,_,_,_]

end Go.Proofs.YtldgbkjceildfaaGreat

namespace Go.Proofs.YtldgbkjceildfaaGreat

theorem Sn.ent_sane {c:Nat→Int} {E I:Nat→Nat→Int} (hS:Cr.Sane c E I) {k:Nat} (hk:k<32):Sn.entC c E k=0:=by
 have hr:=hS.fit.rows k hk
 have g0:=hr.1
 have g1:=hr.2.1
 unfold Sn.entC
 by_cases h0:E k 0=0
 ·have hz:∀j,j≠1→j<11→E k j=0:=fun j j1 hj=>by
   rcases hr.2.2 with hz | ht
   ·exact hz j hj j1
   ·omega
  have hf:Sn.freeB (E k)=true:=by
   unfold Sn.freeB
   rw [decide_eq_true_eq]
   exact ⟨hz 2 (by omega) (by omega),hz 3 (by omega) (by omega),hz 4 (by omega) (by omega),hz 5 (by omega) (by omega),hz 6 (by omega) (by omega),hz 7 (by omega) (by omega),hz 8 (by omega) (by omega),hz 9 (by omega) (by omega),hz 10 (by omega) (by omega)⟩
  rw [if_pos (by omega),if_pos ⟨g0,g1⟩,if_pos h0,if_pos hf]
 ·have ht:=hr.taken h0
  have hbo:=hS.set.born k hk h0
  obtain ⟨p1,p2,p3,p4,p5⟩:=hS.set.stands.on k hk h0
  have h1:Sn.soundB (E k)=true:=by
   unfold Sn.soundB
   rw [decide_eq_true_eq]
   exact ⟨hbo.1,hbo.2.1,hbo.2.2,by omega,by omega,by omega,by omega,by omega,by omega⟩
  have h2:Sn.aloneB c E k=true:=by
   unfold Sn.aloneB
   have hat:Gr.at 384 c (E k 3) (E k 4)=c (E k 4*24+E k 3).toNat:=Gr.at_in ((Gr.inB_iff _ _).2 (by omega)) (by omega)
   rw [hat,p5,Bool.true_and,decide_eq_true_eq]
   exact En.first_none fun j hj=>by
    by_cases e:E j 0=0
    ·simp [En.atQ,e]
    ·by_cases x3:E j 3=E k 3
     ·by_cases x4:E j 4=E k 4
      ·have:=hS.set.stands.apart j k (by omega) hk e h0 x3 x4
       omega
      ·simp [En.atQ,x4]
     ·simp [En.atQ,x3]
  have h3:Sn.seatedB E k=true:=by
   unfold Sn.seatedB
   by_cases k1:E k 0=1
   ·rw [if_pos k1,decide_eq_true_eq]
    have hs:=hS.seats.seat k hk k1
    refine ⟨by omega,by omega,En.first_none fun j hj=>?_⟩
    by_cases e:E j 0=1
    ·by_cases x:E j 2=E k 2
     ·have:=hS.seats.one j k (by omega) hk e k1 x
      omega
     ·simp [En.heroQ,x]
    ·simp [En.heroQ,e]
   ·rw [if_neg k1,decide_eq_true_eq]
    exact hS.seats.none k hk h0 k1
  rw [if_pos (by omega),if_pos ⟨g0,g1⟩,if_neg h0,if_pos ⟨h1,h2,h3⟩]

theorem Sn.head_good {s g c:Nat→Int} {E I:Nat→Nat→Int} (hG:Cr.Good ⟨s,g,c,E,I⟩) (a1:0≤s 1) (a2:s 1<1073741824):Sn.headB s g=true:=by
 have f1:1≤s 2:=hG.f1
 have f3:s 2≤3:=hG.f3
 have s0:0≤s 3:=hG.s0
 have s2:s 3≤2:=hG.s2
 unfold Sn.headB Sn.numB
 rw [Bool.and_eq_true,decide_eq_true_eq]
 refine ⟨Sn.goldsB_of fun t ht=>?_,⟨a1,a2,f1,f3,s0,s2⟩⟩
 unfold Sn.goldB
 rw [decide_eq_true_eq]
 exact hG.gold t ht

theorem Sn.chk_good {s g c:Nat→Int} {E I:Nat→Nat→Int} (hG:Cr.Good ⟨s,g,c,E,I⟩) (a1:0≤s 1) (a2:s 1<1073741824):Sn.Chk s g c E I 0:=by
 obtain ⟨u,hu,hfu,hcu,hu1⟩:=Cr.up_stair hG.floor
 obtain ⟨u',d,hu'',hd,h3,h4⟩:=hG.floor.stairs
 unfold Sn.Chk
 rw [if_pos (Sn.head_good hG a1 a2),if_pos (Sn.mx_le.2 fun i _=>(hG.floor.five i).2),if_pos ⟨Sn.cnt_one hcu hu (fun i _ e=>hu1 i e),Sn.cnt_one ((h4 d).2 rfl) hd (fun i _ e=>(h4 i).1 e)⟩,if_pos (Sn.rowC_zero fun k hk=>Sn.ent_sane hG.sane hk)]
 exact .inl ⟨rfl,hG.sane.fit.ok⟩


open Go.RowKit

theorem Sn.placed_small {c r:Nat→Int} (h:Gd.Placed c r):(0≤r 0∧r 0≤255)∧(0≤r 1∧r 1≤255)∧(0≤r 2∧r 2≤255)∧0≤r 3∧r 3≤255:=by
 obtain ⟨h1,h2,h | h | h | h⟩:=h
 ·have:=(Gr.inB_iff _ _).1 h.2.1
  omega
 ·omega
 ·omega
 ·omega


open Go.RowKit

structure Sn.Buf (w x:World) (G n cap:Nat) (l:List Int):Prop where
 own:x.ownsRow w.heap.size 5 1 (.slice (some ⟨G,0,none⟩) n cap) n (Ck.bys l)
 byte:∀b∈l,0≤b∧b≤255
 grown:w.grownBy x none

section
variable {w x y z:World} {G n cap m:Nat} {l:List Int}

theorem Sn.Buf.on (h:Sn.Buf w x G n cap l) (hg:x.grownBy y none):Sn.Buf w y G n cap l:=⟨h.own.kept hg (.inr (by simp [Value.ownBlock])),h.byte,gtr h.grown hg⟩

theorem Sn.Buf.len (h:Sn.Buf w x G n cap l):l.length=n:=by
 have q:=h.own.1
 unfold Ck.bys at q
 rw [List.length_map,Nat.mul_one] at q
 exact q

theorem Sn.Buf.low (h:Sn.Buf w x G n cap l):w.heap.size≤G:=(h.own.lt G rfl).1

theorem Sn.Buf.caps (h:Sn.Buf w x G n cap l):n≤cap∧cap≤maxLen:=by
 rcases h.own.2 with ⟨e,_⟩ | ⟨g,c,cur,e,_,_,h1,h2,_⟩
 ·cases e
 ·simp only [Value.slice.injEq] at e
  rw [e.2.2]
  exact ⟨h1,h2⟩

theorem Sn.Buf.cell (h:Sn.Buf w x G n cap l) {k:Nat} (hk:k<n):x.cell? ⟨G,k,none⟩=some (.int .u8 (Sn.fn l k)):=by
 have hl:=h.len
 rw [h.own.cellAt k (by omega)]
 unfold Ck.bys
 rw [List.getElem?_map,Sn.fn_at (by omega)]
 rfl

theorem Sn.Buf.free (h:Sn.Buf w x G n cap l) (k:Nat):x.frozen? ⟨G,k,none⟩=false:=h.own.frozenAt k

theorem Sn.Buf.turn (h:Sn.Buf w x G n cap l) (k:Nat) (u:Int) (h0:0≤u) (h1:u≤255):Sn.Buf w (x.setCell ⟨G,k,none⟩ (.int .u8 u)) G n cap (l.set k u):=by
 refine ⟨?_,fun b hb=>?_,gsr h.grown ⟨G,k,none⟩ h.low _⟩
 ·have q:=(h.own.stored k (.int .u8 u)).1
  unfold Ck.bys at q ⊢
  rw [List.map_set]
  exact q
 ·rcases List.mem_or_eq_of_mem_set hb with q | rfl
  ·exact h.byte b q
  ·exact ⟨h0,h1⟩

theorem Sn.Buf.src (h:Sn.Buf w x G n cap l):Ck.Src x (.slice (some ⟨G,0,none⟩) n cap) l :=
 .inr ⟨⟨G,0,none⟩,cap,by rw [h.len],fun j u hj=>h.own.cells (g:=G) rfl j u hj⟩

theorem Sn.Buf.more {v':Value} {lm:List Int} (h:Sn.Buf w x G n cap l) (hown:z.ownsRow w.heap.size 5 1 v' (n+lm.length) (Ck.bys l ++ Ck.bys lm)) (hg:x.grownBy z (some G)) (hb:∀b∈lm,0≤b∧b≤255) (hn:0<n):∃g c,v'=.slice (some ⟨g,0,none⟩) (n+lm.length) c∧Sn.Buf w z g (n+lm.length) c (l ++ lm):=by
 rcases hown.2 with ⟨_,e⟩ | ⟨g,c,cur,e,_⟩
 ·omega
 ·refine ⟨g,c,e,?_,fun b q=>?_,gow h.grown hg (fun k e=>by cases e;exact h.low)⟩
  ·unfold Ck.bys at hown ⊢
   rw [List.map_append,←e]
   exact hown
  ·rcases List.mem_append.1 q with q | q
   ·exact h.byte b q
   ·exact hb b q

theorem Sn.Bytes.buf {base:Nat} {v:Value} (h:Sn.Bytes x base v l) (hb:∀b∈l,0≤b∧b≤255) (h0:0<l.length) (hbase:w.heap.size≤base) (hg:w.grownBy x none):∃g c,v=.slice (some ⟨g,0,none⟩) l.length c∧Sn.Buf w x g l.length c l:=by
 rcases h.2 with ⟨_,e⟩ | ⟨g,c,cur,e,k1,k2,k3,k4,k5,k6⟩
 ·omega
 ·refine ⟨g,c,e,⟨⟨by unfold Ck.bys;rw [List.length_map,Nat.mul_one],.inr ⟨g,c,cur,rfl,Nat.le_trans hbase k1,k2,k3,k4,k5,k6⟩⟩,hb,hg⟩⟩

end

end Go.Proofs.YtldgbkjceildfaaGreat
