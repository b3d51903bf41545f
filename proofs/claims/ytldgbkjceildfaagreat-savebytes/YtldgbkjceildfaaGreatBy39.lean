import Derived.Test.YtldgbkjceildfaaGreatBy37
import Derived.Test.YtldgbkjceildfaaGreatBy38
namespace Go.Proofs.YtldgbkjceildfaaGreat
open Go.RowKit

section
variable {w x:World} {G n cap:Nat} {l:List Int}

theorem Sn.Buf.off (h:Sn.Buf w x G n cap l) {o:Nat} (ho:n - o=918):Sn.Src x G o (Sn.fn (l.drop o)):=by
 have hl:=h.len;refine ⟨(h.own.lt G rfl).2,fun i hi=>?_,fun i=>?_⟩
 ·rw [h.cell (k:=o+i) (by omega)];unfold Sn.fn;rw [List.getElem?_drop]
 ·unfold Sn.fn;by_cases hi:i<(l.drop o).length
  ·rw [List.getElem?_eq_getElem hi];exact h.byte _ (List.mem_of_mem_drop (List.getElem_mem hi))
  ·rw [List.getElem?_eq_none (by omega)];exact ⟨by decide,by decide⟩

theorem Sn.Buf.readsAt (h:Sn.Buf w x G n cap l) (a:Option Addr) (o:Nat) (ho:o≤n) (ha:n - o=918→a=some ⟨G,o,none⟩):Calls Tryz.prog 28 #[.slice a (n - o) (cap - o)] x (Sn.Reads x (l.drop o)):=by
 have hl:=h.len;have hc:=h.caps;have hc2:cap≤9223372036854775807:=hc.2;by_cases hn:n - o=918
 ·have hs:=h.off hn;rw [ha hn,hn];exact (decode_any G o (cap - o) (Sn.fn (l.drop o)) _ _ _ _ _ x hs (by omega) (by omega) (fun _ _=>rfl) (fun _ _=>rfl) (fun _ _=>rfl) (fun _ _ _ _=>rfl) (fun _ _ _ _=>rfl) (fun i=>hs.byte _)).mono fun e w' q=>Sn.reads_all (by rw [List.length_drop];omega) q
 ·exact (decode_short _ _ _ x hn).mono fun e w' q=>Sn.reads_short (by rw [List.length_drop,hl]) hn q

theorem Sn.Buf.refReadsAt (h:Sn.Buf w x G n cap l) (a:Option Addr) (o:Nat) (ho:o≤n) (ha:n - o=918→a=some ⟨G,o,none⟩):Calls Tryz.prog 14 #[.slice a (n - o) (cap - o)] x (Sn.Reads x (l.drop o)):=by
 have hl:=h.len;have hc:=h.caps;have hc2:cap≤9223372036854775807:=hc.2;by_cases hn:n - o=918
 ·have hs:=h.off hn;rw [ha hn,hn];exact (refDecode_any G o (cap - o) (Sn.fn (l.drop o)) x hs (by omega) (by omega)).mono fun e w' q=>Sn.reads_all (by rw [List.length_drop];omega) q
 ·exact (refDecode_short _ _ _ x hn).mono fun e w' q=>Sn.reads_short (by rw [List.length_drop,hl]) hn q

end

def Sv.void:Array Value:=#[.int .i64 0,.int .i64 0,.int .i64 0,.int .i64 0,.slice none 0 0,.slice none 0 0,.slice none 0 0,.int .i64 0,.int .i64 0,.int .i64 0,.int .i64 0,.bool false,.bool false,.bool false,Value.bool false]

def Sv.Rds (l:List Int) (r:Int):Prop:=if l.length=0 then r=7 else if 15<Sn.fn l 0 then r=9 else Sn.Rds (l.drop 1) r

def Sv.tk (l:List Int) (i:Nat):Bool:=decide (Sn.fn l 0 / 2 ^ i % 2=1)

def Sv.Reads (w:World) (l:List Int) (e:Ending) (w':World):Prop :=
 ∃r,Sv.Rds l r∧w.grownBy w' none∧((r≠0∧e=.returned (.tuple #[.agg Sv.void,.int .i64 r])) ∨
  (r=0∧l.length=919∧∃gC gE gI cC cE cI,e=.returned (.tuple #[.agg (Sv.camp (Sn.rs (Sn.fn (l.drop 1))) gC gE gI cC cE cI (Sn.rg (Sn.fn (l.drop 1))) (Sv.tk l)),.int .i64 0])∧32≤cE∧w.heap.size≤gC∧w.heap.size≤gE∧w.heap.size≤gI∧Gd.Lists w' gC gE gI (Sn.rc (Sn.fn (l.drop 1))) (Sn.rE (Sn.fn (l.drop 1))) (Sn.rI (Sn.fn (l.drop 1)))))

def Sv.voids (j:Nat):Value:=if j<11 then Sn.voids j else .bool false

theorem Sv.void_lie (x:World):Lie (x.alloc (.cells Sv.void 33)) x.heap.size 33 15 Sv.voids:=by
 refine (Arr.lit (heap_alloc_new x _)).lie.congr fun j hj=>?_;have hj':j<15:=hj;rcases (show j=0∨j=1∨j=2∨j=3∨j=4∨j=5∨j=6∨j=7∨j=8∨j=9∨j=10∨j=11∨j=12∨j=13∨j=14 by omega) with rfl|rfl|rfl|rfl|rfl|rfl|rfl|rfl|rfl|rfl|rfl|rfl|rfl|rfl|rfl <;> rfl

theorem Sv.void_cells {x:World} {B:Nat} (h:Lie x B 33 15 Sv.voids) :
  x.cell? ⟨B,0,none⟩=some (.int .i64 0)∧x.cell? ⟨B,1,none⟩=some (.int .i64 0)∧x.cell? ⟨B,2,none⟩=some (.int .i64 0)∧x.cell? ⟨B,3,none⟩=some (.int .i64 0)∧x.cell? ⟨B,4,none⟩=some (.slice none 0 0)∧x.cell? ⟨B,5,none⟩=some (.slice none 0 0)∧x.cell? ⟨B,6,none⟩=some (.slice none 0 0)∧x.cell? ⟨B,7,none⟩=some (.int .i64 0)∧x.cell? ⟨B,8,none⟩=some (.int .i64 0)∧x.cell? ⟨B,9,none⟩=some (.int .i64 0)∧x.cell? ⟨B,10,none⟩=some (.int .i64 0) ∧
  x.cell? ⟨B,11,none⟩=some (.bool false)∧x.cell? ⟨B,12,none⟩=some (.bool false)∧x.cell? ⟨B,13,none⟩=some (.bool false)∧x.cell? ⟨B,14,none⟩=some (.bool false) :=
 ⟨h.cell (c:=0) (by omega),h.cell (c:=1) (by omega),h.cell (c:=2) (by omega),h.cell (c:=3) (by omega),h.cell (c:=4) (by omega),h.cell (c:=5) (by omega),h.cell (c:=6) (by omega),h.cell (c:=7) (by omega),h.cell (c:=8) (by omega),h.cell (c:=9) (by omega),h.cell (c:=10) (by omega),h.cell (c:=11) (by omega),h.cell (c:=12) (by omega),h.cell (c:=13) (by omega),h.cell (c:=14) (by omega)⟩


open Go.RowKit

set_option maxRecDepth 16000 in
set_option maxHeartbeats 6400000 in
theorem svDecode_none (a:Option Addr) (cap:Nat) (w:World) :
  Calls Tryz.prog 11 #[.slice a 0 cap] w (Sv.Reads w []):=by
 obtain ⟨w0,hw0⟩:∃w0,w0=w.alloc (.cells Sv.void 33):=⟨_,rfl⟩;have hg0:w.grownBy w0 none:=by rw [hw0];exact World.grownBy_alloc _ _ _
 obtain ⟨P,hP⟩:∃P,w.heap.size=P:=⟨_,rfl⟩;have hR:Lie w0 P 33 15 Sv.voids:=by
  rw [hw0,←hP];exact Sv.void_lie w
 have fz:=hR.free;obtain ⟨z0,z1,z2,z3,z4,z5,z6,z7,z8,z9,z10,z11,z12,z13,z14⟩:=Sv.void_cells hR;have hgo:Hid (∀l,w.grownBy (w0.setCells P 0 l) none):=fun l=>own_sets (by omega) l 0 w0 hg0;have HP:=hide hP;clear hg0 hR hP;unfold Sv.void at hw0;go_enter Tryz.func11,Tryz.ntmps11;go_upto_region 1 with fail;rw [←hw0,uh HP];clear hw0 HP;go_wp2;refine bodyPost_ret (v:=.tuple #[.agg Sv.void,.int .i64 7]) (by simp [results,Tryz.results11,go_sem,Sv.void,z0,z1,z2,z3,z4,z5,z6,z7,z8,z9,z10,z11,z12,z13,z14]) rfl ?_;exact ⟨7,rfl,uh hgo [_,_,_,_,_,_,_,_,_,_,_,_,_,_,_],.inl ⟨by decide,rfl⟩⟩

set_option maxRecDepth 16000 in
set_option maxHeartbeats 6400000 in
theorem svDecode_bad {w x:World} {G n cap:Nat} {l:List Int} (h:Sn.Buf w x G n cap l) (h0:0<n) (h15:15<Sn.fn l 0) :
  Calls Tryz.prog 11 #[.slice (some ⟨G,0,none⟩) n cap] x (Sv.Reads x l):=by
 obtain ⟨w0,hw0⟩:∃w0,w0=x.alloc (.cells Sv.void 33):=⟨_,rfl⟩;have hg0:x.grownBy w0 none:=by rw [hw0];exact World.grownBy_alloc _ _ _
 obtain ⟨P,hP⟩:∃P,x.heap.size=P:=⟨_,rfl⟩;have hR:Lie w0 P 33 15 Sv.voids:=by
  rw [hw0,←hP];exact Sv.void_lie x
 have fz:=hR.free;obtain ⟨z0,z1,z2,z3,z4,z5,z6,z7,z8,z9,z10,z11,z12,z13,z14⟩:=Sv.void_cells hR;have hgo:Hid (∀k,x.grownBy (w0.setCells P 0 k) none):=fun k=>own_sets (by omega) k 0 w0 hg0;have HP:=hide hP;have u0:w0.cell? ⟨G,0,none⟩=some (.int .u8 (Sn.fn l 0)):=(h.on hg0).cell (k:=0) h0;have hrd:Hid (Sv.Rds l 9):=by
  show Sv.Rds l 9;unfold Sv.Rds;have:=h.len;rw [if_neg (by omega),if_pos h15]
 have n0:((n:Int) == 0)=false:=by simp;omega
 have n1:(0:Int)<(n:Int):=by omega
 obtain ⟨v,hv⟩:∃v,Sn.fn l 0=v:=⟨_,rfl⟩;rw [hv] at u0 h15;clear hg0 hR hP h h0 hv;unfold Sv.void at hw0;go_enter Tryz.func11,Tryz.ntmps11;go_upto_region 1 with fail;rw [←hw0,uh HP];clear hw0 HP;go_wp2;refine bodyPost_ret (v:=.tuple #[.agg Sv.void,.int .i64 9]) (by simp [results,Tryz.results11,go_sem,Sv.void,z0,z1,z2,z3,z4,z5,z6,z7,z8,z9,z10,z11,z12,z13,z14]) rfl ?_;exact ⟨9,uh hrd,uh hgo [_,_,_,_,_,_,_,_,_,_,_,_,_,_,_],.inl ⟨by decide,rfl⟩⟩


open Go.RowKit

theorem Sv.seat_store {x:World} {C:Nat} {s:Nat→Int} {gC gE gI cC cE cI:Nat} {g:Nat→Int} {t t':Nat→Bool} {i:Nat} (h:Lie x C 33 15 (Sv.box s gC gE gI cC cE cI g t)) (b:Bool) (hi:i<4) (h1:t' i=b) (h2:∀j,j<4→j≠i→t' j=t j):Lie (x.setCell ⟨C,11+i,none⟩ (.bool b)) C 33 15 (Sv.box s gC gE gI cC cE cI g t') :=
 (h.store (11+i) (.bool b)).congr fun j hj=>by
  unfold Sv.box;by_cases e:j=11+i
  ·rw [if_pos e,if_neg (by omega),show j - 11=i by omega,h1]
  ·rw [if_neg e];by_cases e2:j<11
   ·rw [if_pos e2,if_pos e2]
   ·rw [if_neg e2,if_neg e2,h2 (j - 11) (by omega) (by omega)]

def Sv.upto (t:Nat→Bool) (i:Nat) (j:Nat):Bool:=if j<i then t j else false

theorem Sv.upto_next (t:Nat→Bool) {i j:Nat} (h:j≠i):Sv.upto t (i+1) j=Sv.upto t i j:=by
 unfold Sv.upto;by_cases e:j<i
 ·rw [if_pos e,if_pos (by omega)]
 ·rw [if_neg e,if_neg (by omega)]

theorem Sv.run_shift (v:Int) (i:Nat) (h0:0≤v) (h1:v≤15) (hi:i<4):bits BinOp.and IntKind.u8 (v / 2 ^ i) 1=v / 2 ^ i % 2:=by
 rcases (show i=0∨i=1∨i=2∨i=3 by omega) with rfl|rfl|rfl|rfl <;>
  rcases (show v=0∨v=1∨v=2∨v=3∨v=4∨v=5∨v=6∨v=7∨v=8∨v=9∨v=10∨v=11∨v=12∨v=13∨v=14∨v=15 by omega) with rfl|rfl|rfl|rfl|rfl|rfl|rfl|rfl|rfl|rfl|rfl|rfl|rfl|rfl|rfl|rfl <;> decide

def Sv.Dec (w:World) (R:Int→Prop) (sF gF cF:Nat→Int) (eF iF:Nat→Nat→Int) (t:Nat→Bool) (e:Ending) (w':World):Prop :=
 ∃r,R r∧w.grownBy w' none∧((r≠0∧e=.returned (.tuple #[.agg Sv.void,.int .i64 r])) ∨
  (r=0∧∃gC gE gI cC cE cI,e=.returned (.tuple #[.agg (Sv.camp sF gC gE gI cC cE cI gF t),.int .i64 0])∧32≤cE∧w.heap.size≤gC∧w.heap.size≤gE∧w.heap.size≤gI∧Gd.Lists w' gC gE gI cF eF iF))

def Sv.Snd (w:World) (R:Int→Prop) (sF gF cF:Nat→Int) (eF iF:Nat→Nat→Int) (e:Ending) (w':World):Prop :=
 ∃r,R r∧((r≠0∧e=.returned (.tuple #[.agg Sn.void,.int .i64 r])∧w.grownBy w' none) ∨
  (r=0∧∃v,e=.returned (.tuple #[v,.int .i64 0])∧Gd.Worlds w sF gF cF eF iF (.returned v) w'))

set_option maxRecDepth 16000 in
set_option maxHeartbeats 12800000 in
theorem svDecode_from {w x:World} {G n cap:Nat} {l:List Int} (h:Sn.Buf w x G n cap l) (h0:0<n) (h15:¬15<Sn.fn l 0) (R:Int→Prop) (sF gF cF:Nat→Int) (eF iF:Nat→Nat→Int) (hsnap:∀y a,x.grownBy y none→(n - 1=918→a=some ⟨G,1,none⟩)→Calls Tryz.prog 28 #[.slice a (n - 1) (cap - 1)] y (Sv.Snd y R sF gF cF eF iF)) :
  Calls Tryz.prog 11 #[.slice (some ⟨G,0,none⟩) n cap] x (Sv.Dec x R sF gF cF eF iF (Sv.tk l)):=by
 obtain ⟨w0,hw0⟩:∃w0,w0=x.alloc (.cells Sv.void 33):=⟨_,rfl⟩;have hg0:x.grownBy w0 none:=by rw [hw0];exact World.grownBy_alloc _ _ _
 obtain ⟨P,hP⟩:∃P,x.heap.size=P:=⟨_,rfl⟩;have hR:Hid (Lie w0 P 33 15 Sv.voids):=by
  show Lie w0 _ _ _ _;rw [hw0,←hP];exact Sv.void_lie x
 have HP:=hide hP;have HG:=hide hg0;have hB:=hide (h.on hg0);have u0:w0.cell? ⟨G,0,none⟩=some (.int .u8 (Sn.fn l 0)):=(h.on hg0).cell (k:=0) h0;have hln:=hide h.len;have hlo:Hid (0≤Sn.fn l 0∧Sn.fn l 0≤15):=by
  refine ⟨?_,by omega⟩;unfold Sn.fn;by_cases hi:0<l.length
  ·rw [List.getElem?_eq_getElem hi];exact (h.byte _ (List.getElem_mem hi)).1
  ·rw [List.getElem?_eq_none (by omega)];exact Int.le_refl _
 have n0:((n:Int) == 0)=false:=by simp;omega
 have n1:(0:Int)<(n:Int):=by omega
 have n2:¬(15:Int)<Sn.fn l 0:=h15;have hcaps:=hide h.caps;have n3:(1:Int)≤(n:Int):=by omega
 have n4:(n:Int)≤(cap:Int):=by have:=h.caps;omega
 have n5:(cap:Int)≤9223372036854775807:=by have:=h.caps.2;unfold maxLen at this;omega
 obtain ⟨a,hslice,ha⟩:∃a,(∀w:World,(Instr.slice 24 (.slice (some ⟨G,0,none⟩) n cap) (some (.int .i64 1)) none none).run Tryz.prog w=.ok (.slice a (n - 1) (cap - 1)) w)∧(n - 1=918→a=some ⟨G,1,none⟩):=by
  refine ⟨if cap=1 then some ⟨G,0,none⟩ else some ⟨G,1,none⟩,fun w=>?_,fun q=>by rw [if_neg (by omega)]⟩;have hr:=run_slice_l (P:=Tryz.prog) w 24 (some ⟨G,0,none⟩) n cap (by kernel_rfl) .i64 1 (by omega) n3;rw [hr];by_cases hz:cap=1 <;> simp [go_sem,sliced,hz,Addr.add]
 have cd:=hide (fun y (hy:w0.grownBy y none)=>hsnap y a (gtr hg0 hy) ha);obtain ⟨v,hv⟩:∃v,Sn.fn l 0=v:=⟨_,rfl⟩;rw [hv] at u0 n2 hlo;have HV:=hide hv;clear hg0 hP h h0 hv h15 ha hsnap;unfold Sv.void at hw0;go_enter Tryz.func11,Tryz.ntmps11;go_upto_region 1 with fail;rw [←hw0,uh HP];clear hw0;go_wp2_with fail;refine (uh cd _ (World.grownBy.refl _ _)).mono ?_;rintro e w1 ⟨r,hr,hcase⟩;rcases hcase with ⟨hr0,rfl,hg1⟩|⟨rfl,vx,rfl,gC,gE,gI,cC,cE,cI,hvx,hcE,k1,k2,k3,-,-,-,hL,hg1⟩
 ·have h0':(r != 0)=true:=by simp [hr0]
  obtain ⟨w2,hw2⟩:∃z,z=w1.alloc (.cells Sn.void 30):=⟨_,rfl⟩;have hg2:w1.grownBy w2 none:=by rw [hw2];exact World.grownBy_alloc _ _ _
  have hR2:=(uh hR).on (gtr hg1 hg2);have fz:=hR2.free;obtain ⟨z0,z1,z2,z3,z4,z5,z6,z7,z8,z9,z10,z11,z12,z13,z14⟩:=Sv.void_cells hR2;have hrd':=hide hr;have hgo:Hid (∀k,x.grownBy (w2.setCells P 0 k) none):=fun k=>own_sets (by have:=uh HP;omega) k 0 w2 (gtr (uh HG) (gtr hg1 hg2));have HR0:=hide hr0;unfold Sn.void at hw2;clear hr hg1 hg2 hR2 cd hR hslice hr0 u0;unfold Sn.void;go_upto_region 6 with fail;rw [←hw2];clear hw2;go_wp2;refine bodyPost_ret (v:=.tuple #[.agg Sv.void,.int .i64 r]) (by simp [results,Tryz.results11,go_sem,Sv.void,z0,z1,z2,z3,z4,z5,z6,z7,z8,z9,z10,z11,z12,z13,z14]) rfl ?_;exact ⟨r,uh hrd',uh hgo [_,_,_,_,_,_,_,_,_,_,_,_,_,_,_],.inl ⟨uh HR0,rfl⟩⟩
 ·obtain rfl:vx=.agg (Gd.world sF gC gE gI cC cE cI gF):=by simpa using hvx
  have h919:Hid (w0.heap.size≤gC∧w0.heap.size≤gE∧w0.heap.size≤gI∧32≤cE):=⟨k1,k2,k3,hcE⟩;have hrd':=hide hr;have hd0:Hid (∀y,Gd.Lists y gC gE gI cF eF iF→x.grownBy y none→Sv.Dec x R sF gF cF eF iF (Sv.tk l) (.returned (.tuple #[.agg (Sv.camp sF gC gE gI cC cE cI gF (Sv.tk l)),.int .i64 0])) y):=fun y h1 h2=>by
   obtain ⟨q1,q2,q3,q4⟩:=uh h919;have hs:=(uh HG).size;exact ⟨0,uh hrd',h2,.inr ⟨rfl,gC,gE,gI,cC,cE,cI,rfl,q4,by omega,by omega,by omega,h1⟩⟩
  have htk:Hid (∀i,Sv.tk l i=decide (v / 2 ^ i % 2=1)):=fun i=>by unfold Sv.tk;rw [uh HV]
  obtain ⟨t,ht⟩:∃t,Sv.tk l=t:=⟨_,rfl⟩;rw [ht] at htk;have hd0:Hid (∀y,Gd.Lists y gC gE gI cF eF iF→x.grownBy y none→Sv.Dec x R sF gF cF eF iF (Sv.tk l) (.returned (.tuple #[.agg (Sv.camp sF gC gE gI cC cE cI gF t),.int .i64 0])) y):=fun y a b=>by
   rw [←ht];exact uh hd0 y a b
  clear ht;obtain ⟨w2,hw2⟩:∃z,z=w1.alloc (.cells (Gd.world sF gC gE gI cC cE cI gF) 30):=⟨_,rfl⟩;have hg2:w1.grownBy w2 none:=by rw [hw2];exact World.grownBy_alloc _ _ _
  have hW:Hid (Lie w2 w1.heap.size 30 11 (Gd.box sF gC gE gI cC cE cI gF)):=by
   show Lie w2 _ _ _ _;rw [hw2];exact (Arr.world (heap_alloc_new w1 _)).lie
  obtain ⟨w3,hw3⟩:∃z,z=w2.alloc (.cells (Sv.camp sF gC gE gI cC cE cI gF (Sv.upto t 0)) 33):=⟨_,rfl⟩;have hg3:w2.grownBy w3 none:=by rw [hw3];exact World.grownBy_alloc _ _ _
  have hC:Hid (Lie w3 w2.heap.size 33 15 (Sv.box sF gC gE gI cC cE cI gF (Sv.upto t 0))):=by
   show Lie w3 _ _ _ _;rw [hw3];exact Sv.camp_lie (heap_alloc_new w2 _)
  have hg13:=gtr hg1 (gtr hg2 hg3);have hR3:=hide ((uh hR).on hg13);have hL3:=hide (hL.on (gtr hg2 hg3));have hG3:=hide (gtr (uh HG) hg13);have hB3:=hide ((uh hB).on hg13);have hne:Hid (gC≠w2.heap.size∧gE≠w2.heap.size∧gI≠w2.heap.size):=⟨(uh hL3).cells.type_ne (uh hC) (by decide),(uh hL3).ents.type_ne (uh hC) (by decide),(uh hL3).items.type_ne (uh hC) (by decide)⟩;have hnp:Hid (P≠w2.heap.size∧x.heap.size≤P∧G<w2.heap.size∧x.heap.size≤w2.heap.size):=by
   have h1:=(uh hR).lt;have h2:=(gtr hg1 hg2).size;have h3:=((uh hB).own.lt G rfl).2;exact ⟨by omega,by have:=uh HP;omega,by omega,by have:=uh HP;omega⟩
  obtain ⟨b0,b1,b2,b3,b4,b5,b6,b7,b8,b9,b10⟩:=(uh hW).eleven;clear hvx hcE k1 k2 k3 hr hL hg1 hg2 hg3 hg13 cd hR hslice u0 hB HG h919 hrd' hln;unfold Gd.world at hw2 ⊢;unfold Sv.camp at hw3;have hu0:Sv.upto t 0 0=false∧Sv.upto t 0 1=false∧Sv.upto t 0 2=false∧Sv.upto t 0 3=false:=⟨rfl,rfl,rfl,rfl⟩;rw [hu0.1,hu0.2.1,hu0.2.2.1,hu0.2.2.2] at hw3;clear hu0;go_upto_region 6 with fail;rw [←hw2];clear hw2;go_upto_region 9 with fail;rw [←hw3];clear hw3 b0 b1 b2 b3 b4 b5 b6 b7 b8 b9 b10;obtain ⟨C,hCe⟩:∃C,w2.heap.size=C:=⟨_,rfl⟩;rw [hCe] at hC hnp hne ⊢;clear hCe;go_wp2_with fail
  go_loopw [31] (fun vi wr=>∃i:Nat,i≤4∧vi=.int .i64 (i:Int)∧Hid (Lie wr C 33 15 (Sv.box sF gC gE gI cC cE cI gF (Sv.upto t i))∧Turn (fun k=>k=C) w3 wr)) (fun vi _=>10 - (intOf vi).toNat)
  case atStart=>exact ⟨0,by omega,rfl,uh hC,Turn.refl _ _⟩
  case round =>
   clear hC;obtain ⟨i,hi,rfl,hX⟩:=hrel;by_cases hlt:i<4
   ·have HL:=hide hlt;have hlt':(i:Int)<4:=by omega
    have hl0:(0:Int)≤(i:Int):=by omega
    have u0:wr.cell? ⟨G,0,none⟩=some (.int .u8 v):=by
     have hb:=(uh hB3);have h:=hb.cell (k:=0) (by omega);rw [uh HV] at h;exact ((uh hX).2.cell (hb.own.lt G rfl).2 (by have:=(uh hnp).2.2.1;omega) 0).trans h
    have u1:wr.cell? ⟨C,11+i,none⟩=some (.bool (Sv.upto t i i)):=by
     rw [(uh hX).1.cell (c:=11+i) (by omega)];unfold Sv.box;rw [if_neg (by omega),show 11+i - 11=i by omega]
    have fC:=(uh hX).1.free;have hsh:=Sv.run_shift v i (uh hlo).1 (uh hlo).2 hlt;have htb:(v / 2 ^ i % 2 == 1)=t i:=by
     rw [uh htk i];rfl
    have hn:=hide (And.intro (Sv.seat_store (uh hX).1 (t i) hlt (t':=Sv.upto t (i+1)) (by unfold Sv.upto;rw [if_pos (by omega)]) (fun j hj hne=>Sv.upto_next t hne)) ((uh hX).2.store C (11+i) (.bool (t i)) rfl));clear hlt hi hX;go_wp2;go_roundw;case rel=>exact ⟨i+1,by have:=uh HL;omega,by go_num,uh hn⟩
    case measure=>simp [intOf];have:=uh HL;omega
   ·obtain rfl:i=4:=by omega
    have hge:¬((4:Nat):Int)<4:=by omega
    obtain ⟨⟨b0,b1,b2,b3,b4,b5,b6,b7,b8,b9,b10⟩,b11,b12,b13,b14⟩:=Sv.fifteen (uh hX).1;have e0:Sv.upto t 4 0=t 0∧Sv.upto t 4 1=t 1∧Sv.upto t 4 2=t 2∧Sv.upto t 4 3=t 3:=⟨rfl,rfl,rfl,rfl⟩;rw [e0.1] at b11;rw [e0.2.1] at b12;rw [e0.2.2.1] at b13;rw [e0.2.2.2] at b14;have hgr:w3.grownBy wr (some C):=⟨(uh hX).2.os,(uh hX).2.tape,(uh hX).2.output,(uh hX).2.size,fun k hk hn=>(uh hX).2.block k hk (fun e=>hn (by rw [e]))⟩;have hR4:Lie wr P 33 15 Sv.voids:=(uh hR3).grown hgr (by have:=(uh hnp).1;simp;omega);have fz:=hR4.free;obtain ⟨z0,z1,z2,z3,z4,z5,z6,z7,z8,z9,z10,z11,z12,z13,z14⟩:=Sv.void_cells hR4;have hfo:Hid (∀vs,Sv.Dec x R sF gF cF eF iF (Sv.tk l) (.returned (.tuple #[.agg (Sv.camp sF gC gE gI cC cE cI gF t),.int .i64 0])) (wr.setCells P 0 vs)):=fun vs=>by
     have hl:=uh hL3;have hr:=hR4;obtain ⟨m1,m2,m3⟩:=uh hne;have key:Gd.Lists wr gC gE gI cF eF iF:=⟨hl.cells.grown hgr (by simp;omega),hl.ents.grown hgr (by simp;omega),hl.items.grown hgr (by simp;omega)⟩;exact uh hd0 _ ⟨key.cells.others (hr.type_ne key.cells (by decide)) _ _,key.ents.others (hr.type_ne key.ents (by decide)) _ _,key.items.others (hr.type_ne key.items (by decide)) _ _⟩ (own_sets (uh hnp).2.1 vs 0 wr (gow (uh hG3) hgr (fun k e=>by cases e;exact (uh hnp).2.2.2)))
    clear hX hR4 hlt hi e0 hgr;go_wp2;refine bodyPost_ret (v:=.tuple #[.agg (Sv.camp sF gC gE gI cC cE cI gF t),.int .i64 0]) (by simp [results,Tryz.results11,go_sem,Sv.camp,z0,z1,z2,z3,z4,z5,z6,z7,z8,z9,z10,z11,z12,z13,z14]) rfl ?_;exact uh hfo [_,_,_,_,_,_,_,_,_,_,_,_,_,_,_]

theorem svDecode_any {w x:World} {G n cap:Nat} {l:List Int} (h:Sn.Buf w x G n cap l) (h0:0<n) :
  Calls Tryz.prog 11 #[.slice (some ⟨G,0,none⟩) n cap] x (Sv.Reads x l):=by
 by_cases h15:15<Sn.fn l 0
 ·exact svDecode_bad h h0 h15
 have hln:=h.len;refine (svDecode_from h h0 h15 (fun r=>Sn.Rds (l.drop 1) r∧(r=0→l.length=919)) (Sn.rs (Sn.fn (l.drop 1))) (Sn.rg (Sn.fn (l.drop 1))) (Sn.rc (Sn.fn (l.drop 1))) (Sn.rE (Sn.fn (l.drop 1))) (Sn.rI (Sn.fn (l.drop 1))) (fun y a hy ha=>((h.on hy).readsAt a 1 (by omega) ha).mono ?_)).mono ?_
 ·rintro e w' ⟨r,hr,⟨k1,k2,k3⟩|⟨rfl,k1,v,k2,k3⟩⟩
  ·exact ⟨r,⟨hr,fun q=>absurd q k1⟩,.inl ⟨k1,k2,k3⟩⟩
  ·exact ⟨0,⟨hr,fun _=>by rw [List.length_drop] at k1;omega⟩,.inr ⟨rfl,v,k2,k3⟩⟩
 ·rintro e w' ⟨r,⟨hr,h9⟩,hg,hcase⟩;have hrd:Sv.Rds l r:=by
   unfold Sv.Rds;rw [if_neg (by omega),if_neg h15];exact hr
  rcases hcase with k|⟨rfl,k⟩
  ·exact ⟨r,hrd,hg,.inl k⟩
  ·exact ⟨0,hrd,hg,.inr ⟨rfl,h9 rfl,k⟩⟩

structure Sv.C where
 s:Nat→Int
 g:Nat→Int
 c:Nat→Int
 E:Nat→Nat→Int
 I:Nat→Nat→Int
 t:Nat→Bool

def Sv.C.bytes (C:Sv.C):List Int:=Sv.seats C.t 4 :: Sn.bytes C.s C.g C.c C.E C.I

structure Sv.C.Ok (C:Sv.C):Prop where
 chk:Sn.Chk C.s C.g C.c C.E C.I 0
 seed:-9223372036854775808≤C.s 0∧C.s 0<9223372036854775808
 byte:∀i,0≤C.c i∧C.c i≤255

theorem Sv.C.len (C:Sv.C):C.bytes.length=919:=by
 unfold Sv.C.bytes;rw [List.length_cons,Sn.bytes_len]

theorem Sv.C.Ok.bytes {C:Sv.C} (h:C.Ok):∀b∈C.bytes,0≤b∧b≤255:=by
 intro b hb;unfold Sv.C.bytes at hb;rcases List.mem_cons.1 hb with rfl|hb
 ·have h1:=Sv.seats_low C.t 4;have h2:=Sv.seats_top C.t (i:=4) (by omega);omega
 ·exact Sn.bytes_byte _ _ _ _ _ h.byte b hb

theorem Sv.tk_seats (t:Nat→Bool) (l:List Int) {i:Nat} (hi:i<4):Sv.tk (Sv.seats t 4 :: l) i=t i:=by
 have h:Sn.fn (Sv.seats t 4 :: l) 0=Sv.seats t 4:=rfl;unfold Sv.tk;rw [h];unfold Sv.seats Sv.seats Sv.seats Sv.seats Sv.seats Sv.bit;rcases (show i=0∨i=1∨i=2∨i=3 by omega) with rfl|rfl|rfl|rfl <;> cases h0:t 0 <;> cases h1:t 1 <;> cases h2:t 2 <;> cases h3:t 3 <;> decide

def Sv.Has (w x:World) (v:Value) (C:Sv.C):Prop:=∃gC gE gI cC cE cI,v=.agg (Sv.camp C.s gC gE gI cC cE cI C.g C.t)∧32≤cE∧w.heap.size≤gC∧w.heap.size≤gE∧w.heap.size≤gI∧Gd.Lists x gC gE gI C.c C.E C.I

theorem svDecode_is {w x:World} {G cap:Nat} {C:Sv.C} (hC:C.Ok) (h:Sn.Buf w x G 919 cap C.bytes) :
  Calls Tryz.prog 11 #[.slice (some ⟨G,0,none⟩) 919 cap] x fun e w'=>∃v,e=.returned (.tuple #[v,.int .i64 0])∧Sv.Has x w' v C∧x.grownBy w' none:=by
 have h15:¬15<Sn.fn C.bytes 0:=by
  have h1:Sn.fn C.bytes 0=Sv.seats C.t 4:=rfl;have h2:=Sv.seats_top C.t (i:=4) (by omega);omega
 obtain ⟨h1,h2,h3,h4,h5,h6⟩:=Sn.chk_small hC.chk;obtain ⟨q1,q2,q3,q4,q5⟩:=Sn.back (s:=C.s) (g:=C.g) (c:=C.c) (E:=C.E) (I:=C.I) hC.seed (by omega) (by omega) (by omega) (fun t ht=>by have:=h4 t ht;omega) h5 h6;have hd:C.bytes.drop 1=Sn.bytes C.s C.g C.c C.E C.I:=rfl;refine (svDecode_from h (by decide) h15 (fun r=>Sn.Chk C.s C.g C.c C.E C.I r) C.s C.g C.c C.E C.I (fun y a hy ha=>?_)).mono ?_
 ·have hb:=h.on hy;have hs:=hb.off (o:=1) (by decide);rw [hd] at hs;have hcp:=hb.caps;have hcm:cap≤9223372036854775807:=hcp.2;rw [ha rfl];exact decode_any G 1 (cap - 1) _ C.s C.g C.c C.E C.I y hs (by omega) (by omega) q1 q2 q3 q4 q5 hC.byte
 ·rintro e w' ⟨r,hr,hg,⟨h0,_⟩|⟨_,gC,gE,gI,cC,cE,cI,rfl,k0,k1,k2,k3,hL⟩⟩
  ·exact absurd (hC.chk.one hr) h0
  ·refine ⟨_,rfl,⟨gC,gE,gI,cC,cE,cI,?_,k0,k1,k2,k3,hL⟩,hg⟩;have e:∀i,i<4→Sv.tk C.bytes i=C.t i:=fun i hi=>Sv.tk_seats C.t _ hi;unfold Sv.camp;rw [e 0 (by omega),e 1 (by omega),e 2 (by omega),e 3 (by omega)]


open Go.RowKit

def Sv.cnts (v:Int):Int:=if v=1 then 1 else if v=20 then 20 else 0
def Sv.fr (v:Int):Int:=if v=1 then 20 else 1

theorem svPlaces_any (v:Int) (w:World) :
  Calls Tryz.prog 32 #[.int .u8 v] w fun e w'=>e=.returned (.tuple #[.int .i64 (Sv.cnts v),.int .i64 (Sv.fr v)])∧w'=w:=by
 unfold Sv.cnts Sv.fr;by_cases h1:v=1
 ·subst h1;rw [if_pos rfl,if_pos rfl];go_enter Tryz.func32,Tryz.ntmps32;go_wp2;go_ret2;exact ⟨rfl,rfl⟩
 ·rw [if_neg h1,if_neg h1];by_cases h2:v=20
  ·subst h2;rw [if_pos rfl];go_enter Tryz.func32,Tryz.ntmps32;go_wp2;go_ret2;exact ⟨rfl,rfl⟩
  ·rw [if_neg h2];have n1:(v == 1)=false:=by simp [h1]
   have n2:(v == 20)=false:=by simp [h2]
   go_enter Tryz.func32,Tryz.ntmps32;go_wp2;go_ret2;exact ⟨rfl,rfl⟩

theorem owns_cut {x:World} {base g n m cap:Nat} {T:TypeId} {xs:List Value} (h:x.ownsRow base T 1 (.slice (some ⟨g,0,none⟩) n cap) n xs) (hm:m≤n):x.ownsRow base T 1 (.slice (some ⟨g,0,none⟩) m cap) m (xs.take m):=by
 obtain ⟨h1,h2⟩:=h;refine ⟨by rw [List.length_take];omega,?_⟩;rcases h2 with ⟨e,_⟩|⟨g',c,cur,e,k1,k2,k3,k4,k5,k6⟩
 ·cases e
 ·simp only [Value.slice.injEq] at e;refine .inr ⟨g',c,cur,by rw [e.1,e.2.2],k1,k2,Nat.le_trans hm k3,k4,k5,?_⟩;rw [Nat.mul_one] at k6 ⊢;rw [←k6,List.take_take,Nat.min_eq_left hm]

set_option maxRecDepth 8000 in
set_option maxHeartbeats 3200000 in
theorem svGet_any (base p bm cnt a:Nat) (s:Dk.St) (w:World) (H:Dk.Mine w base p bm cnt s) (hd:s.dead=false) (ha:a+15≤cnt) (hcn:cnt≤1024) (hby:∀b∈Sv.at s.f a,0≤b∧b≤255) :
  Calls Tryz.prog 34 #[.pointer (some ⟨p,0,none⟩),.int .i64 (a:Int)] w fun e w'=>∃G cap,e=.returned (.tuple #[.slice (some ⟨G,0,none⟩) 919 cap,.int .i64 0])∧Sn.Buf w w' G 919 cap (Sv.at s.f a):=by
 obtain ⟨f,done,left,dead⟩:=s;simp only at hd hby ⊢;subst hd;have HA:=hide ha;have HC:=hide hcn;have HB:=hide hby;have hsect:=hide (Dk.Own.sect H);have cr:Hid (∀(x:World) (k:Nat),w.grownBy x none→k<15→Calls Tryz.prog 31 #[.pointer (some ⟨p,0,none⟩),.int .i64 ((a:Int)+(k:Int))] x (Dk.Tells x (f ((a:Int)+(k:Int))))):=fun x k hx hk=>by
  have h:Dk.Own x base p bm cnt f done left false:=Dk.Own.on H hx;exact dkRead_ok base p bm cnt f done left ((a:Int)+k) x h (by unfold Dk.has;simp;omega)
 have H0:Hid (w.ownsRow w.heap.size 5 1 (.slice none 0 0) (64*0) (Ck.bys (Sv.cat f a 0))∧w.grownBy w none):=⟨World.ownsRow_nil _ _ _ _,World.grownBy.refl _ _⟩;clear H ha hcn hby;go_enter Tryz.func34,Tryz.ntmps34;go_wp2_with fail
 go_loopw [1,6] (fun v1 v6 wr=>∃k:Nat,k≤15∧v1=.int .i64 ((a:Int)+(k:Int))∧Hid (wr.ownsRow w.heap.size 5 1 v6 (64*k) (Ck.bys (Sv.cat f a k))∧w.grownBy wr none)) (fun v1 _ _=>4096 - (intOf v1).toNat)
 case atStart=>exact ⟨0,by omega,by simp,H0⟩
 case round =>
  clear H0;obtain ⟨k,hk,rfl,hX⟩:=hrel;obtain ⟨a4,c4,hu4⟩:∃a c,u6=.slice a (64*k) c:=by
   rcases (uh hX).1.2 with ⟨e1,e2⟩|⟨g,c,cur,e,_⟩
   ·exact ⟨none,0,by rw [e1,e2]⟩
   ·exact ⟨_,c,e⟩
  subst hu4;by_cases hlt:k<15
  ·have HL:=hide hlt;have hlt':((64*k:Nat):Int)<919:=by omega
   have cR:=hide (uh cr _ k (uh hX).2 hlt);have hsum:IntKind.i64.wrap ((a:Int)+(k:Int)+1)=(a:Int)+((k+1:Nat):Int):=by
    have:=uh HA;have:=uh HC;rw [IntKind.wrap_i64];omega
   have hcat:Hid (Ck.bys (Sv.cat f a k) ++ Ck.bys (f ((a:Int)+(k:Int)))=Ck.bys (Sv.cat f a (k+1))∧(f ((a:Int)+(k:Int))).length=64):=⟨by
    show _=Ck.bys (Sv.cat f a k ++ f ((a:Int)+(k:Int)));unfold Ck.bys;rw [List.map_append],uh hsect _⟩
   have hown:=hide (uh hX).1;have hgr:=hide (uh hX).2;obtain ⟨q,hq⟩:∃q,(a:Int)+(k:Int)=q:=⟨_,rfl⟩;rw [hq] at cR hsum hcat;rw [hq];obtain ⟨n,hn⟩:∃n,64*k=n:=⟨_,rfl⟩;rw [hn] at hown hlt' ⊢;have HN:=hide hn;clear hlt hk hX hn;go_wp2_with fail;refine (uh cR).mono ?_;rintro e w2 ⟨g,rfl,hsrc,hg,hg2⟩;have hown2:=hide ((uh hown).kept hg2 (by cases (Value.slice a4 n c4).ownBlock <;> simp));have hsr2:Hid (Ck.Src w2 (.slice (some ⟨g,0,none⟩) 64 64) (f q)):=hsrc;have hgr2:=hide (gtr (uh hgr) hg2);have hz2:Hid (w.heap.size≤w2.heap.size):=(uh hgr2).size;have hl64:=(uh hcat).2;have hnb:n≤960:=by have:=uh HN;have:=uh HL;omega
   clear cR hsrc hg hg2 hown hgr;go_wp2_with (at_builtin;refine wpList_append_wide rfl _ _ rfl w.heap.size _ n _ rfl (uh hown2) _ (f q) rfl (uh hsr2) (by omega) (uh hz2) ?_);intro v3 w3 hown3 hgrow _;have hX3:Hid (w3.ownsRow w.heap.size 5 1 v3 (64*(k+1)) (Ck.bys (Sv.cat f a (k+1)))∧w.grownBy w3 none):=by
    refine ⟨?_,gow (uh hgr2) hgrow (fun k e=>((uh hown2).lt k e).1)⟩;rw [←(uh hcat).1,show 64*(k+1)=n+64 by have:=uh HN;omega];exact hown3
   clear hown3 hgrow hown2 hsr2 hgr2 hz2 hl64 hnb;go_wp2;go_roundw;case rel=>exact ⟨k+1,by have:=uh HL;omega,by first | rfl | rw [hsum] | simp,hX3⟩
   case measure=>have:=uh HL;have:=uh HA;have:=uh HC;simp [intOf,←hq];omega
  ·obtain rfl:k=15:=by omega
   have hge:¬((64*15:Nat):Int)<919:=by omega
   obtain ⟨g,c,rfl,hc960,hcm⟩:∃g c,a4=some ⟨g,0,none⟩∧960≤c4∧c=c4:=by
    rcases (uh hX).1.2 with ⟨e1,e2⟩|⟨g,c,cur,e,_,_,h3,_⟩
    ·omega
    ·simp only [Value.slice.injEq] at e;exact ⟨g,c,e.1,by omega,e.2.2.symm⟩
   have hfin:Hid (Sn.Buf w wr g 919 c4 (Sv.at f a)):=by
    refine ⟨?_,uh HB,(uh hX).2⟩;have h:=owns_cut (m:=919) (uh hX).1 (by omega);unfold Sv.at;unfold Ck.bys at h ⊢;rw [List.map_take];exact h
   have q1:(919:Int)≤(c4:Int):=by omega
   clear hlt hk hX hcm;go_wp2;go_ret2;exact ⟨g,c4,rfl,uh hfin⟩

end Go.Proofs.YtldgbkjceildfaaGreat
