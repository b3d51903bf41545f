import Derived.Test.YtldgbkjceildfaaGreatBy31
import Derived.Test.YtldgbkjceildfaaGreatBy35
import Derived.Test.YtldgbkjceildfaaGreatBy34
namespace Go.Proofs.YtldgbkjceildfaaGreat
open Go.RowKit

structure Sn.Buf (w x:World) (G n cap:Nat) (l:List Int):Prop where
 own:x.ownsRow w.heap.size 5 1 (.slice (some ⟨G,0,none⟩) n cap) n (Ck.bys l)
 byte:∀b∈l,0≤b∧b≤255
 grown:w.grownBy x none

section
variable {w x y z:World} {G n cap m:Nat} {l:List Int}

theorem Sn.Buf.on (h:Sn.Buf w x G n cap l) (hg:x.grownBy y none):Sn.Buf w y G n cap l:=⟨h.own.kept hg (.inr (by simp [Value.ownBlock])),h.byte,gtr h.grown hg⟩

theorem Sn.Buf.len (h:Sn.Buf w x G n cap l):l.length=n:=by
 have q:=h.own.1;unfold Ck.bys at q;rw [List.length_map,Nat.mul_one] at q;exact q

theorem Sn.Buf.low (h:Sn.Buf w x G n cap l):w.heap.size≤G:=(h.own.lt G rfl).1

theorem Sn.Buf.caps (h:Sn.Buf w x G n cap l):n≤cap∧cap≤maxLen:=by
 rcases h.own.2 with ⟨e,_⟩|⟨g,c,cur,e,_,_,h1,h2,_⟩
 ·cases e
 ·simp only [Value.slice.injEq] at e;rw [e.2.2];exact ⟨h1,h2⟩

theorem Sn.Buf.cell (h:Sn.Buf w x G n cap l) {k:Nat} (hk:k<n):x.cell? ⟨G,k,none⟩=some (.int .u8 (Sn.fn l k)):=by
 have hl:=h.len;rw [h.own.cellAt k (by omega)];unfold Ck.bys;rw [List.getElem?_map,Sn.fn_at (by omega)];rfl

theorem Sn.Buf.free (h:Sn.Buf w x G n cap l) (k:Nat):x.frozen? ⟨G,k,none⟩=false:=h.own.frozenAt k

theorem Sn.Buf.turn (h:Sn.Buf w x G n cap l) (k:Nat) (u:Int) (h0:0≤u) (h1:u≤255):Sn.Buf w (x.setCell ⟨G,k,none⟩ (.int .u8 u)) G n cap (l.set k u):=by
 refine ⟨?_,fun b hb=>?_,gsr h.grown ⟨G,k,none⟩ h.low _⟩
 ·have q:=(h.own.stored k (.int .u8 u)).1;unfold Ck.bys at q ⊢;rw [List.map_set];exact q
 ·rcases List.mem_or_eq_of_mem_set hb with q|rfl
  ·exact h.byte b q
  ·exact ⟨h0,h1⟩

theorem Sn.Buf.cut (h:Sn.Buf w x G n cap l) (hm:m≤n):Sn.Buf w x G m cap (l.take m):=by
 have hl:=h.len;refine ⟨⟨by unfold Ck.bys;rw [List.length_map,List.length_take];omega,?_⟩,fun b hb=>h.byte b (List.mem_of_mem_take hb),h.grown⟩;rcases h.own.2 with ⟨e,_⟩|⟨g,c,cur,e,h1,h2,h3,h4,h5,h6⟩
 ·cases e
 ·simp only [Value.slice.injEq] at e;refine .inr ⟨g,c,cur,by rw [e.1,e.2.2],h1,h2,Nat.le_trans hm h3,h4,h5,?_⟩;rw [Nat.mul_one] at h6 ⊢;unfold Ck.bys at h6 ⊢;rw [List.map_take,←h6,List.take_take,Nat.min_eq_left hm]

theorem Sn.Buf.src (h:Sn.Buf w x G n cap l):Ck.Src x (.slice (some ⟨G,0,none⟩) n cap) l :=
 .inr ⟨⟨G,0,none⟩,cap,by rw [h.len],fun j u hj=>h.own.cells (g:=G) rfl j u hj⟩

theorem Sn.Buf.more {v':Value} {lm:List Int} (h:Sn.Buf w x G n cap l) (hown:z.ownsRow w.heap.size 5 1 v' (n+lm.length) (Ck.bys l ++ Ck.bys lm)) (hg:x.grownBy z (some G)) (hb:∀b∈lm,0≤b∧b≤255) (hn:0<n):∃g c,v'=.slice (some ⟨g,0,none⟩) (n+lm.length) c∧Sn.Buf w z g (n+lm.length) c (l ++ lm):=by
 rcases hown.2 with ⟨_,e⟩|⟨g,c,cur,e,_⟩
 ·omega
 ·refine ⟨g,c,e,?_,fun b q=>?_,gow h.grown hg (fun k e=>by cases e;exact h.low)⟩
  ·unfold Ck.bys at hown ⊢;rw [List.map_append,←e];exact hown
  ·rcases List.mem_append.1 q with q|q
   ·exact h.byte b q
   ·exact hb b q

theorem Sn.Bytes.buf {base:Nat} {v:Value} (h:Sn.Bytes x base v l) (hb:∀b∈l,0≤b∧b≤255) (h0:0<l.length) (hbase:w.heap.size≤base) (hg:w.grownBy x none):∃g c,v=.slice (some ⟨g,0,none⟩) l.length c∧Sn.Buf w x g l.length c l:=by
 rcases h.2 with ⟨_,e⟩|⟨g,c,cur,e,k1,k2,k3,k4,k5,k6⟩
 ·omega
 ·refine ⟨g,c,e,⟨⟨by unfold Ck.bys;rw [List.length_map,Nat.mul_one],.inr ⟨g,c,cur,rfl,Nat.le_trans hbase k1,k2,k3,k4,k5,k6⟩⟩,hb,hg⟩⟩

end


open Go.RowKit

set_option maxRecDepth 8000 in
set_option maxHeartbeats 3200000 in
theorem refDecode_short (a:Option Addr) (n cap:Nat) (w:World) (hn:n≠918) :
  Calls Tryz.prog 14 #[.slice a n cap] w fun e w'=>e=.returned (.tuple #[.agg Sn.void,.int .i64 (if n<918 then 7 else 8)])∧w.grownBy w' none:=by
 obtain ⟨w0,hw0⟩:∃w0,w0=w.alloc (.cells #[.int .i64 0,.int .i64 0,.int .i64 0,.int .i64 0,.slice none 0 0,.slice none 0 0,.slice none 0 0,.int .i64 0,.int .i64 0,.int .i64 0,.int .i64 0] 30):=⟨_,rfl⟩;have hg0:w.grownBy w0 none:=by rw [hw0];exact World.grownBy_alloc _ _ _
 obtain ⟨P,hP⟩:∃P,w.heap.size=P:=⟨_,rfl⟩;have hR:Lie w0 P 30 11 (fun j=>#[.int .i64 0,.int .i64 0,.int .i64 0,.int .i64 0,.slice none 0 0,.slice none 0 0,.slice none 0 0,.int .i64 0,.int .i64 0,.int .i64 0,Value.int .i64 0][j]?.getD undef):=by
  rw [hw0,←hP];exact (Arr.lit (heap_alloc_new w _)).lie
 have fz:=hR.free;obtain ⟨z0,z1,z2,z3,z4,z5,z6,z7,z8,z9,z10⟩:=Gd.res_cells hR;have hgo:Hid (∀l,w.grownBy (w0.setCells P 0 l) none):=fun l=>own_sets (by omega) l 0 w0 hg0;have HP:=hide hP;clear hg0 hR hP;by_cases h1:n<918
 ·have h1':(n:Int)<918:=by omega
  rw [if_pos h1];clear h1 hn;go_enter Tryz.func14,Tryz.ntmps14;go_upto_region 1 with fail;rw [←hw0,uh HP];clear hw0 HP;go_wp2;refine bodyPost_ret (v:=.tuple #[.agg Sn.void,.int .i64 7]) (by simp [results,Tryz.results14,go_sem,Sn.void,z0,z1,z2,z3,z4,z5,z6,z7,z8,z9,z10]) rfl ?_;exact ⟨rfl,uh hgo [_,_,_,_,_,_,_,_,_,_,_]⟩
 ·have h1':¬(n:Int)<918:=by omega
  have h2':(n:Int) > 918:=by omega
  rw [if_neg h1];clear h1 hn;go_enter Tryz.func14,Tryz.ntmps14;go_upto_region 1 with fail;rw [←hw0,uh HP];clear hw0 HP;go_wp2;refine bodyPost_ret (v:=.tuple #[.agg Sn.void,.int .i64 8]) (by simp [results,Tryz.results14,go_sem,Sn.void,z0,z1,z2,z3,z4,z5,z6,z7,z8,z9,z10]) rfl ?_;exact ⟨rfl,uh hgo [_,_,_,_,_,_,_,_,_,_,_]⟩

set_option maxRecDepth 16000 in
set_option maxHeartbeats 25600000 in
theorem refDecode_any (G o cap:Nat) (F:Nat→Int) (w:World) (hS:Sn.Src w G o F) (hc:918≤cap) (hm:cap≤9223372036854775807) :
  Calls Tryz.prog 14 #[.slice (some ⟨G,o,none⟩) 918 cap] w (Sn.Decodes w (Sn.rs F) (Sn.rg F) (Sn.rc F) (Sn.rE F) (Sn.rI F)):=by
 obtain ⟨w0,hw0⟩:∃w0,w0=w.alloc (.cells #[.int .i64 0,.int .i64 0,.int .i64 0,.int .i64 0,.slice none 0 0,.slice none 0 0,.slice none 0 0,.int .i64 0,.int .i64 0,.int .i64 0,.int .i64 0] 30):=⟨_,rfl⟩;have hg0:w.grownBy w0 none:=by rw [hw0];exact World.grownBy_alloc _ _ _
 obtain ⟨P,hP⟩:∃P,w.heap.size=P:=⟨_,rfl⟩;have hR:Lie w0 P 30 11 Sn.voids:=by
  rw [hw0,←hP];refine (Arr.lit (heap_alloc_new w _)).lie.congr fun j hj=>?_;have hj':j<11:=hj;rcases (show j=0∨j=1∨j=2∨j=3∨j=4∨j=5∨j=6∨j=7∨j=8∨j=9∨j=10 by omega) with rfl|rfl|rfl|rfl|rfl|rfl|rfl|rfl|rfl|rfl|rfl <;> rfl
 have hP0:w0.heap.size=P+1:=by rw [hw0,←hP];simp
 obtain ⟨D,hD⟩:∃D,Sn.Decodes w (Sn.rs F) (Sn.rg F) (Sn.rc F) (Sn.rE F) (Sn.rI F)=D:=⟨_,rfl⟩;have hD1:Hid (∀r x,Sn.Chk (Sn.rs F) (Sn.rg F) (Sn.rc F) (Sn.rE F) (Sn.rI F) r→r≠0→w.grownBy x none→D (.returned (.tuple #[.agg Sn.void,.int .i64 r])) x):=fun r x h1 h2 h3=>by
  rw [←hD];exact ⟨r,h1,.inl ⟨h2,rfl,h3⟩⟩
 have hD0:Hid (∀v x,Sn.Chk (Sn.rs F) (Sn.rg F) (Sn.rc F) (Sn.rE F) (Sn.rI F) 0→Gd.Worlds w (Sn.rs F) (Sn.rg F) (Sn.rc F) (Sn.rE F) (Sn.rI F) (.returned v) x→D (.returned (.tuple #[v,.int .i64 0])) x):=fun v x h1 h2=>by
  rw [←hD];exact ⟨0,h1,.inr ⟨rfl,v,rfl,h2⟩⟩
 rw [hD];have hsr:Hid (∀x,w0.grownBy x none→Sn.Src x G o F):=fun x hx=>(hS.on hg0 (by simp)).on hx (by simp);have cg:=hide (fun (x:World) (k n:Nat) (hx:Sn.Src x G o F) (h8:n≤8) (hk:k+n≤918)=>refGet_any G o cap k n F x hx h8 hk);have cg0:Hid (∀x,w0.grownBy x none→Calls Tryz.prog 29 #[.slice (some ⟨G,o,none⟩) 918 cap,.int .i64 0,.int .i64 8] x fun e w'=>e=.returned (.int .u64 (Sn.be (Sn.cut F 0 8)))∧w'=x):=fun x hx=>uh cg x 0 8 (uh hsr x hx) (by omega) (by omega);have cg1:Hid (∀x,w0.grownBy x none→Calls Tryz.prog 29 #[.slice (some ⟨G,o,none⟩) 918 cap,.int .i64 8,.int .i64 4] x fun e w'=>e=.returned (.int .u64 (Sn.be (Sn.cut F 8 4)))∧w'=x):=fun x hx=>uh cg x 8 4 (uh hsr x hx) (by omega) (by omega);have y0:IntKind.i64.wrap (Sn.be (Sn.cut F 0 8))=Sn.rs F 0:=by
  have q:=Sn.be_bound 8 F 0 (fun j _=>hS.byte _);rw [IntKind.wrap_i64];show _=if Sn.be (Sn.cut F 0 8)<9223372036854775808 then _ else _
  split <;> omega
 have y1:IntKind.i64.wrap (Sn.be (Sn.cut F 8 4))=Sn.rs F 1:=by
  have q:=Sn.be_bound 4 F 8 (fun j _=>hS.byte _);rw [IntKind.wrap_i64];show _=Sn.be (Sn.cut F 8 4);omega
 have tw:∀j,IntKind.i64.wrap (F j)=F j:=fun j=>by
  have q:=hS.byte j;rw [IntKind.wrap_i64];omega
 have hgG:=hide hS.lt;obtain ⟨q0,e0⟩:∃q,Sn.be (Sn.cut F 0 8)=q:=⟨_,rfl⟩;obtain ⟨q1,e1⟩:∃q,Sn.be (Sn.cut F 8 4)=q:=⟨_,rfl⟩;rw [e0] at cg0 y0;rw [e1] at cg1 y1;obtain ⟨V0,E0⟩:∃q,Sn.rs F 0=q:=⟨_,rfl⟩;obtain ⟨V1,E1⟩:∃q,Sn.rs F 1=q:=⟨_,rfl⟩;rw [E0] at y0;rw [E1] at y1;have HCap:=hide hc;have HV:=hide (And.intro E0 E1);obtain ⟨i0,hi,hz0,hz1,hz2⟩:=info_parts info_byte;obtain ⟨ie,ei,ez0,ez1,ez2⟩:=info_parts info_ent;obtain ⟨ii,ni,nz0,nz1,nz2⟩:=info_parts info_item;have HP:=hide hP;have HP0:=hide hP0;have HR:=hide hR;have HG:=hide hg0;have c2:(406:Int)≤(cap:Int):=by omega
 clear hg0 hR hP hP0 hS hD e0 e1 E0 E1;go_enter Tryz.func14,Tryz.ntmps14;go_upto_region 1 with fail;rw [←hw0,uh HP];clear hw0;go_upto_region 5 with fail;have hS0:Hid (w0.grownBy w0.drew none):=gdw (World.grownBy.refl w0 none) 1;have hS1:Hid (w0.grownBy (w0.alloc (.cells #[.int .i64 0,.int .i64 0,.int .i64 0,.int .i64 0,.slice none 0 0,.slice none 0 0,.slice none 0 0,.int .i64 0,.int .i64 0,.int .i64 0,.int .i64 0] 30)).drew none):=gdw (World.grownBy_alloc w0 _ none) 1;refine wp_region_till (h:=16) (S:=fun x=>Hid (w0.grownBy x none)) (by kernel_rfl) ?_;refine wtj 0 (v:=?_) [16] rfl (by kernel_rfl) (fun _ _ _ h=>h) hS0 ⟨by rfl,?_⟩ ?_;rotate_left
 ·intro x hSx;clear hSx;go_simp;try with_reducible rfl
 simp only [Act.put,pa,pb,pd,pe,pf];refine wpTill_call (i:=1) (v:=.int .u64 q0) [16] rfl (by kernel_rfl) (by kernel_rfl) (by kernel_rfl) (by kernel_rfl) (fun _ _ _ h=>h) hS0 ⟨by rfl,fun x hSx=>⟨29,#[.slice (some ⟨G,o,none⟩) 918 cap,.int .i64 0,.int .i64 8],?_,uh cg0 x (uh hSx)⟩⟩ ?_
 ·go_simp;try with_reducible rfl
 simp only [Act.put,pa,pb,pc,pd,pe,pf];refine wtj 2 (v:=?_) [16] rfl (by kernel_rfl) (fun _ _ _ h=>h) hS0 ⟨by rfl,?_⟩ ?_;rotate_left
 ·intro x hSx;clear hSx;go_simp;try with_reducible rfl
 simp only [Act.put,pa,pb,pc,pd,pe,pf];refine wtj 3 (v:=?_) [16] rfl (by kernel_rfl) (fun _ _ _ h=>h) hS0 ⟨by rfl,?_⟩ ?_;rotate_left
 ·intro x hSx;clear hSx;go_simp;try with_reducible rfl
 simp only [Act.put,pa,pb,pc,pd,pe,pf];refine wpTill_call (i:=4) (v:=.int .u64 q1) [16] rfl (by kernel_rfl) (by kernel_rfl) (by kernel_rfl) (by kernel_rfl) (fun _ _ _ h=>h) hS0 ⟨by rfl,fun x hSx=>⟨29,#[.slice (some ⟨G,o,none⟩) 918 cap,.int .i64 8,.int .i64 4],?_,uh cg1 x (uh hSx)⟩⟩ ?_
 ·go_simp;try with_reducible rfl
 simp only [Act.put,pa,pb,pc,pd,pe,pf];refine wtj 5 (v:=?_) [16] rfl (by kernel_rfl) (fun _ _ _ h=>h) hS0 ⟨by rfl,?_⟩ ?_;rotate_left
 ·intro x hSx;clear hSx;go_simp;try with_reducible rfl
 simp only [Act.put,pa,pb,pc,pd,pe,pf];refine wtj 6 (v:=?_) [16] rfl (by kernel_rfl) (fun _ _ _ h=>h) hS0 ⟨by rfl,?_⟩ ?_;rotate_left
 ·intro x hSx;clear hSx;go_simp;try with_reducible rfl
 simp only [Act.put,pa,pb,pc,pd,pe,pf];refine wtj 7 (v:=?_) [16] rfl (by kernel_rfl) (fun _ _ _ h=>h) hS0 ⟨by rfl,?_⟩ ?_;rotate_left
 ·intro x hSx;clear hSx;go_simp;try with_reducible rfl
 simp only [Act.put,pa,pb,pc,pd,pe,pf];refine wtj 8 (v:=?_) [16] rfl (by kernel_rfl) (fun _ _ _ h=>h) hS0 ⟨by rfl,?_⟩ ?_;rotate_left
 ·intro x hSx;have u0:=(uh hsr x (uh hSx)).cell 12 (by omega);clear hSx;go_simp;try with_reducible rfl
 simp only [Act.put,pa,pb,pc,pd,pe,pf];refine wtj 9 (v:=?_) [16] rfl (by kernel_rfl) (fun _ _ _ h=>h) hS0 ⟨by rfl,?_⟩ ?_;rotate_left
 ·intro x hSx;clear hSx;go_simp;try with_reducible rfl
 simp only [Act.put,pa,pb,pc,pd,pe,pf];refine wtj 10 (v:=?_) [16] rfl (by kernel_rfl) (fun _ _ _ h=>h) hS0 ⟨by rfl,?_⟩ ?_;rotate_left
 ·intro x hSx;clear hSx;go_simp;try with_reducible rfl
 simp only [Act.put,pa,pb,pc,pd,pe,pf];refine wtj 11 (v:=?_) [16] rfl (by kernel_rfl) (fun _ _ _ h=>h) hS0 ⟨by rfl,?_⟩ ?_;rotate_left
 ·intro x hSx;clear hSx;go_simp;try with_reducible rfl
 simp only [Act.put,pa,pb,pc,pd,pe,pf];refine wtj 12 (v:=?_) [16] rfl (by kernel_rfl) (fun _ _ _ h=>h) hS0 ⟨by rfl,?_⟩ ?_;rotate_left
 ·intro x hSx;have u0:=(uh hsr x (uh hSx)).cell 13 (by omega);clear hSx;go_simp;try with_reducible rfl
 simp only [Act.put,pa,pb,pc,pd,pe,pf];refine wtj 13 (v:=?_) [16] rfl (by kernel_rfl) (fun _ _ _ h=>h) hS0 ⟨by rfl,?_⟩ ?_;rotate_left
 ·intro x hSx;clear hSx;go_simp;try with_reducible rfl
 simp only [Act.put,pa,pb,pc,pd,pe,pf];refine wtj 14 (v:=?_) [16] rfl (by kernel_rfl) (fun _ _ _ h=>h) hS0 ⟨by rfl,?_⟩ ?_;rotate_left
 ·intro x hSx;clear hSx;go_simp;try with_reducible rfl
 simp only [Act.put,pa,pb,pc,pd,pe,pf];refine wto (j:=15) (by kernel_rfl) rfl (fun K hK=>?_);go_simp;refine hK.out _ _ (fun _=>hS1) ?_;clear hK K;refine wto (j:=16) (by kernel_rfl) rfl (fun K hK=>?_);go_simp;refine hK.out _ _ (fun hx=>absurd (hx.symm.trans (by kernel_rfl)) Bool.false_ne_true) ?_;clear hK K;refine wpTill_done (by kernel_rfl) ?_ _;obtain ⟨W,hW⟩:∃W,w0.heap.size=W:=⟨_,rfl⟩;obtain ⟨y,hy⟩:∃y,(w0.alloc (.cells #[.int .i64 V0,.int .i64 V1,.int .i64 (F 12),.int .i64 (F 13),.slice none 0 0,.slice none 0 0,.slice none 0 0,.int .i64 0,.int .i64 0,.int .i64 0,.int .i64 0] 30)).drew=y:=⟨_,rfl⟩;have hY:Hid (Sn.Dcd w y P W G o F 0 0 0 0 (.slice none 0 0) (.slice none 0 0) (.slice none 0 0)):=by
  have hgy:w0.grownBy y none:=by rw [←hy];exact gdw (World.grownBy_alloc w0 _ none) 1
  have hPW:P+1=W:=by rw [←hW];exact (uh HP0).symm
  refine ⟨(uh HR).on hgy,?_,uh hsr y hgy,World.ownsRow_nil _ _ _ _,World.ownsRow_nil _ _ _ _,World.ownsRow_nil _ _ _ _,?_,?_,uh hgG,by omega,gtr (uh HG) hgy⟩
  ·rw [←hy,←hW];refine (Lie.on ((Arr.lit (heap_alloc_new w0 _)).lie.congr fun j hj=>?_) (gdw (World.grownBy.refl _ none) 1));have hj':j<11:=hj;rcases (show j=0∨j=1∨j=2∨j=3∨j=4∨j=5∨j=6∨j=7∨j=8∨j=9∨j=10 by omega) with rfl|rfl|rfl|rfl|rfl|rfl|rfl|rfl|rfl|rfl|rfl
   ·show Value.int .i64 V0=.int .i64 (Sn.rs F 0);rw [(uh HV).1]
   ·show Value.int .i64 V1=.int .i64 (Sn.rs F 1);rw [(uh HV).2]
   all_goals rfl
  ·have:=uh HP;omega
  ·have:=uh HP;omega
 rw [hW,hy];clear hW hy HR HG HP HP0 HV hS0 hS1 cg0 cg1 y0 y1 hgG hsr;clear w0;go_wp2_with fail
 go_loopw [5] (fun v5 wr=>∃t:Nat,t≤4∧v5=.int .i64 (t:Int)∧Hid (Sn.Dcd w wr P W G o F t 0 0 0 (.slice none 0 0) (.slice none 0 0) (.slice none 0 0))) (fun v5 _=>10 - (intOf v5).toNat)
 case atStart=>exact ⟨0,by omega,rfl,hY⟩
 case round =>
  clear hY;obtain ⟨t,ht,rfl,hX⟩:=hrel;by_cases hlt:t<4
  ·have hlt':(t:Int)<4:=by omega
   have HL:=hide hlt;have cgt:Hid (Calls Tryz.prog 29 #[.slice (some ⟨G,o,none⟩) 918 cap,.int .i64 (14+2*(t:Int)),.int .i64 2] wr fun e w'=>e=.returned (.int .u64 (Sn.rg F t))∧w'=wr):=by
    have h:=uh cg wr (14+2*t) 2 (uh hX).src (by omega) (by omega);rw [show ((14+2*t:Nat):Int)=14+2*(t:Int) by omega] at h;exact h
   have yt:IntKind.i64.wrap (Sn.rg F t)=Sn.rg F t:=by
    have q:=Sn.be_bound 2 F (14+2*t) (fun j _=>(uh hX).src.byte _);rw [IntKind.wrap_i64];show _=Sn.be (Sn.cut F (14+2*t) 2);have e:Sn.rg F t=Sn.be (Sn.cut F (14+2*t) 2):=rfl;rw [e];omega
   have hX2:=hide ((uh hX).gold hlt);obtain ⟨Z,hZ⟩:∃Z,Sn.rg F t=Z:=⟨_,rfl⟩;rw [hZ] at cgt yt hX2;have fW:=(uh hX).box.free;have zW:wr.cell? ⟨W,7+t,none⟩=some (.int .i64 0):=by
    have h:=(uh hX).box.cell (c:=7+t) (by omega);unfold Sn.part at h;rw [if_neg (by omega),if_neg (by omega),if_neg (by omega),if_neg (by omega),if_neg (by omega)] at h;exact h
   clear hlt ht hZ hX;go_wp2_with fail;refine (uh cgt).mono ?_;rintro e w1 ⟨rfl,hww⟩;subst hww;clear cgt;go_wp2;go_roundw;case rel=>exact ⟨t+1,by have:=uh HL;omega,by go_num,hX2⟩
   case measure=>simp [intOf];have:=uh HL;omega
  ·obtain rfl:t=4:=by omega
   have hge:¬((4:Nat):Int)<4:=by omega
   clear hlt ht;go_upto_region 11 with fail;have hoz:Hid ((wr.alloc (.cells #[] 5)).ownsRow w.heap.size 5 1 (.slice (some ⟨wr.heap.size,0,none⟩) 0 0) 0 []):=World.ownsRow_lit (base:=w.heap.size) (e:=5) (size:=1) wr #[] 0 (uh hX).grown.size (by unfold maxLen;omega) rfl;have hnews:Hid (∀j u,(Gd.list (384*1) (Byts (Sn.rc F)))[j]?=some u→(wr.alloc (.cells #[] 5)).cell? ((⟨G,o+22,none⟩:Addr).add j)=some u):=fun j u hj=>by
    have hj3:j<384:=by
     have h:=(List.getElem?_eq_some_iff.1 hj).1;rw [Gd.list_len] at h;omega
    rw [Gd.list_at (by omega)] at hj;have e:u=.int .u8 (F (22+j)):=by
     simp only [Option.some.injEq] at hj;rw [←hj];rfl
    rw [e,Go.WideShapes.add_plain];exact ((uh hX).src.on (World.grownBy_alloc wr _ none) (by simp)).off 22 j (by omega)
   have hone:Hid (∀u∈Gd.list (384*1) (Byts (Sn.rc F)),u.oneCell'=true):=Gd.list_one fun c=>rfl;have hzs:w.heap.size≤wr.heap.size+1:=Nat.le_succ_of_le (uh hX).grown.size;go_wp2_with (at_builtin;refine wpList_append_own _ rfl _ _ 24 rfl w.heap.size 5 i0 (.int .u8 0) 1 1 Tryz.underlying24 hi hz0 hz1 hz2 rfl (by decide) _ 0 [] rfl (uh hoz) ⟨G,o+22,none⟩ 384 _ (Gd.list (384*1) (Byts (Sn.rc F))) rfl (by rw [Gd.list_len]) (uh hnews) (uh hone) ?_ ?_ ?_ ?_)
   any_goals (first | (unfold maxLen;omega) | omega)
   intro v6 w6 hown hgrow hnil;have hX6:=hide ((uh hX).cell (World.grownBy_alloc wr _ none) hown (uh hoz) hgrow);have f5:=(((uh hX).on (World.grownBy_alloc wr (.cells #[] 5) none)).keep hgrow (fun k e=>by cases e;exact (uh hX).grown.size) (by have h:=(uh hX).res.lt;intro e;simp [Value.ownBlock] at e;omega) (by have h:=(uh hX).box.lt;intro e;simp [Value.ownBlock] at e;omega)).2.1;have f6:=f5.free;have z6:=f5.cell (c:=4) (by omega);have z6':w6.cell? ⟨W,4,none⟩=some (.slice none 0 0):=z6;clear f5 z6;obtain ⟨gv,cv,rfl⟩:∃g c,v6=.slice (some ⟨g,0,none⟩) 384 c:=by
    rcases hown.2 with ⟨_,h0⟩|⟨g,c,cur,e,_⟩
    ·omega
    ·exact ⟨g,c,e⟩
   clear hown hgrow hnil hX hoz hnews hone hzs hge cg;go_wp2_with fail;obtain ⟨vC,hvC⟩:∃v,Value.slice (some ⟨gv,0,none⟩) 384 cv=v:=⟨_,rfl⟩;rw [hvC] at hX6 ⊢;clear hvC f6 z6';generalize w6.setCell ⟨W,4,none⟩ vC=y6 at hX6 ⊢;clear w6 gv cv;have hY:=hX6;clear hX6
   go_loopw [7] (fun v7 wr=>∃nn:Nat,nn≤32∧v7=.int .i64 (nn:Int)∧Hid (∃v,Sn.Dcd w wr P W G o F 4 384 nn 0 vC v (.slice none 0 0))) (fun v7 _=>60 - (intOf v7).toNat)
   case atStart=>exact ⟨0,by omega,rfl,_,uh hY⟩
   case round =>
    clear hY;obtain ⟨nn,hn,rfl,hX0⟩:=hrel;obtain ⟨vL,hX1⟩:=uh hX0;have hX:=hide hX1;clear hX0 hX1;by_cases hlt:nn<32
    ·have hlt':(nn:Int)<32:=by omega
     obtain ⟨k,hk⟩:∃k:Nat,k=406+11*nn:=⟨_,rfl⟩;have k1:(406:Int)+11*(nn:Int)=(k:Int):=by omega
     obtain ⟨e,he⟩:∃e:Nat,e=k+11:=⟨_,rfl⟩;have k2:(k:Int)+11=(e:Int):=by omega
     have k3:e - k=11:=by omega
     have k4:(k:Int)≤(e:Int):=by omega
     have k5:(e:Int)≤(cap:Int):=by have:=uh HCap;omega
     have k6:(0:Int)≤(k:Int):=by omega
     have HE:Hid (k+11≤918∧k=406+11*nn∧nn<32):=⟨by omega,hk,hlt⟩;clear hk he hlt hn;go_upto_region 17 with fail;have hb5:Hid (∀z,Lie z W 30 11 (Sn.part F 4 vC vL (.slice none 0 0))→z.cell? ⟨W,5,none⟩=some vL):=fun z hz=>hz.cell (c:=5) (by omega);obtain ⟨W1,hW1⟩:∃W,(wr.alloc (.cells #[.int .i64 (F k),.int .i64 (F (k+1)),.int .i64 (F (k+2)),.int .i64 (F (k+3)),.int .i64 (F (k+4)),.int .i64 (F (k+5)),.int .i64 (F (k+6)),.int .i64 (F (k+7)),.int .i64 (F (k+8)),.int .i64 (F (k+9)),.int .i64 (F (k+10))] 70)).drew=W:=⟨_,rfl⟩;have HW1:=hide hW1;have g1:wr.grownBy W1 none:=by rw [←hW1];exact gdw (World.grownBy_alloc wr _ none) 1
     have hS0:Hid (Lie wr.drew W 30 11 (Sn.part F 4 vC vL (.slice none 0 0))∧Sn.Src wr.drew G o F):=⟨(uh hX).box.on (gdw (World.grownBy.refl wr none) 1),(uh hX).src.on (gdw (World.grownBy.refl wr none) 1) (by simp)⟩;have hS1:Hid (Lie (wr.alloc (.cells #[.int .i64 (F k),.int .i64 (F (k+1)),.int .i64 (F (k+2)),.int .i64 (F (k+3)),.int .i64 (F (k+4)),.int .i64 (F (k+5)),.int .i64 (F (k+6)),.int .i64 (F (k+7)),.int .i64 (F (k+8)),.int .i64 (F (k+9)),.int .i64 (F (k+10))] 70)).drew W 30 11 (Sn.part F 4 vC vL (.slice none 0 0))∧Sn.Src (wr.alloc (.cells #[.int .i64 (F k),.int .i64 (F (k+1)),.int .i64 (F (k+2)),.int .i64 (F (k+3)),.int .i64 (F (k+4)),.int .i64 (F (k+5)),.int .i64 (F (k+6)),.int .i64 (F (k+7)),.int .i64 (F (k+8)),.int .i64 (F (k+9)),.int .i64 (F (k+10))] 70)).drew G o F):=by rw [hW1];exact ⟨(uh hX).box.on g1,(uh hX).src.on g1 (by simp)⟩
     have hown4:Hid (W1.ownsRow w.heap.size 70 11 vL nn (Gd.list (nn*11) (En.flat (Sn.rE F)))):=((uh hX).on g1).ents;have hnews:Hid (∀j u,(#[.int .i64 (F k),.int .i64 (F (k+1)),.int .i64 (F (k+2)),.int .i64 (F (k+3)),.int .i64 (F (k+4)),.int .i64 (F (k+5)),.int .i64 (F (k+6)),.int .i64 (F (k+7)),.int .i64 (F (k+8)),.int .i64 (F (k+9)),.int .i64 (F (k+10))]:Array Value).toList[j]?=some u→W1.cell? ((⟨wr.heap.size,0,none⟩:Addr).add j)=some u):=by
      intro j u hj;rw [←hW1];have h:=Sn.news wr #[.int .i64 (F k),.int .i64 (F (k+1)),.int .i64 (F (k+2)),.int .i64 (F (k+3)),.int .i64 (F (k+4)),.int .i64 (F (k+5)),.int .i64 (F (k+6)),.int .i64 (F (k+7)),.int .i64 (F (k+8)),.int .i64 (F (k+9)),.int .i64 (F (k+10))] 70 _ rfl j u hj;rw [Go.WideShapes.add_plain] at h ⊢;exact (gce (gdw (World.grownBy.refl (wr.alloc (.cells #[.int .i64 (F k),.int .i64 (F (k+1)),.int .i64 (F (k+2)),.int .i64 (F (k+3)),.int .i64 (F (k+4)),.int .i64 (F (k+5)),.int .i64 (F (k+6)),.int .i64 (F (k+7)),.int .i64 (F (k+8)),.int .i64 (F (k+9)),.int .i64 (F (k+10))] 70)) none) 1) wr.heap.size (0+j) (by simp) (by simp)).trans h
     have hone:Hid (∀u∈(#[.int .i64 (F k),.int .i64 (F (k+1)),.int .i64 (F (k+2)),.int .i64 (F (k+3)),.int .i64 (F (k+4)),.int .i64 (F (k+5)),.int .i64 (F (k+6)),.int .i64 (F (k+7)),.int .i64 (F (k+8)),.int .i64 (F (k+9)),.int .i64 (F (k+10))]:Array Value).toList,u.oneCell'=true):=fun u hu=>by
      simp only [List.mem_cons,List.not_mem_nil,or_false] at hu;rcases hu with rfl|rfl|rfl|rfl|rfl|rfl|rfl|rfl|rfl|rfl|rfl <;> rfl
     have hbz:Hid (w.heap.size≤W1.heap.size):=Nat.le_trans (uh hX).grown.size g1.size;have hl:Gd.list (nn*11) (En.flat (Sn.rE F)) ++ (#[.int .i64 (F k),.int .i64 (F (k+1)),.int .i64 (F (k+2)),.int .i64 (F (k+3)),.int .i64 (F (k+4)),.int .i64 (F (k+5)),.int .i64 (F (k+6)),.int .i64 (F (k+7)),.int .i64 (F (k+8)),.int .i64 (F (k+9)),.int .i64 (F (k+10))]:Array Value).toList=Gd.list ((nn+1)*11) (En.flat (Sn.rE F)):=Sn.more rfl fun j hj=>by
      have hk:=(uh HE).2.1;have q:∀j,j<11→En.flat (Sn.rE F) (nn*11+j)=.int .i64 (F (k+j)):=fun j hj=>by
       show Value.int .i64 (F (406+(((nn*11+j) / 11)*11+(nn*11+j) % 11)))=_;rw [show 406+(((nn*11+j) / 11)*11+(nn*11+j) % 11)=k+j by omega]
      rw [q j hj];rcases (show j=0∨j=1∨j=2∨j=3∨j=4∨j=5∨j=6∨j=7∨j=8∨j=9∨j=10 by omega) with rfl|rfl|rfl|rfl|rfl|rfl|rfl|rfl|rfl|rfl|rfl <;> rfl
     have hfin:Hid (∀(z:World) (v':Value),z.ownsRow w.heap.size 70 11 v' (nn+1) (Gd.list (nn*11) (En.flat (Sn.rE F)) ++ (#[.int .i64 (F k),.int .i64 (F (k+1)),.int .i64 (F (k+2)),.int .i64 (F (k+3)),.int .i64 (F (k+4)),.int .i64 (F (k+5)),.int .i64 (F (k+6)),.int .i64 (F (k+7)),.int .i64 (F (k+8)),.int .i64 (F (k+9)),.int .i64 (F (k+10))]:Array Value).toList)→W1.grownBy z vL.ownBlock→(Lie z W 30 11 (Sn.part F 4 vC vL (.slice none 0 0))∧Sn.Src z G o F)∧Sn.Dcd w (z.setCell ⟨W,5,none⟩ v') P W G o F 4 384 (nn+1) 0 vC v' (.slice none 0 0)):=fun z v' h1 h2=>by
      have hy:=(uh hX).on g1;obtain ⟨-,a,b,-⟩:=hy.keep h2 (fun q e=>(hy.ents.lt q e).1) (Sn.row_off hy.res hy.ents (by decide)) (Sn.row_off hy.box hy.ents (by decide));exact ⟨⟨a,b⟩,(uh hX).ent g1 h1 hl h2⟩
     have hform:Hid (∀(z:World) (v':Value),z.ownsRow w.heap.size 70 11 v' (nn+1) (Gd.list (nn*11) (En.flat (Sn.rE F)) ++ (#[.int .i64 (F k),.int .i64 (F (k+1)),.int .i64 (F (k+2)),.int .i64 (F (k+3)),.int .i64 (F (k+4)),.int .i64 (F (k+5)),.int .i64 (F (k+6)),.int .i64 (F (k+7)),.int .i64 (F (k+8)),.int .i64 (F (k+9)),.int .i64 (F (k+10))]:Array Value).toList)→∃g c,v'=.slice (some ⟨g,0,none⟩) (nn+1) c):=fun z v' h=>by
      rcases h.2 with ⟨_,h0⟩|⟨g,c,cur,e,_⟩
      ·omega
      ·exact ⟨g,c,e⟩
     clear g1 hW1 hl hX;refine wp_region_till (h:=50) (S:=fun x=>Hid (Lie x W 30 11 (Sn.part F 4 vC vL (.slice none 0 0))∧Sn.Src x G o F)) (by kernel_rfl) ?_;refine wtj 0 (v:=?_) [50] rfl (by kernel_rfl) (fun _ _ _ h=>h) hS0 ⟨by rfl,?_⟩ ?_;rotate_left
     ·intro x hSx;clear hSx;go_simp;try with_reducible rfl
     simp only [Act.put,pa,pb,pd,pe,pf];refine wtj 1 (v:=?_) [50] rfl (by kernel_rfl) (fun _ _ _ h=>h) hS0 ⟨by rfl,?_⟩ ?_;rotate_left
     ·intro x hSx;have b0:=uh hb5 x (uh hSx).1;clear hSx;go_simp;try with_reducible rfl
     simp only [Act.put,pa,pb,pc,pd,pe,pf];refine wtj 2 (v:=?_) [50] rfl (by kernel_rfl) (fun _ _ _ h=>h) hS0 ⟨by rfl,?_⟩ ?_;rotate_left
     ·intro x hSx;clear hSx;go_simp;try with_reducible rfl
     simp only [Act.put,pa,pb,pc,pd,pe,pf];refine wtj 3 (v:=?_) [50] rfl (by kernel_rfl) (fun _ _ _ h=>h) hS0 ⟨by rfl,?_⟩ ?_;rotate_left
     ·intro x hSx;clear hSx;go_simp;try with_reducible rfl
     simp only [Act.put,pa,pb,pc,pd,pe,pf];refine wtj 4 (v:=?_) [50] rfl (by kernel_rfl) (fun _ _ _ h=>h) hS0 ⟨by rfl,?_⟩ ?_;rotate_left
     ·intro x hSx;have u0:=(uh hSx).2.cell k (by have:=uh HE;omega);clear hSx;go_simp;try with_reducible rfl
     simp only [Act.put,pa,pb,pc,pd,pe,pf];refine wtj 5 (v:=?_) [50] rfl (by kernel_rfl) (fun _ _ _ h=>h) hS0 ⟨by rfl,?_⟩ ?_;rotate_left
     ·intro x hSx;clear hSx;go_simp;try with_reducible rfl
     simp only [Act.put,pa,pb,pc,pd,pe,pf];refine wtj 6 (v:=?_) [50] rfl (by kernel_rfl) (fun _ _ _ h=>h) hS0 ⟨by rfl,?_⟩ ?_;rotate_left
     ·intro x hSx;clear hSx;go_simp;try with_reducible rfl
     simp only [Act.put,pa,pb,pc,pd,pe,pf];refine wtj 7 (v:=?_) [50] rfl (by kernel_rfl) (fun _ _ _ h=>h) hS0 ⟨by rfl,?_⟩ ?_;rotate_left
     ·intro x hSx;clear hSx;go_simp;try with_reducible rfl
     simp only [Act.put,pa,pb,pc,pd,pe,pf];refine wtj 8 (v:=?_) [50] rfl (by kernel_rfl) (fun _ _ _ h=>h) hS0 ⟨by rfl,?_⟩ ?_;rotate_left
     ·intro x hSx;have u0:=(uh hSx).2.off k 1 (by have:=uh HE;omega);clear hSx;go_simp;try with_reducible rfl
     simp only [Act.put,pa,pb,pc,pd,pe,pf];refine wtj 9 (v:=?_) [50] rfl (by kernel_rfl) (fun _ _ _ h=>h) hS0 ⟨by rfl,?_⟩ ?_;rotate_left
     ·intro x hSx;clear hSx;go_simp;try with_reducible rfl
     simp only [Act.put,pa,pb,pc,pd,pe,pf];refine wtj 10 (v:=?_) [50] rfl (by kernel_rfl) (fun _ _ _ h=>h) hS0 ⟨by rfl,?_⟩ ?_;rotate_left
     ·intro x hSx;clear hSx;go_simp;try with_reducible rfl
     simp only [Act.put,pa,pb,pc,pd,pe,pf];refine wtj 11 (v:=?_) [50] rfl (by kernel_rfl) (fun _ _ _ h=>h) hS0 ⟨by rfl,?_⟩ ?_;rotate_left
     ·intro x hSx;clear hSx;go_simp;try with_reducible rfl
     simp only [Act.put,pa,pb,pc,pd,pe,pf];refine wtj 12 (v:=?_) [50] rfl (by kernel_rfl) (fun _ _ _ h=>h) hS0 ⟨by rfl,?_⟩ ?_;rotate_left
     ·intro x hSx;have u0:=(uh hSx).2.off k 2 (by have:=uh HE;omega);clear hSx;go_simp;try with_reducible rfl
     simp only [Act.put,pa,pb,pc,pd,pe,pf];refine wtj 13 (v:=?_) [50] rfl (by kernel_rfl) (fun _ _ _ h=>h) hS0 ⟨by rfl,?_⟩ ?_;rotate_left
     ·intro x hSx;clear hSx;go_simp;try with_reducible rfl
     simp only [Act.put,pa,pb,pc,pd,pe,pf];refine wtj 14 (v:=?_) [50] rfl (by kernel_rfl) (fun _ _ _ h=>h) hS0 ⟨by rfl,?_⟩ ?_;rotate_left
     ·intro x hSx;clear hSx;go_simp;try with_reducible rfl
     simp only [Act.put,pa,pb,pc,pd,pe,pf];refine wtj 15 (v:=?_) [50] rfl (by kernel_rfl) (fun _ _ _ h=>h) hS0 ⟨by rfl,?_⟩ ?_;rotate_left
     ·intro x hSx;clear hSx;go_simp;try with_reducible rfl
     simp only [Act.put,pa,pb,pc,pd,pe,pf];refine wtj 16 (v:=?_) [50] rfl (by kernel_rfl) (fun _ _ _ h=>h) hS0 ⟨by rfl,?_⟩ ?_;rotate_left
     ·intro x hSx;have u0:=(uh hSx).2.off k 3 (by have:=uh HE;omega);clear hSx;go_simp;try with_reducible rfl
     simp only [Act.put,pa,pb,pc,pd,pe,pf];refine wtj 17 (v:=?_) [50] rfl (by kernel_rfl) (fun _ _ _ h=>h) hS0 ⟨by rfl,?_⟩ ?_;rotate_left
     ·intro x hSx;clear hSx;go_simp;try with_reducible rfl
     simp only [Act.put,pa,pb,pc,pd,pe,pf];refine wtj 18 (v:=?_) [50] rfl (by kernel_rfl) (fun _ _ _ h=>h) hS0 ⟨by rfl,?_⟩ ?_;rotate_left
     ·intro x hSx;clear hSx;go_simp;try with_reducible rfl
     simp only [Act.put,pa,pb,pc,pd,pe,pf];refine wtj 19 (v:=?_) [50] rfl (by kernel_rfl) (fun _ _ _ h=>h) hS0 ⟨by rfl,?_⟩ ?_;rotate_left
     ·intro x hSx;clear hSx;go_simp;try with_reducible rfl
     simp only [Act.put,pa,pb,pc,pd,pe,pf];refine wtj 20 (v:=?_) [50] rfl (by kernel_rfl) (fun _ _ _ h=>h) hS0 ⟨by rfl,?_⟩ ?_;rotate_left
     ·intro x hSx;have u0:=(uh hSx).2.off k 4 (by have:=uh HE;omega);clear hSx;go_simp;try with_reducible rfl
     simp only [Act.put,pa,pb,pc,pd,pe,pf];refine wtj 21 (v:=?_) [50] rfl (by kernel_rfl) (fun _ _ _ h=>h) hS0 ⟨by rfl,?_⟩ ?_;rotate_left
     ·intro x hSx;clear hSx;go_simp;try with_reducible rfl
     simp only [Act.put,pa,pb,pc,pd,pe,pf];refine wtj 22 (v:=?_) [50] rfl (by kernel_rfl) (fun _ _ _ h=>h) hS0 ⟨by rfl,?_⟩ ?_;rotate_left
     ·intro x hSx;clear hSx;go_simp;try with_reducible rfl
     simp only [Act.put,pa,pb,pc,pd,pe,pf];refine wtj 23 (v:=?_) [50] rfl (by kernel_rfl) (fun _ _ _ h=>h) hS0 ⟨by rfl,?_⟩ ?_;rotate_left
     ·intro x hSx;clear hSx;go_simp;try with_reducible rfl
     simp only [Act.put,pa,pb,pc,pd,pe,pf];refine wtj 24 (v:=?_) [50] rfl (by kernel_rfl) (fun _ _ _ h=>h) hS0 ⟨by rfl,?_⟩ ?_;rotate_left
     ·intro x hSx;have u0:=(uh hSx).2.off k 5 (by have:=uh HE;omega);clear hSx;go_simp;try with_reducible rfl
     simp only [Act.put,pa,pb,pc,pd,pe,pf];refine wtj 25 (v:=?_) [50] rfl (by kernel_rfl) (fun _ _ _ h=>h) hS0 ⟨by rfl,?_⟩ ?_;rotate_left
     ·intro x hSx;clear hSx;go_simp;try with_reducible rfl
     simp only [Act.put,pa,pb,pc,pd,pe,pf];refine wtj 26 (v:=?_) [50] rfl (by kernel_rfl) (fun _ _ _ h=>h) hS0 ⟨by rfl,?_⟩ ?_;rotate_left
     ·intro x hSx;clear hSx;go_simp;try with_reducible rfl
     simp only [Act.put,pa,pb,pc,pd,pe,pf];refine wtj 27 (v:=?_) [50] rfl (by kernel_rfl) (fun _ _ _ h=>h) hS0 ⟨by rfl,?_⟩ ?_;rotate_left
     ·intro x hSx;clear hSx;go_simp;try with_reducible rfl
     simp only [Act.put,pa,pb,pc,pd,pe,pf];refine wtj 28 (v:=?_) [50] rfl (by kernel_rfl) (fun _ _ _ h=>h) hS0 ⟨by rfl,?_⟩ ?_;rotate_left
     ·intro x hSx;have u0:=(uh hSx).2.off k 6 (by have:=uh HE;omega);clear hSx;go_simp;try with_reducible rfl
     simp only [Act.put,pa,pb,pc,pd,pe,pf];refine wtj 29 (v:=?_) [50] rfl (by kernel_rfl) (fun _ _ _ h=>h) hS0 ⟨by rfl,?_⟩ ?_;rotate_left
     ·intro x hSx;clear hSx;go_simp;try with_reducible rfl
     simp only [Act.put,pa,pb,pc,pd,pe,pf];refine wtj 30 (v:=?_) [50] rfl (by kernel_rfl) (fun _ _ _ h=>h) hS0 ⟨by rfl,?_⟩ ?_;rotate_left
     ·intro x hSx;clear hSx;go_simp;try with_reducible rfl
     simp only [Act.put,pa,pb,pc,pd,pe,pf];refine wtj 31 (v:=?_) [50] rfl (by kernel_rfl) (fun _ _ _ h=>h) hS0 ⟨by rfl,?_⟩ ?_;rotate_left
     ·intro x hSx;clear hSx;go_simp;try with_reducible rfl
     simp only [Act.put,pa,pb,pc,pd,pe,pf];refine wtj 32 (v:=?_) [50] rfl (by kernel_rfl) (fun _ _ _ h=>h) hS0 ⟨by rfl,?_⟩ ?_;rotate_left
     ·intro x hSx;have u0:=(uh hSx).2.off k 7 (by have:=uh HE;omega);clear hSx;go_simp;try with_reducible rfl
     simp only [Act.put,pa,pb,pc,pd,pe,pf];refine wtj 33 (v:=?_) [50] rfl (by kernel_rfl) (fun _ _ _ h=>h) hS0 ⟨by rfl,?_⟩ ?_;rotate_left
     ·intro x hSx;clear hSx;go_simp;try with_reducible rfl
     simp only [Act.put,pa,pb,pc,pd,pe,pf];refine wtj 34 (v:=?_) [50] rfl (by kernel_rfl) (fun _ _ _ h=>h) hS0 ⟨by rfl,?_⟩ ?_;rotate_left
     ·intro x hSx;clear hSx;go_simp;try with_reducible rfl
     simp only [Act.put,pa,pb,pc,pd,pe,pf];refine wtj 35 (v:=?_) [50] rfl (by kernel_rfl) (fun _ _ _ h=>h) hS0 ⟨by rfl,?_⟩ ?_;rotate_left
     ·intro x hSx;clear hSx;go_simp;try with_reducible rfl
     simp only [Act.put,pa,pb,pc,pd,pe,pf];refine wtj 36 (v:=?_) [50] rfl (by kernel_rfl) (fun _ _ _ h=>h) hS0 ⟨by rfl,?_⟩ ?_;rotate_left
     ·intro x hSx;have u0:=(uh hSx).2.off k 8 (by have:=uh HE;omega);clear hSx;go_simp;try with_reducible rfl
     simp only [Act.put,pa,pb,pc,pd,pe,pf];refine wtj 37 (v:=?_) [50] rfl (by kernel_rfl) (fun _ _ _ h=>h) hS0 ⟨by rfl,?_⟩ ?_;rotate_left
     ·intro x hSx;clear hSx;go_simp;try with_reducible rfl
     simp only [Act.put,pa,pb,pc,pd,pe,pf];refine wtj 38 (v:=?_) [50] rfl (by kernel_rfl) (fun _ _ _ h=>h) hS0 ⟨by rfl,?_⟩ ?_;rotate_left
     ·intro x hSx;clear hSx;go_simp;try with_reducible rfl
     simp only [Act.put,pa,pb,pc,pd,pe,pf];refine wtj 39 (v:=?_) [50] rfl (by kernel_rfl) (fun _ _ _ h=>h) hS0 ⟨by rfl,?_⟩ ?_;rotate_left
     ·intro x hSx;clear hSx;go_simp;try with_reducible rfl
     simp only [Act.put,pa,pb,pc,pd,pe,pf];refine wtj 40 (v:=?_) [50] rfl (by kernel_rfl) (fun _ _ _ h=>h) hS0 ⟨by rfl,?_⟩ ?_;rotate_left
     ·intro x hSx;have u0:=(uh hSx).2.off k 9 (by have:=uh HE;omega);clear hSx;go_simp;try with_reducible rfl
     simp only [Act.put,pa,pb,pc,pd,pe,pf];refine wtj 41 (v:=?_) [50] rfl (by kernel_rfl) (fun _ _ _ h=>h) hS0 ⟨by rfl,?_⟩ ?_;rotate_left
     ·intro x hSx;clear hSx;go_simp;try with_reducible rfl
     simp only [Act.put,pa,pb,pc,pd,pe,pf];refine wtj 42 (v:=?_) [50] rfl (by kernel_rfl) (fun _ _ _ h=>h) hS0 ⟨by rfl,?_⟩ ?_;rotate_left
     ·intro x hSx;clear hSx;go_simp;try with_reducible rfl
     simp only [Act.put,pa,pb,pc,pd,pe,pf];refine wtj 43 (v:=?_) [50] rfl (by kernel_rfl) (fun _ _ _ h=>h) hS0 ⟨by rfl,?_⟩ ?_;rotate_left
     ·intro x hSx;clear hSx;go_simp;try with_reducible rfl
     simp only [Act.put,pa,pb,pc,pd,pe,pf];refine wtj 44 (v:=?_) [50] rfl (by kernel_rfl) (fun _ _ _ h=>h) hS0 ⟨by rfl,?_⟩ ?_;rotate_left
     ·intro x hSx;have u0:=(uh hSx).2.off k 10 (by have:=uh HE;omega);clear hSx;go_simp;try with_reducible rfl
     simp only [Act.put,pa,pb,pc,pd,pe,pf];refine wtj 45 (v:=?_) [50] rfl (by kernel_rfl) (fun _ _ _ h=>h) hS0 ⟨by rfl,?_⟩ ?_;rotate_left
     ·intro x hSx;clear hSx;go_simp;try with_reducible rfl
     simp only [Act.put,pa,pb,pc,pd,pe,pf];refine wtj 46 (v:=?_) [50] rfl (by kernel_rfl) (fun _ _ _ h=>h) hS0 ⟨by rfl,?_⟩ ?_;rotate_left
     ·intro x hSx;clear hSx;go_simp;try with_reducible rfl
     simp only [Act.put,pa,pb,pc,pd,pe,pf];refine wto (j:=47) (by kernel_rfl) rfl (fun K hK=>?_);go_simp;refine hK.out _ _ (fun _=>hS1) ?_;clear hK K;rw [uh HW1];refine wto (j:=48) (by kernel_rfl) rfl (fun K hK=>?_);refine Sn.wanted (by rfl) ?_;refine wp_append_own _ _ _ 26 rfl w.heap.size 70 ie (.agg #[.int .i64 0,.int .i64 0,.int .i64 0,.int .i64 0,.int .i64 0,.int .i64 0,.int .i64 0,.int .i64 0,.int .i64 0,.int .i64 0,.int .i64 0]) 11 88 Tryz.underlying26 ei ez0 ez1 ez2 rfl (by decide) vL nn _ rfl (uh hown4) ⟨wr.heap.size,0,none⟩ 1 1 (#[.int .i64 (F k),.int .i64 (F (k+1)),.int .i64 (F (k+2)),.int .i64 (F (k+3)),.int .i64 (F (k+4)),.int .i64 (F (k+5)),.int .i64 (F (k+6)),.int .i64 (F (k+7)),.int .i64 (F (k+8)),.int .i64 (F (k+9)),.int .i64 (F (k+10))]:Array Value).toList rfl rfl (uh hnews) (uh hone) (by have:=uh HE;unfold maxLen;omega) (by have:=uh HE;omega) (uh hbz) ?_;intro v6 w6 hown hgrow hnil;obtain ⟨hS6,hfin2⟩:=uh hfin w6 v6 hown hgrow;have hS6':Hid (Lie w6 W _ 11 _∧Sn.Src w6 G o F):=hS6;have f6:=hS6.1.free;have z6:=uh hb5 _ hS6.1;have HF2:=hide hfin2;obtain ⟨g6,cp6,rfl⟩:=uh hform w6 v6 hown;clear hown hgrow hnil hS6 hfin2;refine hK.out _ _ (fun _=>hS6') ?_;clear hK K;refine wtj 49 (v:=?_) [50] rfl (by kernel_rfl) (fun _ _ _ h=>h) hS6' ⟨by rfl,?_⟩ ?_;rotate_left
     ·intro x hSx;clear hSx;go_simp;try with_reducible rfl
     simp only [Act.put,pa,pb,pc,pd,pe,pf];refine wto (j:=50) (by kernel_rfl) rfl (fun K hK=>?_);go_simp;refine hK.out _ _ (fun hx=>absurd (hx.symm.trans (by kernel_rfl)) Bool.false_ne_true) ?_;clear hK K;refine wpTill_done (by kernel_rfl) ?_ _;have HN2:Hid (nn+1≤32):=(show nn+1≤32 by have:=uh HE;omega);clear hown4 hnews hone hbz hform hfin hS0 hS1 hS6' HW1 HE f6 z6 hb5;go_wp2_with fail;go_roundw;case rel=>first | exact ⟨nn+1,uh HN2,by go_num,_,uh HF2⟩ | ((repeat apply Exists.intro);exact ⟨⟨nn+1,uh HN2,by go_num,_,uh HF2⟩,rfl⟩)
     case measure=>simp [intOf];have:=uh HN2;omega
    ·obtain rfl:nn=32:=by omega
     have hge:¬((32:Nat):Int)<32:=by omega
     clear hlt hn;have hY:=hX;clear hX hge;obtain ⟨vE,hvE⟩:∃v,vL=v:=⟨_,rfl⟩;rw [hvE] at hY;clear hvE;go_wp2_with fail
     go_loopw [9] (fun v7 wr=>∃nn:Nat,nn≤40∧v7=.int .i64 (nn:Int)∧Hid (∃v,Sn.Dcd w wr P W G o F 4 384 32 nn vC vE v)) (fun v7 _=>60 - (intOf v7).toNat)
     case atStart=>exact ⟨0,by omega,rfl,_,uh hY⟩
     case round =>
      clear hY;obtain ⟨nn,hn,rfl,hX0⟩:=hrel;obtain ⟨vL,hX1⟩:=uh hX0;have hX:=hide hX1;clear hX0 hX1;by_cases hlt:nn<40
      ·have hlt':(nn:Int)<40:=by omega
       obtain ⟨k,hk⟩:∃k:Nat,k=758+4*nn:=⟨_,rfl⟩;have k1:(758:Int)+4*(nn:Int)=(k:Int):=by omega
       obtain ⟨e,he⟩:∃e:Nat,e=k+4:=⟨_,rfl⟩;have k2:(k:Int)+4=(e:Int):=by omega
       have k3:e - k=4:=by omega
       have k4:(k:Int)≤(e:Int):=by omega
       have k5:(e:Int)≤(cap:Int):=by have:=uh HCap;omega
       have k6:(0:Int)≤(k:Int):=by omega
       have HE:Hid (k+4≤918∧k=758+4*nn∧nn<40):=⟨by omega,hk,hlt⟩;clear hk he hlt hn;go_upto_region 23 with fail;have hb5:Hid (∀z,Lie z W 30 11 (Sn.part F 4 vC vE vL)→z.cell? ⟨W,6,none⟩=some vL):=fun z hz=>hz.cell (c:=6) (by omega);obtain ⟨W1,hW1⟩:∃W,(wr.alloc (.cells #[.int .i64 (F k),.int .i64 (F (k+1)),.int .i64 (F (k+2)),.int .i64 (F (k+3))] 72)).drew=W:=⟨_,rfl⟩;have HW1:=hide hW1;have g1:wr.grownBy W1 none:=by rw [←hW1];exact gdw (World.grownBy_alloc wr _ none) 1
       have hS0:Hid (Lie wr.drew W 30 11 (Sn.part F 4 vC vE vL)∧Sn.Src wr.drew G o F):=⟨(uh hX).box.on (gdw (World.grownBy.refl wr none) 1),(uh hX).src.on (gdw (World.grownBy.refl wr none) 1) (by simp)⟩;have hS1:Hid (Lie (wr.alloc (.cells #[.int .i64 (F k),.int .i64 (F (k+1)),.int .i64 (F (k+2)),.int .i64 (F (k+3))] 72)).drew W 30 11 (Sn.part F 4 vC vE vL)∧Sn.Src (wr.alloc (.cells #[.int .i64 (F k),.int .i64 (F (k+1)),.int .i64 (F (k+2)),.int .i64 (F (k+3))] 72)).drew G o F):=by rw [hW1];exact ⟨(uh hX).box.on g1,(uh hX).src.on g1 (by simp)⟩
       have hown4:Hid (W1.ownsRow w.heap.size 72 4 vL nn (Gd.list (nn*4) (Gd.flat (Sn.rI F)))):=((uh hX).on g1).items;have hnews:Hid (∀j u,(#[.int .i64 (F k),.int .i64 (F (k+1)),.int .i64 (F (k+2)),.int .i64 (F (k+3))]:Array Value).toList[j]?=some u→W1.cell? ((⟨wr.heap.size,0,none⟩:Addr).add j)=some u):=by
        intro j u hj;rw [←hW1];have h:=Sn.news wr #[.int .i64 (F k),.int .i64 (F (k+1)),.int .i64 (F (k+2)),.int .i64 (F (k+3))] 72 _ rfl j u hj;rw [Go.WideShapes.add_plain] at h ⊢;exact (gce (gdw (World.grownBy.refl (wr.alloc (.cells #[.int .i64 (F k),.int .i64 (F (k+1)),.int .i64 (F (k+2)),.int .i64 (F (k+3))] 72)) none) 1) wr.heap.size (0+j) (by simp) (by simp)).trans h
       have hone:Hid (∀u∈(#[.int .i64 (F k),.int .i64 (F (k+1)),.int .i64 (F (k+2)),.int .i64 (F (k+3))]:Array Value).toList,u.oneCell'=true):=fun u hu=>by
        simp only [List.mem_cons,List.not_mem_nil,or_false] at hu;rcases hu with rfl|rfl|rfl|rfl <;> rfl
       have hbz:Hid (w.heap.size≤W1.heap.size):=Nat.le_trans (uh hX).grown.size g1.size;have hl:Gd.list (nn*4) (Gd.flat (Sn.rI F)) ++ (#[.int .i64 (F k),.int .i64 (F (k+1)),.int .i64 (F (k+2)),.int .i64 (F (k+3))]:Array Value).toList=Gd.list ((nn+1)*4) (Gd.flat (Sn.rI F)):=Sn.more rfl fun j hj=>by
        have hk:=(uh HE).2.1;have q:∀j,j<4→Gd.flat (Sn.rI F) (nn*4+j)=.int .i64 (F (k+j)):=fun j hj=>by
         show Value.int .i64 (F (758+(((nn*4+j) / 4)*4+(nn*4+j) % 4)))=_;rw [show 758+(((nn*4+j) / 4)*4+(nn*4+j) % 4)=k+j by omega]
        rw [q j hj];rcases (show j=0∨j=1∨j=2∨j=3 by omega) with rfl|rfl|rfl|rfl <;> rfl
       have hfin:Hid (∀(z:World) (v':Value),z.ownsRow w.heap.size 72 4 v' (nn+1) (Gd.list (nn*4) (Gd.flat (Sn.rI F)) ++ (#[.int .i64 (F k),.int .i64 (F (k+1)),.int .i64 (F (k+2)),.int .i64 (F (k+3))]:Array Value).toList)→W1.grownBy z vL.ownBlock→(Lie z W 30 11 (Sn.part F 4 vC vE vL)∧Sn.Src z G o F)∧Sn.Dcd w (z.setCell ⟨W,6,none⟩ v') P W G o F 4 384 32 (nn+1) vC vE v'):=fun z v' h1 h2=>by
        have hy:=(uh hX).on g1;obtain ⟨-,a,b,-⟩:=hy.keep h2 (fun q e=>(hy.items.lt q e).1) (Sn.row_off hy.res hy.items (by decide)) (Sn.row_off hy.box hy.items (by decide));exact ⟨⟨a,b⟩,(uh hX).item g1 h1 hl h2⟩
       have hform:Hid (∀(z:World) (v':Value),z.ownsRow w.heap.size 72 4 v' (nn+1) (Gd.list (nn*4) (Gd.flat (Sn.rI F)) ++ (#[.int .i64 (F k),.int .i64 (F (k+1)),.int .i64 (F (k+2)),.int .i64 (F (k+3))]:Array Value).toList)→∃g c,v'=.slice (some ⟨g,0,none⟩) (nn+1) c):=fun z v' h=>by
        rcases h.2 with ⟨_,h0⟩|⟨g,c,cur,e,_⟩
        ·omega
        ·exact ⟨g,c,e⟩
       clear g1 hW1 hl hX;refine wp_region_till (h:=22) (S:=fun x=>Hid (Lie x W 30 11 (Sn.part F 4 vC vE vL)∧Sn.Src x G o F)) (by kernel_rfl) ?_;refine wtj 0 (v:=?_) [22] rfl (by kernel_rfl) (fun _ _ _ h=>h) hS0 ⟨by rfl,?_⟩ ?_;rotate_left
       ·intro x hSx;clear hSx;go_simp;try with_reducible rfl
       simp only [Act.put,pa,pb,pd,pe,pf];refine wtj 1 (v:=?_) [22] rfl (by kernel_rfl) (fun _ _ _ h=>h) hS0 ⟨by rfl,?_⟩ ?_;rotate_left
       ·intro x hSx;have b0:=uh hb5 x (uh hSx).1;clear hSx;go_simp;try with_reducible rfl
       simp only [Act.put,pa,pb,pc,pd,pe,pf];refine wtj 2 (v:=?_) [22] rfl (by kernel_rfl) (fun _ _ _ h=>h) hS0 ⟨by rfl,?_⟩ ?_;rotate_left
       ·intro x hSx;clear hSx;go_simp;try with_reducible rfl
       simp only [Act.put,pa,pb,pc,pd,pe,pf];refine wtj 3 (v:=?_) [22] rfl (by kernel_rfl) (fun _ _ _ h=>h) hS0 ⟨by rfl,?_⟩ ?_;rotate_left
       ·intro x hSx;clear hSx;go_simp;try with_reducible rfl
       simp only [Act.put,pa,pb,pc,pd,pe,pf];refine wtj 4 (v:=?_) [22] rfl (by kernel_rfl) (fun _ _ _ h=>h) hS0 ⟨by rfl,?_⟩ ?_;rotate_left
       ·intro x hSx;have u0:=(uh hSx).2.cell k (by have:=uh HE;omega);clear hSx;go_simp;try with_reducible rfl
       simp only [Act.put,pa,pb,pc,pd,pe,pf];refine wtj 5 (v:=?_) [22] rfl (by kernel_rfl) (fun _ _ _ h=>h) hS0 ⟨by rfl,?_⟩ ?_;rotate_left
       ·intro x hSx;clear hSx;go_simp;try with_reducible rfl
       simp only [Act.put,pa,pb,pc,pd,pe,pf];refine wtj 6 (v:=?_) [22] rfl (by kernel_rfl) (fun _ _ _ h=>h) hS0 ⟨by rfl,?_⟩ ?_;rotate_left
       ·intro x hSx;clear hSx;go_simp;try with_reducible rfl
       simp only [Act.put,pa,pb,pc,pd,pe,pf];refine wtj 7 (v:=?_) [22] rfl (by kernel_rfl) (fun _ _ _ h=>h) hS0 ⟨by rfl,?_⟩ ?_;rotate_left
       ·intro x hSx;clear hSx;go_simp;try with_reducible rfl
       simp only [Act.put,pa,pb,pc,pd,pe,pf];refine wtj 8 (v:=?_) [22] rfl (by kernel_rfl) (fun _ _ _ h=>h) hS0 ⟨by rfl,?_⟩ ?_;rotate_left
       ·intro x hSx;have u0:=(uh hSx).2.off k 1 (by have:=uh HE;omega);clear hSx;go_simp;try with_reducible rfl
       simp only [Act.put,pa,pb,pc,pd,pe,pf];refine wtj 9 (v:=?_) [22] rfl (by kernel_rfl) (fun _ _ _ h=>h) hS0 ⟨by rfl,?_⟩ ?_;rotate_left
       ·intro x hSx;clear hSx;go_simp;try with_reducible rfl
       simp only [Act.put,pa,pb,pc,pd,pe,pf];refine wtj 10 (v:=?_) [22] rfl (by kernel_rfl) (fun _ _ _ h=>h) hS0 ⟨by rfl,?_⟩ ?_;rotate_left
       ·intro x hSx;clear hSx;go_simp;try with_reducible rfl
       simp only [Act.put,pa,pb,pc,pd,pe,pf];refine wtj 11 (v:=?_) [22] rfl (by kernel_rfl) (fun _ _ _ h=>h) hS0 ⟨by rfl,?_⟩ ?_;rotate_left
       ·intro x hSx;clear hSx;go_simp;try with_reducible rfl
       simp only [Act.put,pa,pb,pc,pd,pe,pf];refine wtj 12 (v:=?_) [22] rfl (by kernel_rfl) (fun _ _ _ h=>h) hS0 ⟨by rfl,?_⟩ ?_;rotate_left
       ·intro x hSx;have u0:=(uh hSx).2.off k 2 (by have:=uh HE;omega);clear hSx;go_simp;try with_reducible rfl
       simp only [Act.put,pa,pb,pc,pd,pe,pf];refine wtj 13 (v:=?_) [22] rfl (by kernel_rfl) (fun _ _ _ h=>h) hS0 ⟨by rfl,?_⟩ ?_;rotate_left
       ·intro x hSx;clear hSx;go_simp;try with_reducible rfl
       simp only [Act.put,pa,pb,pc,pd,pe,pf];refine wtj 14 (v:=?_) [22] rfl (by kernel_rfl) (fun _ _ _ h=>h) hS0 ⟨by rfl,?_⟩ ?_;rotate_left
       ·intro x hSx;clear hSx;go_simp;try with_reducible rfl
       simp only [Act.put,pa,pb,pc,pd,pe,pf];refine wtj 15 (v:=?_) [22] rfl (by kernel_rfl) (fun _ _ _ h=>h) hS0 ⟨by rfl,?_⟩ ?_;rotate_left
       ·intro x hSx;clear hSx;go_simp;try with_reducible rfl
       simp only [Act.put,pa,pb,pc,pd,pe,pf];refine wtj 16 (v:=?_) [22] rfl (by kernel_rfl) (fun _ _ _ h=>h) hS0 ⟨by rfl,?_⟩ ?_;rotate_left
       ·intro x hSx;have u0:=(uh hSx).2.off k 3 (by have:=uh HE;omega);clear hSx;go_simp;try with_reducible rfl
       simp only [Act.put,pa,pb,pc,pd,pe,pf];refine wtj 17 (v:=?_) [22] rfl (by kernel_rfl) (fun _ _ _ h=>h) hS0 ⟨by rfl,?_⟩ ?_;rotate_left
       ·intro x hSx;clear hSx;go_simp;try with_reducible rfl
       simp only [Act.put,pa,pb,pc,pd,pe,pf];refine wtj 18 (v:=?_) [22] rfl (by kernel_rfl) (fun _ _ _ h=>h) hS0 ⟨by rfl,?_⟩ ?_;rotate_left
       ·intro x hSx;clear hSx;go_simp;try with_reducible rfl
       simp only [Act.put,pa,pb,pc,pd,pe,pf];refine wto (j:=19) (by kernel_rfl) rfl (fun K hK=>?_);go_simp;refine hK.out _ _ (fun _=>hS1) ?_;clear hK K;rw [uh HW1];refine wto (j:=20) (by kernel_rfl) rfl (fun K hK=>?_);refine Sn.wanted (by rfl) ?_;refine wp_append_own _ _ _ 27 rfl w.heap.size 72 ii (.agg #[.int .i64 0,.int .i64 0,.int .i64 0,.int .i64 0]) 4 32 Tryz.underlying27 ni nz0 nz1 nz2 rfl (by decide) vL nn _ rfl (uh hown4) ⟨wr.heap.size,0,none⟩ 1 1 (#[.int .i64 (F k),.int .i64 (F (k+1)),.int .i64 (F (k+2)),.int .i64 (F (k+3))]:Array Value).toList rfl rfl (uh hnews) (uh hone) (by have:=uh HE;unfold maxLen;omega) (by have:=uh HE;omega) (uh hbz) ?_;intro v6 w6 hown hgrow hnil;obtain ⟨hS6,hfin2⟩:=uh hfin w6 v6 hown hgrow;have hS6':Hid (Lie w6 W _ 11 _∧Sn.Src w6 G o F):=hS6;have f6:=hS6.1.free;have z6:=uh hb5 _ hS6.1;have HF2:=hide hfin2;obtain ⟨g6,cp6,rfl⟩:=uh hform w6 v6 hown;clear hown hgrow hnil hS6 hfin2;refine hK.out _ _ (fun _=>hS6') ?_;clear hK K;refine wtj 21 (v:=?_) [22] rfl (by kernel_rfl) (fun _ _ _ h=>h) hS6' ⟨by rfl,?_⟩ ?_;rotate_left
       ·intro x hSx;clear hSx;go_simp;try with_reducible rfl
       simp only [Act.put,pa,pb,pc,pd,pe,pf];refine wto (j:=22) (by kernel_rfl) rfl (fun K hK=>?_);go_simp;refine hK.out _ _ (fun hx=>absurd (hx.symm.trans (by kernel_rfl)) Bool.false_ne_true) ?_;clear hK K;refine wpTill_done (by kernel_rfl) ?_ _;have HN2:Hid (nn+1≤40):=(show nn+1≤40 by have:=uh HE;omega);clear hown4 hnews hone hbz hform hfin hS0 hS1 hS6' HW1 HE f6 z6 hb5;go_wp2_with fail;go_roundw;case rel=>first | exact ⟨nn+1,uh HN2,by go_num,_,uh HF2⟩ | ((repeat apply Exists.intro);exact ⟨⟨nn+1,uh HN2,by go_num,_,uh HF2⟩,rfl⟩)
       case measure=>simp [intOf];have:=uh HN2;omega
      ·obtain rfl:nn=40:=by omega
       have hge:¬((40:Nat):Int)<40:=by omega
       clear hlt hn;have hY:=hX;clear hX hge;obtain ⟨gC,cC,hvC,lC,-,hLC⟩:=Lie.of_append (uh hY).cells (by rintro rfl;exact absurd (uh hY).cells (by rintro ⟨_,⟨_,h⟩|⟨g,cap,cur,e,_⟩⟩ <;> first|omega|cases e));obtain ⟨gE,cE,hvE,lE,hcE,hLE⟩:=Lie.of_append (uh hY).ents (by rintro rfl;exact absurd (uh hY).ents (by rintro ⟨_,⟨_,h⟩|⟨g,cap,cur,e,_⟩⟩ <;> first|omega|cases e));obtain ⟨gI,cI,hvI,lI,-,hLI⟩:=Lie.of_append (uh hY).items (by rintro rfl;exact absurd (uh hY).items (by rintro ⟨_,⟨_,h⟩|⟨g,cap,cur,e,_⟩⟩ <;> first|omega|cases e));have hB:Hid (Lie wr W 30 11 (Gd.box (Sn.rs F) gC gE gI cC cE cI (Sn.rg F))):=by
        refine (uh hY).box.congr fun j hj=>?_;rw [hvC,hvE,hvI];rcases (show j=0∨j=1∨j=2∨j=3∨j=4∨j=5∨j=6∨j=7∨j=8∨j=9∨j=10 by omega) with rfl|rfl|rfl|rfl|rfl|rfl|rfl|rfl|rfl|rfl|rfl <;> rfl
       have hLL:Hid (Gd.Lists wr gC gE gI (Sn.rc F) (Sn.rE F) (Sn.rI F)):=⟨hLC,hLE,hLI⟩;have HX:Hid (32≤cE∧w.heap.size≤gC∧w.heap.size≤gE∧w.heap.size≤gI∧gC≠gE∧gC≠gI∧gE≠gI):=⟨hcE,lC,lE,lI,hLC.type_ne hLE (by decide),hLC.type_ne hLI (by decide),hLE.type_ne hLI (by decide)⟩;have hby:Hid (∀i,0≤Sn.rc F i∧Sn.rc F i≤255):=fun i=>(uh hY).src.byte _;have HG:=hide (uh hY).grown;have HR:=hide (uh hY).res;have HPl:=hide (uh hY).lP;have cc:=hide (refCheck11_any (Sn.rs F) (Sn.rg F) (Sn.rc F) (Sn.rE F) (Sn.rI F) gC gE gI cC cE cI wr (uh hLL) (uh hby) hcE);clear hvC hvE hvI lC lE lI hLC hLE hLI hcE hY;generalize Sn.rs F=sF at *
       generalize Sn.rg F=gF at *
       generalize Sn.rc F=cF at *
       generalize Sn.rE F=eF at *
       generalize Sn.rI F=iF at *
       unfold Gd.world at cc;obtain ⟨b0,b1,b2,b3,b4,b5,b6,b7,b8,b9,b10⟩:=(uh hB).eleven;go_wp2_with fail;refine (uh cc).mono ?_;rintro e w3 ⟨r,rfl,hr,hg3⟩;have HR3:=hide ((uh HR).on hg3);have HG3:=hide (gtr (uh HG) hg3);have HL3:=hide ((uh hLL).on hg3);have hB3:=hide ((uh hB).on hg3);have hr':=hide hr;clear hg3 hr cc HR HG hLL hB b0 b1 b2 b3 b4 b5 b6 b7 b8 b9 b10;have fz:=(uh HR3).free;obtain ⟨z0,z1,z2,z3,z4,z5,z6,z7,z8,z9,z10⟩:=Gd.res_cells ((uh HR3).congr (G:=(fun j=>#[.int .i64 0,.int .i64 0,.int .i64 0,.int .i64 0,.slice none 0 0,.slice none 0 0,.slice none 0 0,.int .i64 0,.int .i64 0,.int .i64 0,Value.int .i64 0][j]?.getD undef)) fun j hj=>by rcases (show j=0∨j=1∨j=2∨j=3∨j=4∨j=5∨j=6∨j=7∨j=8∨j=9∨j=10 by omega) with rfl|rfl|rfl|rfl|rfl|rfl|rfl|rfl|rfl|rfl|rfl <;> rfl);by_cases h0:r=0
       ·subst h0;have hfo:Hid (∀vs,D (.returned (.tuple #[.agg (Gd.world sF gC gE gI cC cE cI gF),.int .i64 0])) (w3.setCells P 0 vs)):=fun vs=>by
         obtain ⟨x1,x2,x3,x4,x5,x6,x7⟩:=uh HX;have h:=uh HL3;have hr:=uh HR3;refine uh hD0 _ _ (uh hr') ⟨gC,gE,gI,cC,cE,cI,rfl,x1,x2,x3,x4,x5,x6,x7,⟨h.cells.others (hr.type_ne h.cells (by decide)) _ _,h.ents.others (hr.type_ne h.ents (by decide)) _ _,h.items.others (hr.type_ne h.items (by decide)) _ _⟩,own_sets (uh HPl) vs 0 w3 (uh HG3)⟩
        obtain ⟨b0,b1,b2,b3,b4,b5,b6,b7,b8,b9,b10⟩:=(uh hB3).eleven;clear HX HL3 HR3 HG3 hB3 hD0 hD1 hr' hby;go_wp2;refine bodyPost_ret (v:=.tuple #[.agg (Gd.world sF gC gE gI cC cE cI gF),.int .i64 0]) (by simp [results,Tryz.results14,go_sem,Gd.world,z0,z1,z2,z3,z4,z5,z6,z7,z8,z9,z10]) rfl ?_;exact uh hfo [_,_,_,_,_,_,_,_,_,_,_]
       ·have h0':(r != 0)=true:=by simp [h0]
        have hfo:Hid (∀vs,D (.returned (.tuple #[.agg Sn.void,.int .i64 r])) (w3.setCells P 0 vs)):=fun vs=>uh hD1 r _ (uh hr') h0 (own_sets (uh HPl) vs 0 w3 (uh HG3));clear HX HL3 HR3 HG3 hB3 hD0 hD1 hr' h0 hby;go_wp2;refine bodyPost_ret (v:=.tuple #[.agg Sn.void,.int .i64 r]) (by simp [results,Tryz.results14,go_sem,Sn.void,z0,z1,z2,z3,z4,z5,z6,z7,z8,z9,z10]) rfl ?_;exact uh hfo [_,_,_,_,_,_,_,_,_,_,_]

end Go.Proofs.YtldgbkjceildfaaGreat
