import Derived.Test.YtbanjoflgoiegaaGreatPs31
namespace Go.Proofs.YtbanjoflgoiegaaGreat
open Go.RowKit

theorem within10_any (a n:Int) (w:World) (hn:0<n) (hn2:n≤4611686018427387904) :
  Calls Tryz.prog 14 #[.int .i64 a,.int .i64 n] w fun e w'=>e=.returned (.int .i64 (a % n))∧w'=w:=by
 have t1:=Int.tmod_lt_of_pos a (b:=n) hn
 have t2:=Int.lt_tmod_of_pos a (b:=n) hn
 have hn0:(n == 0)=false:=by simp;omega
 by_cases h:a.tmod n<0
 ·have ha:¬0≤a:=by
   intro h0
   have:=Int.tmod_nonneg n h0
   omega
  have hd:=hide (Gr.within_neg a n hn h)
  go_enter Tryz.func14,Tryz.ntmps14
  go_wp2
  go_ret
  exact ⟨rti (uh hd),rfl⟩
 ·have hd:=hide (Gr.within_pos a n hn h)
  by_cases ha:0≤a
  ·have e:a.tmod n=a % n:=Int.tmod_eq_emod_of_nonneg ha
   have h':¬a % n<0:=by rw [←e];exact h
   clear h t1 t2 e
   go_enter Tryz.func14,Tryz.ntmps14
   go_wp2
   go_ret
   exact ⟨rfl,rfl⟩
  ·go_enter Tryz.func14,Tryz.ntmps14
   go_wp2
   go_ret
   exact ⟨rti (uh hd),rfl⟩

def Cr.acts (h i:Nat→Int) (b:Nat→Bool):Array Value:=#[.int .i64 (h 0),.int .i64 (i 0),.bool (b 0),.int .i64 (h 1),.int .i64 (i 1),.bool (b 1),.int .i64 (h 2),.int .i64 (i 2),.bool (b 2),.int .i64 (h 3),.int .i64 (i 3),.bool (b 3)]

def Cr.actF (h i:Nat→Int) (b:Nat→Bool) (j:Nat):Value:=if j % 3=0 then .int .i64 (h (j / 3)) else if j % 3=1 then .int .i64 (i (j / 3)) else .bool (b (j / 3))

theorem Cr.acts_lie {x:World} {A:Nat} {T:TypeId} {h i:Nat→Int} {b:Nat→Bool} (hA:x.heap[A]?=some (.cells (Cr.acts h i b) T (0,0))):Lie x A T 12 (Cr.actF h i b) :=
 Lie.congr (m:=12) (Arr.lit hA).lie fun j hj=>by
  rcases (show j=0∨j=1∨j=2∨j=3∨j=4∨j=5∨j=6∨j=7∨j=8∨j=9∨j=10∨j=11 by omega) with rfl | rfl | rfl | rfl | rfl | rfl | rfl | rfl | rfl | rfl | rfl | rfl <;> rfl

theorem Cr.acts_put {x:World} {A t:Nat} {T:TypeId} {h i:Nat→Int} {b:Nat→Bool} (hA:Lie x A T 12 (Cr.actF h i b)) (u v:Int) (c:Bool) :
  Lie (((x.setCell ⟨A,t*3,none⟩ (.int .i64 u)).setCell ⟨A,t*3+1,none⟩ (.int .i64 v)).setCell ⟨A,t*3+2,none⟩ (.bool c)) A T 12 (Cr.actF (fun k=>if k=t then u else h k) (fun k=>if k=t then v else i k) (fun k=>if k=t then c else b k)):=by
 refine (((hA.store _ _).store _ _).store _ _).congr fun j _=>?_
 unfold Cr.actF
 by_cases e:j / 3=t
 ·rcases (show j=t*3∨j=t*3+1∨j=t*3+2 by omega) with hj | hj | hj
  ·have h0:j % 3=0:=by omega
   rw [if_neg (by omega),if_neg (by omega),if_pos hj,if_pos h0]
   simp only [e,if_true]
  ·have h0:j % 3=1:=by omega
   rw [if_neg (by omega),if_pos hj,if_neg (by omega),if_pos h0]
   simp only [e,if_true]
  ·have h0:j % 3=2:=by omega
   rw [if_pos hj,if_neg (by omega),if_neg (by omega)]
   simp only [e,if_true]
 ·rw [if_neg (by omega),if_neg (by omega),if_neg (by omega)]
  simp only [e,if_false]

def Cr.howOf (z:Int):Int:=z % 4
def Cr.inOf (z:Int):Int:=z.tdiv 4 % 12 - 1
def Cr.spOf (z:Int):Bool:=z.tdiv 48 % 5 == 0

def Cr.Nums (w:World) (a:Option Addr) (n:Nat) (z:Nat→Int):Prop:=∀i,i<n→∃b o,a=some ⟨b,o,none⟩∧b<w.heap.size∧w.cell? ⟨b,o+i,none⟩=some (.int .i64 (z i))∧-9223372036854775808≤z i∧z i≤9223372036854775807

theorem Cr.Nums.on {w w':World} {a:Option Addr} {n:Nat} {z:Nat→Int} (h:Cr.Nums w a n z) (hg:w.grownBy w' none):Cr.Nums w' a n z:=fun i hi=>by
 obtain ⟨b,o,ha,hb,hc,h1,h2⟩:=h i hi
 exact ⟨b,o,ha,Nat.lt_of_lt_of_le hb hg.size,(gce hg b _ hb (by simp)).trans hc,h1,h2⟩

theorem Cr.quo_wrap {u n:Int} (h1:-9223372036854775808≤u) (h2:u≤9223372036854775807) (hn:2≤n):IntKind.i64.wrap (u.tdiv n)=u.tdiv n:=by
 have key:∀v:Int,0≤v→0≤v.tdiv n∧v.tdiv n*2≤v:=fun v hv=>by
  rw [Int.tdiv_eq_ediv_of_nonneg hv]
  have a1:=Int.ediv_nonneg hv (show 0≤n by omega)
  have a2:=Int.ediv_mul_le v (show n≠0 by omega)
  refine ⟨a1,Int.le_trans ?_ a2⟩
  exact Int.mul_le_mul_of_nonneg_left hn a1
 rw [IntKind.wrap_i64]
 by_cases h0:0≤u
 ·have:=key u h0
  omega
 ·have h3:=key (-u) (by omega)
  rw [Int.neg_tdiv] at h3
  omega

theorem Cr.acts_cells {x:World} {A:Nat} {T:TypeId} {h i:Nat→Int} {b:Nat→Bool} (hA:Lie x A T 12 (Cr.actF h i b)) :
  x.cell? ⟨A,0,none⟩=some (.int .i64 (h 0))∧x.cell? ⟨A,1,none⟩=some (.int .i64 (i 0))∧x.cell? ⟨A,2,none⟩=some (.bool (b 0))∧x.cell? ⟨A,3,none⟩=some (.int .i64 (h 1))∧x.cell? ⟨A,4,none⟩=some (.int .i64 (i 1))∧x.cell? ⟨A,5,none⟩=some (.bool (b 1))∧x.cell? ⟨A,6,none⟩=some (.int .i64 (h 2))∧x.cell? ⟨A,7,none⟩=some (.int .i64 (i 2))∧x.cell? ⟨A,8,none⟩=some (.bool (b 2))∧x.cell? ⟨A,9,none⟩=some (.int .i64 (h 3))∧x.cell? ⟨A,10,none⟩=some (.int .i64 (i 3))∧x.cell? ⟨A,11,none⟩=some (.bool (b 3)) :=
 ⟨hA.cell (c:=0) (by omega),hA.cell (c:=1) (by omega),hA.cell (c:=2) (by omega),hA.cell (c:=3) (by omega),hA.cell (c:=4) (by omega),hA.cell (c:=5) (by omega),hA.cell (c:=6) (by omega),hA.cell (c:=7) (by omega),hA.cell (c:=8) (by omega),hA.cell (c:=9) (by omega),hA.cell (c:=10) (by omega),hA.cell (c:=11) (by omega)⟩

theorem Cr.acts_next {x:World} {A:Nat} {T:TypeId} {t:Nat} {z:Nat→Int} {f g:Int→Int} {b:Int→Bool} (hA:Lie x A T 12 (Cr.actF (fun k=>if k<t then f (z k) else 0) (fun k=>if k<t then g (z k) else 0) (fun k=>if k<t then b (z k) else false))) :
  Lie (((x.setCell ⟨A,t*3,none⟩ (.int .i64 (f (z t)))).setCell ⟨A,t*3+1,none⟩ (.int .i64 (g (z t)))).setCell ⟨A,t*3+2,none⟩ (.bool (b (z t)))) A T 12 (Cr.actF (fun k=>if k<t+1 then f (z k) else 0) (fun k=>if k<t+1 then g (z k) else 0) (fun k=>if k<t+1 then b (z k) else false)):=by
 refine (Cr.acts_put hA (f (z t)) (g (z t)) (b (z t))).congr fun j _=>?_
 have key:∀{α:Type} (d:α) (q:Int→α),(fun k=>if k=t then q (z t) else if k<t then q (z k) else d)=fun k=>if k<t+1 then q (z k) else d:=fun d q=>by
  funext k
  by_cases e:k=t
  ·rw [if_pos e,if_pos (by omega),e]
  ·rw [if_neg e]
   by_cases h:k<t
   ·rw [if_pos h,if_pos (by omega)]
   ·rw [if_neg h,if_neg (by omega)]
 rw [key 0 f,key 0 g,key false b]

def Cr.hows (n:Nat) (z:Nat→Int) (j:Nat):Int:=if j<min 4 n then Cr.howOf (z j) else 0
def Cr.ins (n:Nat) (z:Nat→Int) (j:Nat):Int:=if j<min 4 n then Cr.inOf (z j) else 0
def Cr.sps (n:Nat) (z:Nat→Int) (j:Nat):Bool:=if j<min 4 n then Cr.spOf (z j) else false

set_option maxRecDepth 8000 in
set_option maxHeartbeats 12800000 in
theorem acts10_any (a:Option Addr) (n k:Nat) (z:Nat→Int) (w:World) (hz:Cr.Nums w a n z) :
  Calls Tryz.prog 13 #[.slice a n k] w (Says w (.agg (Cr.acts (Cr.hows n z) (Cr.ins n z) (Cr.sps n z)))):=by
 obtain ⟨wz,hwz⟩:∃wz,wz=w.alloc (.cells (Cr.acts (fun _=>0) (fun _=>0) (fun _=>false)) 36):=⟨_,rfl⟩
 obtain ⟨w0,hw0⟩:∃w0,w0=wz.alloc (.cells (Cr.acts (fun _=>0) (fun _=>0) (fun _=>false)) 36):=⟨_,rfl⟩
 have hgz:w.grownBy wz none:=by rw [hwz];exact World.grownBy_alloc _ _ _
 have hg0:wz.grownBy w0 none:=by rw [hw0];exact World.grownBy_alloc _ _ _
 have sz:wz.heap.size=w.heap.size+1:=by rw [hwz];simp
 obtain ⟨B,hB⟩:∃B,w.heap.size=B:=⟨_,rfl⟩
 rw [hB] at sz
 have hres:Hid (Lie w0 B 36 12 (Cr.actF (fun _=>0) (fun _=>0) (fun _=>false))):=by
  refine Lie.on ?_ hg0
  rw [hwz,←hB]
  exact Cr.acts_lie (heap_alloc_new w _)
 have hact:Hid (Lie w0 (B+1) 36 12 (Cr.actF (fun j=>if j<0 then Cr.howOf (z j) else 0) (fun j=>if j<0 then Cr.inOf (z j) else 0) (fun j=>if j<0 then Cr.spOf (z j) else false))):=by
  rw [hw0,←sz]
  exact (Cr.acts_lie (heap_alloc_new wz _)).congr fun j _=>rfl
 have hg1:=hide (gtr hgz hg0)
 have hz':=hide hz
 have hB':=hide hB
 clear hz hgz hg0 sz
 unfold Cr.acts at hwz hw0
 rw [hwz] at hw0
 clear hwz
 go_enter Tryz.func13,Tryz.ntmps13
 go_upto_region 2 with fail
 dsimp only at hw0
 rw [←hw0]
 clear hw0 hB
 go_wp2_with fail
 go_loopw [4] (fun v4 wr=>∃t:Nat,t≤4∧t≤n∧v4=.int .i64 (t:Int)∧Hid (Lie wr B 36 12 (Cr.actF (fun _=>0) (fun _=>0) (fun _=>false)))∧Hid (Lie wr (B+1) 36 12 (Cr.actF (fun j=>if j<t then Cr.howOf (z j) else 0) (fun j=>if j<t then Cr.inOf (z j) else 0) (fun j=>if j<t then Cr.spOf (z j) else false)))∧Hid (w.grownBy wr none)) (fun v4 _=>10 - (intOf v4).toNat)
 case atStart=>exact ⟨0,by omega,by omega,rfl,hres,hact,hg1⟩
 case round =>
  clear hres hact hg1
  obtain ⟨t,ht4,htn,rfl,hres,hact,hg1⟩:=hrel
  by_cases h4:t<4
  ·have h4':(t:Int)<4:=by omega
   by_cases hn:t<n
   ·have hn':(t:Int)<(n:Int):=by omega
    obtain ⟨b,o,rfl,hb,hc,y1,y2⟩:=((uh hz').on (uh hg1)) t hn
    have hnx:=hide (fun x (hx:wr.grownBy x none)=>Cr.acts_next (f:=Cr.howOf) (g:=Cr.inOf) (b:=Cr.spOf) ((uh hact).on hx))
    have hkeep:Hid (∀x,wr.grownBy x none→x.cell? ⟨b,o+t,none⟩=some (.int .i64 (z t))):=fun x hx=>(gce hx b _ hb (by simp)).trans hc
    have HL:=hide (And.intro h4 hn)
    obtain ⟨u,hu⟩:∃u,z t=u:=⟨_,rfl⟩
    rw [hu] at hnx hkeep y1 y2
    have q4:IntKind.i64.wrap (u.tdiv 4)=u.tdiv 4:=Cr.quo_wrap y1 y2 (by omega)
    have q48:IntKind.i64.wrap (u.tdiv 48)=u.tdiv 48:=Cr.quo_wrap y1 y2 (by omega)
    have c4:=hide (fun x=>within10_any u 4 x (by omega) (by omega))
    have c12:=hide (fun x=>within10_any (u.tdiv 4) 12 x (by omega) (by omega))
    have c5:=hide (fun x=>within10_any (u.tdiv 48) 5 x (by omega) (by omega))
    have e1:Hid (Cr.howOf u=u % 4):=rfl
    have e2:Hid (Cr.inOf u=u.tdiv 4 % 12 - 1):=rfl
    have e3:Hid (Cr.spOf u=(u.tdiv 48 % 5 == 0)):=rfl
    have r12:Hid (0≤u.tdiv 4 % 12∧u.tdiv 4 % 12<12):=⟨Int.emod_nonneg _ (by omega),Int.emod_lt_of_pos _ (by omega)⟩
    rw [uh e1,uh e2,uh e3] at hnx
    obtain ⟨a4,ha4⟩:∃a4,u % 4=a4:=⟨_,rfl⟩
    obtain ⟨a12,ha12⟩:∃a12,u.tdiv 4 % 12=a12:=⟨_,rfl⟩
    obtain ⟨a5,ha5⟩:∃a5,u.tdiv 48 % 5=a5:=⟨_,rfl⟩
    rw [ha4] at c4 hnx
    rw [ha12] at c12 hnx r12
    rw [ha5] at c5 hnx
    have w12:IntKind.i64.wrap (a12 - 1)=a12 - 1:=by have:=uh r12;rw [IntKind.wrap_i64];omega
    clear hu e1 e2 e3 ha4 ha12 ha5 hb hc y1 y2 h4 hn ht4 htn
    go_upto_region 5 with fail
    have hdr:=hide (gd1 (World.grownBy.refl wr none))
    have hst:=hide (uh hnx _ (uh hdr))
    have hr1:=hide ((uh hres).on (uh hdr))
    have hg2:=hide (gtr (uh hg1) (uh hdr))
    have fA:=((uh hact).on (uh hdr)).free
    obtain ⟨o0,k0⟩:∃v,wr.drew.cell? ⟨B+1,t*3,none⟩=some v:=⟨_,((uh hact).on (uh hdr)).cell (by have:=uh HL;omega)⟩
    obtain ⟨o1,k1⟩:∃v,wr.drew.cell? ⟨B+1,t*3+1,none⟩=some v:=⟨_,((uh hact).on (uh hdr)).cell (by have:=uh HL;omega)⟩
    obtain ⟨o2,k2⟩:∃v,wr.drew.cell? ⟨B+1,t*3+2,none⟩=some v:=⟨_,((uh hact).on (uh hdr)).cell (by have:=uh HL;omega)⟩
    refine wp_region_till (h:=22) (S:=fun x=>x.cell? ⟨b,o+t,none⟩=some (.int .i64 u)) (by kernel_rfl) ?_
    have hS0:=uh hkeep _ (uh hdr)
    clear hnx hres hact hg1 hkeep hdr
    generalize wr.drew=wd at hst hr1 hg2 fA hS0 k0 k1 k2 ⊢
    refine wtk (i:=0) (v:=?_) [21,22] rfl (by kernel_rfl) (by kernel_rfl) (by kernel_rfl) (by kernel_rfl) (fun _ _ _ h=>h) hS0 (Or.inl ⟨by rfl,?_⟩) ?_
    rotate_left
    ·intro x hSx
     try dsimp only at hSx
     go_simp
     try with_reducible rfl
    simp only [Act.put]
    refine wtk (i:=1) (v:=?_) [3,4,5,20,22] rfl (by kernel_rfl) (by kernel_rfl) (by kernel_rfl) (by kernel_rfl) (fun _ _ _ h=>h) hS0 (Or.inl ⟨by rfl,?_⟩) ?_
    rotate_left
    ·intro x hSx
     try dsimp only at hSx
     go_simp
     try with_reducible rfl
    simp only [Act.put]
    refine wtk (i:=2) (v:=?_) [3,4,5,20,22] rfl (by kernel_rfl) (by kernel_rfl) (by kernel_rfl) (by kernel_rfl) (fun _ _ _ h=>h) hS0 (Or.inl ⟨by rfl,?_⟩) ?_
    rotate_left
    ·intro x hSx
     try dsimp only at hSx
     go_simp
     try with_reducible rfl
    simp only [Act.put]
    refine wtk (i:=3) (v:=?_) [4,5,20,22] rfl (by kernel_rfl) (by kernel_rfl) (by kernel_rfl) (by kernel_rfl) (fun _ _ _ h=>h) hS0 (Or.inl ⟨by rfl,?_⟩) ?_
    rotate_left
    ·intro x hSx
     try dsimp only at hSx
     go_simp
     try with_reducible rfl
    simp only [Act.put]
    refine wtk (i:=4) (v:=?_) [5,20,22] rfl (by kernel_rfl) (by kernel_rfl) (by kernel_rfl) (by kernel_rfl) (fun _ _ _ h=>h) hS0 (Or.inl ⟨by rfl,?_⟩) ?_
    rotate_left
    ·intro x hSx
     try dsimp only at hSx
     go_simp
     try with_reducible rfl
    simp only [Act.put]
    refine wtk (i:=6) (v:=?_) [8,9,10,11,12,20,22] rfl (by kernel_rfl) (by kernel_rfl) (by kernel_rfl) (by kernel_rfl) (fun _ _ _ h=>h) hS0 (Or.inl ⟨by rfl,?_⟩) ?_
    rotate_left
    ·intro x hSx
     try dsimp only at hSx
     go_simp
     try with_reducible rfl
    simp only [Act.put]
    refine wtk (i:=7) (v:=?_) [8,9,10,11,12,20,22] rfl (by kernel_rfl) (by kernel_rfl) (by kernel_rfl) (by kernel_rfl) (fun _ _ _ h=>h) hS0 (Or.inl ⟨by rfl,?_⟩) ?_
    rotate_left
    ·intro x hSx
     try dsimp only at hSx
     go_simp
     try with_reducible rfl
    simp only [Act.put]
    refine wtk (i:=8) (v:=?_) [9,10,11,12,20,22] rfl (by kernel_rfl) (by kernel_rfl) (by kernel_rfl) (by kernel_rfl) (fun _ _ _ h=>h) hS0 (Or.inl ⟨by rfl,?_⟩) ?_
    rotate_left
    ·intro x hSx
     try dsimp only at hSx
     go_simp
     try with_reducible rfl
    simp only [Act.put]
    refine wtk (i:=9) (v:=?_) [10,11,12,20,22] rfl (by kernel_rfl) (by kernel_rfl) (by kernel_rfl) (by kernel_rfl) (fun _ _ _ h=>h) hS0 (Or.inl ⟨by rfl,?_⟩) ?_
    rotate_left
    ·intro x hSx
     try dsimp only at hSx
     go_simp
     try with_reducible rfl
    simp only [Act.put]
    refine wtk (i:=10) (v:=?_) [11,12,20,22] rfl (by kernel_rfl) (by kernel_rfl) (by kernel_rfl) (by kernel_rfl) (fun _ _ _ h=>h) hS0 (Or.inl ⟨by rfl,?_⟩) ?_
    rotate_left
    ·intro x hSx
     try dsimp only at hSx
     go_simp
     try with_reducible rfl
    simp only [Act.put]
    refine wtk (i:=13) (v:=?_) [15,16,17,18,19,20,22] rfl (by kernel_rfl) (by kernel_rfl) (by kernel_rfl) (by kernel_rfl) (fun _ _ _ h=>h) hS0 (Or.inl ⟨by rfl,?_⟩) ?_
    rotate_left
    ·intro x hSx
     try dsimp only at hSx
     go_simp
     try with_reducible rfl
    simp only [Act.put]
    refine wtk (i:=14) (v:=?_) [15,16,17,18,19,20,22] rfl (by kernel_rfl) (by kernel_rfl) (by kernel_rfl) (by kernel_rfl) (fun _ _ _ h=>h) hS0 (Or.inl ⟨by rfl,?_⟩) ?_
    rotate_left
    ·intro x hSx
     try dsimp only at hSx
     go_simp
     try with_reducible rfl
    simp only [Act.put]
    refine wtk (i:=15) (v:=?_) [16,17,18,19,20,22] rfl (by kernel_rfl) (by kernel_rfl) (by kernel_rfl) (by kernel_rfl) (fun _ _ _ h=>h) hS0 (Or.inl ⟨by rfl,?_⟩) ?_
    rotate_left
    ·intro x hSx
     try dsimp only at hSx
     go_simp
     try with_reducible rfl
    simp only [Act.put]
    refine wtk (i:=16) (v:=?_) [17,18,19,20,22] rfl (by kernel_rfl) (by kernel_rfl) (by kernel_rfl) (by kernel_rfl) (fun _ _ _ h=>h) hS0 (Or.inl ⟨by rfl,?_⟩) ?_
    rotate_left
    ·intro x hSx
     try dsimp only at hSx
     go_simp
     try with_reducible rfl
    simp only [Act.put]
    refine wtk (i:=17) (v:=?_) [18,19,20,22] rfl (by kernel_rfl) (by kernel_rfl) (by kernel_rfl) (by kernel_rfl) (fun _ _ _ h=>h) hS0 (Or.inl ⟨by rfl,?_⟩) ?_
    rotate_left
    ·intro x hSx
     try dsimp only at hSx
     go_simp
     try with_reducible rfl
    simp only [Act.put]
    refine wto (j:=5) (by kernel_rfl) rfl (fun K hK=>?_)
    go_simp
    refine (uh c4 _).mono ?_
    rintro e wq ⟨rfl,hy⟩
    subst wq
    try go_simp
    refine hK.out _ _ (fun _=>hS0) ?_
    clear hK K
    refine wto (j:=11) (by kernel_rfl) rfl (fun K hK=>?_)
    go_simp
    refine (uh c12 _).mono ?_
    rintro e wq ⟨rfl,hy⟩
    subst wq
    try go_simp
    refine hK.out _ _ (fun _=>hS0) ?_
    clear hK K
    refine wtk (i:=12) (v:=?_) [20,22] rfl (by kernel_rfl) (by kernel_rfl) (by kernel_rfl) (by kernel_rfl) (fun _ _ _ h=>h) hS0 (Or.inl ⟨by rfl,?_⟩) ?_
    rotate_left
    ·intro x hSx
     try dsimp only at hSx
     go_simp
     try with_reducible rfl
    simp only [Act.put]
    refine wto (j:=18) (by kernel_rfl) rfl (fun K hK=>?_)
    go_simp
    refine (uh c5 _).mono ?_
    rintro e wq ⟨rfl,hy⟩
    subst wq
    try go_simp
    refine hK.out _ _ (fun _=>hS0) ?_
    clear hK K
    refine wtk (i:=19) (v:=?_) [20,22] rfl (by kernel_rfl) (by kernel_rfl) (by kernel_rfl) (by kernel_rfl) (fun _ _ _ h=>h) hS0 (Or.inl ⟨by rfl,?_⟩) ?_
    rotate_left
    ·intro x hSx
     try dsimp only at hSx
     go_simp
     try with_reducible rfl
    simp only [Act.put]
    refine wtk (i:=20) (v:=?_) [22] rfl (by kernel_rfl) (by kernel_rfl) (by kernel_rfl) (by kernel_rfl) (fun _ _ _ h=>h) hS0 (Or.inl ⟨by rfl,?_⟩) ?_
    rotate_left
    ·intro x hSx
     try dsimp only at hSx
     go_simp
     try with_reducible rfl
    simp only [Act.put]
    refine wtk (i:=21) (v:=?_) [22] rfl (by kernel_rfl) (by kernel_rfl) (by kernel_rfl) (by kernel_rfl) (fun _ _ _ h=>h) hS0 (Or.inl ⟨by rfl,?_⟩) ?_
    rotate_left
    ·intro x hSx
     try dsimp only at hSx
     go_simp
     try with_reducible rfl
    simp only [Act.put]
    refine wto (j:=22) (by kernel_rfl) rfl (fun K hK=>?_)
    go_simp
    refine hK.out _ _ (fun hx=>absurd (hx.symm.trans (by kernel_rfl)) Bool.false_ne_true) ?_
    clear hK K
    refine wpTill_done (by kernel_rfl) ?_ _
    have hr2:Hid (∀v0 v1 v2,Lie (((wd.setCell ⟨B+1,t*3,none⟩ v0).setCell ⟨B+1,t*3+1,none⟩ v1).setCell ⟨B+1,t*3+2,none⟩ v2) B 36 12 (Cr.actF (fun _=>0) (fun _=>0) (fun _=>false))):=fun v0 v1 v2=>(((uh hr1).other (by omega) _ v0).other (by omega) _ v1).other (by omega) _ v2
    have hg3:Hid (∀v0 v1 v2,w.grownBy (((wd.setCell ⟨B+1,t*3,none⟩ v0).setCell ⟨B+1,t*3+1,none⟩ v1).setCell ⟨B+1,t*3+2,none⟩ v2) none):=fun v0 v1 v2=>gsr (gsr (gsr (uh hg2) ⟨B+1,t*3,none⟩ (by rw [uh hB'];show B≤B+1;omega) v0) ⟨B+1,t*3+1,none⟩ (by rw [uh hB'];show B≤B+1;omega) v1) ⟨B+1,t*3+2,none⟩ (by rw [uh hB'];show B≤B+1;omega) v2
    go_wp2
    go_roundw
    case rel=>exact ⟨t+1,by have:=uh HL;omega,by have:=uh HL;omega,by go_num,uh hr2 _ _ _,hst,uh hg3 _ _ _⟩
    case measure=>simp [intOf];have:=uh HL;omega
   ·have hn':¬(t:Int)<(n:Int):=by omega
    have htm:t=min 4 n:=by omega
    rw [htm] at hact
    clear htm ht4 htn h4 hn
    obtain ⟨hf,hhf⟩:∃hf,(fun j=>if j<min 4 n then Cr.howOf (z j) else 0)=hf:=⟨_,rfl⟩
    obtain ⟨nf,hnf⟩:∃nf,(fun j=>if j<min 4 n then Cr.inOf (z j) else 0)=nf:=⟨_,rfl⟩
    obtain ⟨bf,hbf⟩:∃bf,(fun j=>if j<min 4 n then Cr.spOf (z j) else false)=bf:=⟨_,rfl⟩
    rw [hhf,hnf,hbf] at hact
    obtain ⟨y0,y1,y2,y3,y4,y5,y6,y7,y8,y9,y10,y11⟩:=Cr.acts_cells (uh hact)
    obtain ⟨z0,z1,z2,z3,z4,z5,z6,z7,z8,z9,z10,z11⟩:=Cr.acts_cells (uh hres)
    have fz:=(uh hres).free
    have hfo:Hid (∀vs,Says w (.agg (Cr.acts hf nf bf)) (.returned (.agg (Cr.acts hf nf bf))) (wr.setCells B 0 vs)):=fun vs=>⟨rfl,own_sets (by rw [uh hB'];omega) _ 0 wr (uh hg1)⟩
    have hP:Hid (∀e x,Says w (.agg (Cr.acts hf nf bf)) e x→Says w (.agg (Cr.acts (Cr.hows n z) (Cr.ins n z) (Cr.sps n z))) e x):=fun e x h=>by
     have a1:Cr.hows n z=hf:=hhf
     have a2:Cr.ins n z=nf:=hnf
     have a3:Cr.sps n z=bf:=hbf
     rw [a1,a2,a3];exact h
    clear hhf hnf hbf
    go_wp2
    refine bodyPost_ret (v:=.agg (Cr.acts hf nf bf)) (by simp [results,Tryz.results13,go_sem,Cr.acts,z0,z1,z2,z3,z4,z5,z6,z7,z8,z9,z10,z11]) rfl ?_
    exact uh hP _ _ (uh hfo [_,_,_,_,_,_,_,_,_,_,_,_])
  ·have h4':¬(t:Int)<4:=by omega
   have htm:t=min 4 n:=by omega
   rw [htm] at hact
   clear htm ht4 htn h4
   obtain ⟨hf,hhf⟩:∃hf,(fun j=>if j<min 4 n then Cr.howOf (z j) else 0)=hf:=⟨_,rfl⟩
   obtain ⟨nf,hnf⟩:∃nf,(fun j=>if j<min 4 n then Cr.inOf (z j) else 0)=nf:=⟨_,rfl⟩
   obtain ⟨bf,hbf⟩:∃bf,(fun j=>if j<min 4 n then Cr.spOf (z j) else false)=bf:=⟨_,rfl⟩
   rw [hhf,hnf,hbf] at hact
   obtain ⟨y0,y1,y2,y3,y4,y5,y6,y7,y8,y9,y10,y11⟩:=Cr.acts_cells (uh hact)
   obtain ⟨z0,z1,z2,z3,z4,z5,z6,z7,z8,z9,z10,z11⟩:=Cr.acts_cells (uh hres)
   have fz:=(uh hres).free
   have hfo:Hid (∀vs,Says w (.agg (Cr.acts hf nf bf)) (.returned (.agg (Cr.acts hf nf bf))) (wr.setCells B 0 vs)):=fun vs=>⟨rfl,own_sets (by rw [uh hB'];omega) _ 0 wr (uh hg1)⟩
   have hP:Hid (∀e x,Says w (.agg (Cr.acts hf nf bf)) e x→Says w (.agg (Cr.acts (Cr.hows n z) (Cr.ins n z) (Cr.sps n z))) e x):=fun e x h=>by
    have a1:Cr.hows n z=hf:=hhf
    have a2:Cr.ins n z=nf:=hnf
    have a3:Cr.sps n z=bf:=hbf
    rw [a1,a2,a3];exact h
   clear hhf hnf hbf
   go_wp2
   refine bodyPost_ret (v:=.agg (Cr.acts hf nf bf)) (by simp [results,Tryz.results13,go_sem,Cr.acts,z0,z1,z2,z3,z4,z5,z6,z7,z8,z9,z10,z11]) rfl ?_
   exact uh hP _ _ (uh hfo [_,_,_,_,_,_,_,_,_,_,_,_])


open Go.RowKit

def Cr.frm (s:Nat→Int) (gC gE gI cC cE cI:Nat) (g how inp:Nat→Int) (sp:Nat→Bool) (met left:Bool) (j:Nat):Value :=
 if j<11 then Gd.box s gC gE gI cC cE cI g j else if j<23 then Cr.actF how inp sp (j - 11) else if j=23 then .bool met else .bool left

structure Cr.Frm (v x:World) (P gC gE gI cC cE cI:Nat) (how inp:Nat→Int) (sp:Nat→Bool) (met left:Bool) (s g c:Nat→Int) (E I:Nat→Nat→Int):Prop where
 box:Lie x P 64 25 (Cr.frm s gC gE gI cC cE cI g how inp sp met left)
 lists:Gd.Lists x gC gE gI c E I
 cap:32≤cE∧384≤cC
 lP:v.heap.size≤P
 lC:v.heap.size≤gC
 lE:v.heap.size≤gE
 lI:v.heap.size≤gI
 cE:gC≠gE
 cI:gC≠gI
 eI:gE≠gI
 grown:v.grownBy x none

theorem Cr.Frm.on {v x y:World} {P gC gE gI cC cE cI:Nat} {how inp:Nat→Int} {sp:Nat→Bool} {met left:Bool} {s g c:Nat→Int} {E I:Nat→Nat→Int} (h:Cr.Frm v x P gC gE gI cC cE cI how inp sp met left s g c E I) (hg:x.grownBy y none):Cr.Frm v y P gC gE gI cC cE cI how inp sp met left s g c E I :=
 { h with box:=h.box.on hg,lists:=h.lists.on hg,grown:=gtr h.grown hg }

theorem Cr.Frm.apart {v x:World} {P gC gE gI cC cE cI:Nat} {how inp:Nat→Int} {sp:Nat→Bool} {met left:Bool} {s g c:Nat→Int} {E I:Nat→Nat→Int} (h:Cr.Frm v x P gC gE gI cC cE cI how inp sp met left s g c E I):P≠gC∧P≠gE∧P≠gI :=
 ⟨h.box.type_ne h.lists.cells (by decide),h.box.type_ne h.lists.ents (by decide),h.box.type_ne h.lists.items (by decide)⟩

theorem Cr.frm_lo {s:Nat→Int} {gC gE gI cC cE cI:Nat} {g how inp:Nat→Int} {sp:Nat→Bool} {met left:Bool} {j:Nat} (hj:j<11):Cr.frm s gC gE gI cC cE cI g how inp sp met left j=Gd.box s gC gE gI cC cE cI g j:=if_pos hj

theorem Cr.frm_act {s:Nat→Int} {gC gE gI cC cE cI:Nat} {g how inp:Nat→Int} {sp:Nat→Bool} {met left:Bool} {j:Nat} (hj:j<12):Cr.frm s gC gE gI cC cE cI g how inp sp met left (11+j)=Cr.actF how inp sp j:=by
 unfold Cr.frm
 rw [if_neg (by omega),if_pos (by omega),show 11+j - 11=j by omega]

theorem Cr.Frm.eleven {v x:World} {P gC gE gI cC cE cI:Nat} {how inp:Nat→Int} {sp:Nat→Bool} {met left:Bool} {s g c:Nat→Int} {E I:Nat→Nat→Int} (h:Cr.Frm v x P gC gE gI cC cE cI how inp sp met left s g c E I) :
  x.cell? ⟨P,0,none⟩=some (.int .i64 (s 0))∧x.cell? ⟨P,1,none⟩=some (.int .i64 (s 1))∧x.cell? ⟨P,2,none⟩=some (.int .i64 (s 2))∧x.cell? ⟨P,3,none⟩=some (.int .i64 (s 3))∧x.cell? ⟨P,4,none⟩=some (.slice (some ⟨gC,0,none⟩) 384 cC)∧x.cell? ⟨P,5,none⟩=some (.slice (some ⟨gE,0,none⟩) 32 cE)∧x.cell? ⟨P,6,none⟩=some (.slice (some ⟨gI,0,none⟩) 40 cI)∧x.cell? ⟨P,7,none⟩=some (.int .i64 (g 0))∧x.cell? ⟨P,8,none⟩=some (.int .i64 (g 1))∧x.cell? ⟨P,9,none⟩=some (.int .i64 (g 2))∧x.cell? ⟨P,10,none⟩=some (.int .i64 (g 3)):=by
 have hc:∀j,j<11→x.cell? ⟨P,j,none⟩=some (Gd.box s gC gE gI cC cE cI g j):=fun j hj=>(h.box.cell (c:=j) (by omega)).trans (by rw [Cr.frm_lo hj])
 exact ⟨hc 0 (by omega),hc 1 (by omega),hc 2 (by omega),hc 3 (by omega),hc 4 (by omega),hc 5 (by omega),hc 6 (by omega),hc 7 (by omega),hc 8 (by omega),hc 9 (by omega),hc 10 (by omega)⟩

theorem Cr.Frm.words {v x:World} {P gC gE gI cC cE cI:Nat} {how inp:Nat→Int} {sp:Nat→Bool} {met left:Bool} {s g c:Nat→Int} {E I:Nat→Nat→Int} (h:Cr.Frm v x P gC gE gI cC cE cI how inp sp met left s g c E I):x.cell? ⟨P,23,none⟩=some (.bool met)∧x.cell? ⟨P,24,none⟩=some (.bool left) :=
 ⟨h.box.cell (c:=23) (by omega),h.box.cell (c:=24) (by omega)⟩

theorem Cr.Frm.act {v x:World} {P gC gE gI cC cE cI:Nat} {how inp:Nat→Int} {sp:Nat→Bool} {met left:Bool} {s g c:Nat→Int} {E I:Nat→Nat→Int} (h:Cr.Frm v x P gC gE gI cC cE cI how inp sp met left s g c E I) {t:Nat} (ht:t<4) :
  x.cell? ⟨P,11+t*3,none⟩=some (.int .i64 (how t))∧x.cell? ⟨P,11+t*3+1,none⟩=some (.int .i64 (inp t))∧x.cell? ⟨P,11+t*3+2,none⟩=some (.bool (sp t)):=by
 have hc:∀j,j<12→x.cell? ⟨P,11+j,none⟩=some (Cr.actF how inp sp j):=fun j hj=>(h.box.cell (c:=11+j) (by omega)).trans (by rw [Cr.frm_act hj])
 refine ⟨(hc (t*3) (by omega)).trans ?_,(hc (t*3+1) (by omega)).trans ?_,(hc (t*3+2) (by omega)).trans ?_⟩ <;> unfold Cr.actF
 ·rw [if_pos (by omega),show t*3 / 3=t by omega]
 ·rw [if_neg (by omega),if_pos (by omega),show (t*3+1) / 3=t by omega]
 ·rw [if_neg (by omega),if_neg (by omega),show (t*3+2) / 3=t by omega]

theorem Cr.Frm.twelve {v x:World} {P gC gE gI cC cE cI:Nat} {how inp:Nat→Int} {sp:Nat→Bool} {met left:Bool} {s g c:Nat→Int} {E I:Nat→Nat→Int} (h:Cr.Frm v x P gC gE gI cC cE cI how inp sp met left s g c E I) :
  x.cell? ⟨P,11,none⟩=some (.int .i64 (how 0))∧x.cell? ⟨P,12,none⟩=some (.int .i64 (inp 0))∧x.cell? ⟨P,13,none⟩=some (.bool (sp 0))∧x.cell? ⟨P,14,none⟩=some (.int .i64 (how 1))∧x.cell? ⟨P,15,none⟩=some (.int .i64 (inp 1))∧x.cell? ⟨P,16,none⟩=some (.bool (sp 1))∧x.cell? ⟨P,17,none⟩=some (.int .i64 (how 2))∧x.cell? ⟨P,18,none⟩=some (.int .i64 (inp 2))∧x.cell? ⟨P,19,none⟩=some (.bool (sp 2))∧x.cell? ⟨P,20,none⟩=some (.int .i64 (how 3))∧x.cell? ⟨P,21,none⟩=some (.int .i64 (inp 3))∧x.cell? ⟨P,22,none⟩=some (.bool (sp 3)) :=
 ⟨(h.act (t:=0) (by omega)).1,(h.act (t:=0) (by omega)).2.1,(h.act (t:=0) (by omega)).2.2,(h.act (t:=1) (by omega)).1,(h.act (t:=1) (by omega)).2.1,(h.act (t:=1) (by omega)).2.2,(h.act (t:=2) (by omega)).1,(h.act (t:=2) (by omega)).2.1,(h.act (t:=2) (by omega)).2.2,(h.act (t:=3) (by omega)).1,(h.act (t:=3) (by omega)).2.1,(h.act (t:=3) (by omega)).2.2⟩

theorem Cr.Frm.set {v x:World} {P gC gE gI cC cE cI gC' gE' gI' cC' cE' cI':Nat} {how inp:Nat→Int} {sp:Nat→Bool} {met left met' left':Bool} {s g c s' g':Nat→Int} {E I:Nat→Nat→Int} (h:Cr.Frm v x P gC gE gI cC cE cI how inp sp met left s g c E I) (k:Nat) (u:Value) (he:∀j,j<25→(if j=k then u else Cr.frm s gC gE gI cC cE cI g how inp sp met left j)=Cr.frm s' gC' gE' gI' cC' cE' cI' g' how inp sp met' left' j) :
  Lie (x.setCell ⟨P,k,none⟩ u) P 64 25 (Cr.frm s' gC' gE' gI' cC' cE' cI' g' how inp sp met' left')∧Gd.Lists (x.setCell ⟨P,k,none⟩ u) gC gE gI c E I∧v.grownBy (x.setCell ⟨P,k,none⟩ u) none:=by
 obtain ⟨n1,n2,n3⟩:=h.apart
 exact ⟨(h.box.store k u).congr he,⟨h.lists.cells.other n1 _ _,h.lists.ents.other n2 _ _,h.lists.items.other n3 _ _⟩,gsr h.grown ⟨P,k,none⟩ h.lP _⟩

theorem Cr.Frm.met {v x:World} {P gC gE gI cC cE cI:Nat} {how inp:Nat→Int} {sp:Nat→Bool} {met left:Bool} {s g c:Nat→Int} {E I:Nat→Nat→Int} (h:Cr.Frm v x P gC gE gI cC cE cI how inp sp met left s g c E I) (b:Bool):Cr.Frm v (x.setCell ⟨P,23,none⟩ (.bool b)) P gC gE gI cC cE cI how inp sp b left s g c E I:=by
 obtain ⟨h1,h2,h3⟩:=h.set 23 (.bool b) (s':=s) (gC':=gC) (gE':=gE) (gI':=gI) (cC':=cC) (cE':=cE) (cI':=cI) (g':=g) (met':=b) (left':=left) fun j _=>by
  unfold Cr.frm
  by_cases e:j=23
  ·rw [if_pos e,if_neg (by omega),if_neg (by omega),if_pos e]
  ·rw [if_neg e,if_neg e,if_neg e]
 exact { h with box:=h1,lists:=h2,grown:=h3 }

theorem Cr.Frm.left {v x:World} {P gC gE gI cC cE cI:Nat} {how inp:Nat→Int} {sp:Nat→Bool} {met left:Bool} {s g c:Nat→Int} {E I:Nat→Nat→Int} (h:Cr.Frm v x P gC gE gI cC cE cI how inp sp met left s g c E I) (b:Bool):Cr.Frm v (x.setCell ⟨P,24,none⟩ (.bool b)) P gC gE gI cC cE cI how inp sp met b s g c E I:=by
 obtain ⟨h1,h2,h3⟩:=h.set 24 (.bool b) (s':=s) (gC':=gC) (gE':=gE) (gI':=gI) (cC':=cC) (cE':=cE) (cI':=cI) (g':=g) (met':=met) (left':=b) fun j hj=>by
  unfold Cr.frm
  by_cases e:j=24
  ·rw [if_pos e,if_neg (by omega),if_neg (by omega),if_neg (by omega)]
  ·rw [if_neg e]
   by_cases e1:j<11
   ·rw [if_pos e1,if_pos e1]
   ·by_cases e2:j<23
    ·rw [if_neg e1,if_neg e1,if_pos e2,if_pos e2]
    ·rw [if_neg e1,if_neg e1,if_neg e2,if_neg e2,if_pos (show j=23 by omega),if_pos (show j=23 by omega)]
 exact { h with box:=h1,lists:=h2,grown:=h3 }

theorem Cr.frm_over {s:Nat→Int} {gC gE gI cC cE cI gC' gE' gI' cC' cE' cI' k:Nat} {g how inp s' g':Nat→Int} {sp:Nat→Bool} {met left:Bool} {u:Value} (he:∀j,j<11→(if j=k then u else Gd.box s gC gE gI cC cE cI g j)=Gd.box s' gC' gE' gI' cC' cE' cI' g' j) (hk:k<11):∀j,j<25→(if j=k then u else Cr.frm s gC gE gI cC cE cI g how inp sp met left j)=Cr.frm s' gC' gE' gI' cC' cE' cI' g' how inp sp met left j:=fun j _=>by
 by_cases e:j<11
 ·rw [Cr.frm_lo e,Cr.frm_lo e,he j e]
 ·rw [if_neg (by omega)]
  unfold Cr.frm
  rw [if_neg e,if_neg e]

theorem Cr.Frm.num {v x:World} {P gC gE gI cC cE cI:Nat} {how inp:Nat→Int} {sp:Nat→Bool} {met left:Bool} {s g c:Nat→Int} {E I:Nat→Nat→Int} (h:Cr.Frm v x P gC gE gI cC cE cI how inp sp met left s g c E I) (k:Nat) (hk:k<4) (u:Int):Cr.Frm v (x.setCell ⟨P,k,none⟩ (.int .i64 u)) P gC gE gI cC cE cI how inp sp met left (Cr.num s k u) g c E I:=by
 obtain ⟨h1,h2,h3⟩:=h.set k (.int .i64 u) (Cr.frm_over (s':=Cr.num s k u) (gC':=gC) (gE':=gE) (gI':=gI) (cC':=cC) (cE':=cE) (cI':=cI) (g':=g) (fun j hj=>by
  rcases (show k=0∨k=1∨k=2∨k=3 by omega) with rfl | rfl | rfl | rfl <;> rcases (show j=0∨j=1∨j=2∨j=3∨j=4∨j=5∨j=6∨j=7∨j=8∨j=9∨j=10 by omega) with rfl | rfl | rfl | rfl | rfl | rfl | rfl | rfl | rfl | rfl | rfl <;> rfl) (by omega))
 exact { h with box:=h1,lists:=h2,grown:=h3 }

theorem Cr.Frm.folk {v x x':World} {P gC gE gI cC cE cI jE dE:Nat} {how inp:Nat→Int} {sp:Nat→Bool} {met left:Bool} {s g c:Nat→Int} {E I F:Nat→Nat→Int} (h:Cr.Frm v x P gC gE gI cC cE cI how inp sp met left s g c E I) (hcap:32≤dE) (hj:jE=gE∨x.heap.size≤jE) (hO:Own x' jE 32 F) (hg:x.grownBy x' none) :
  Cr.Frm v (x'.setCell ⟨P,5,none⟩ (.slice (some ⟨jE,0,none⟩) 32 dE)) P gC jE gI cC dE cI how inp sp met left s g c F I:=by
 have h':=h.on hg
 have q1:=h.lists.cells.lt
 have q2:=h.lists.items.lt
 have q3:=h.cE
 have q4:=h.eI
 have q5:=h.lE
 have q6:=h.grown.size
 have hE:=hO.lie (m:=352) (by omega)
 have nE:P≠jE:=h'.box.type_ne hE (by decide)
 obtain ⟨h1,h2,h3⟩:=h'.set 5 (.slice (some ⟨jE,0,none⟩) 32 dE) (Cr.frm_over (s':=s) (gC':=gC) (gE':=jE) (gI':=gI) (cC':=cC) (cE':=dE) (cI':=cI) (g':=g) (Gd.box_5 s g gC gE gI cC cE cI jE dE) (by omega))
 exact ⟨h1,⟨h2.cells,hE.other nE _ _,h2.items⟩,⟨hcap,h.cap.2⟩,h.lP,h.lC,by omega,h.lI,by omega,h.cI,by omega,h3⟩

theorem Cr.Frm.stat {v x:World} {P gC gE gI cC cE cI:Nat} {how inp:Nat→Int} {sp:Nat→Bool} {met left:Bool} {s g c:Nat→Int} {E I:Nat→Nat→Int} (h:Cr.Frm v x P gC gE gI cC cE cI how inp sp met left s g c E I) (k j:Nat) (hj:j<11) (u:Int):Cr.Frm v (x.setCell ⟨gE,k*11+j,none⟩ (.int .i64 u)) P gC gE gI cC cE cI how inp sp met left s g c (Gd.set E k j u) I:=by
 obtain ⟨n1,n2,n3⟩:=h.apart
 exact { h with box:=h.box.other n2.symm _ _,lists:=⟨h.lists.cells.other h.cE.symm _ _,h.lists.ents.stat k j hj u,h.lists.items.other h.eI _ _⟩,grown:=gsr h.grown ⟨gE,k*11+j,none⟩ h.lE _ }

theorem Cr.Frm.aside {v x:World} {P gC gE gI cC cE cI Q m:Nat} {T:TypeId} {H:Nat→Value} {how inp:Nat→Int} {sp:Nat→Bool} {met left:Bool} {s g c:Nat→Int} {E I:Nat→Nat→Int} (h:Cr.Frm v x P gC gE gI cC cE cI how inp sp met left s g c E I) (lQ:v.heap.size≤Q) (hQ:Lie x Q T m H) (hT:64≠T) (nE:Q≠gC∧Q≠gE∧Q≠gI) (k:Nat) (u:Value):Cr.Frm v (x.setCell ⟨Q,k,none⟩ u) P gC gE gI cC cE cI how inp sp met left s g c E I :=
 { h with box:=h.box.other (h.box.type_ne hQ hT).symm _ _,lists:=⟨h.lists.cells.other nE.1 _ _,h.lists.ents.other nE.2.1 _ _,h.lists.items.other nE.2.2 _ _⟩,grown:=gsr h.grown ⟨Q,k,none⟩ lQ _ }

theorem Cr.Frm.over {v x x':World} {P gC gE gI cC cE cI jC jE jI dC dE dI:Nat} {how inp:Nat→Int} {sp:Nat→Bool} {met left:Bool} {s g c s' g' c':Nat→Int} {E I F J:Nat→Nat→Int} (h:Cr.Frm v x P gC gE gI cC cE cI how inp sp met left s g c E I) (hcap:32≤dE∧384≤dC) (l1:x.heap.size≤jC) (l2:x.heap.size≤jE) (l3:x.heap.size≤jI) (n1:jC≠jE) (n2:jC≠jI) (n3:jE≠jI) (hL:Gd.Lists x' jC jE jI c' F J) (hg:x.grownBy x' none) :
  Cr.Frm v (x'.setCells P 0 (Gd.world s' jC jE jI dC dE dI g').toList) P jC jE jI dC dE dI how inp sp met left s' g' c' F J:=by
 have h':=h.on hg
 have q:=h.grown.size
 have m1:P≠jC:=h'.box.type_ne hL.cells (by decide)
 have m2:P≠jE:=h'.box.type_ne hL.ents (by decide)
 have m3:P≠jI:=h'.box.type_ne hL.items (by decide)
 refine ⟨(h'.box.stores 0 _).congr fun j hj=>?_,⟨hL.cells.others m1 _ _,hL.ents.others m2 _ _,hL.items.others m3 _ _⟩,hcap,h.lP,by omega,by omega,by omega,n1,n2,n3,own_sets h.lP _ 0 x' h'.grown⟩
 show (if 0≤j∧j<0+11 then (Gd.world s' jC jE jI dC dE dI g').toList[j - 0]?.getD undef else Cr.frm s gC gE gI cC cE cI g how inp sp met left j)=_
 by_cases e:j<11
 ·rw [if_pos (by omega),Nat.sub_zero,Array.getElem?_toList,Gd.world_at s' jC jE jI dC dE dI g' j e,Cr.frm_lo e]
  rfl
 ·rw [if_neg (by omega)]
  unfold Cr.frm
  rw [if_neg e,if_neg e]

def Cr.Goes (v:World) (P:Nat) (how inp:Nat→Int) (sp:Nat→Bool) (met left:Bool) (s g c:Nat→Int) (E I:Nat→Nat→Int) (e:Ending) (x:World):Prop :=
 e=.returned (.tuple #[])∧∃gC gE gI cC cE cI,Cr.Frm v x P gC gE gI cC cE cI how inp sp met left s g c E I

end Go.Proofs.YtbanjoflgoiegaaGreat
