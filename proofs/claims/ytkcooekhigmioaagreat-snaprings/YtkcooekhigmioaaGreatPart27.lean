import Derived.Test.YtkcooekhigmioaaGreatPart18
namespace Go.Proofs.YtkcooekhigmioaaGreat
open Go.RowKit

def Sn.Bytes (w:World) (base:Nat) (v:Value) (l:List Int):Prop:=w.ownsRow base 5 1 v l.length (l.map (Value.int .u8))

theorem Sn.Bytes.lt {w:World} {base:Nat} {v:Value} {l:List Int} (h:Sn.Bytes w base v l):∀k,v.ownBlock=some k→base≤k∧k<w.heap.size:=World.ownsRow.lt h

theorem Sn.Bytes.on {w w':World} {base:Nat} {v:Value} {l:List Int} (h:Sn.Bytes w base v l) (hg:w.grownBy w' none):Sn.Bytes w' base v l:=World.ownsRow.kept h hg (by cases v.ownBlock <;> simp)

theorem Sn.below {w w':World} {base:Nat} {r:Option Nat} (h:w.grownBy w' r) (hr:∀k,r=some k→base≤k) (hb:base≤w.heap.size):Below base w w' :=
 ⟨h.os,h.tape,h.output,h.size,fun i hi=>h.block i (by omega) (fun e=>by have:=hr i e.symm;omega)⟩

theorem Sn.below_trans {a b c:World} {base:Nat} (h:Below base a b) (k:Below base b c):Below base a c :=
 ⟨k.os.trans h.os,k.tape.trans h.tape,k.output.trans h.output,Nat.le_trans h.size k.size,fun i hi=>(k.block i hi).trans (h.block i hi)⟩

theorem Sn.bt_two (x:Int) (L:Nat):x / 2 ^ (8*L) % 256=Sn.bt x L:=by
 unfold Sn.bt
 rw [Int.pow_mul]
 rfl

theorem Sn.snoc {w:World} {base m:Nat} {v:Value} {l:List Int} {f:Nat→Int} (h:w.ownsRow base 5 1 v (l.length+m+1) (List.map (Value.int .u8) l ++ (List.map (Value.int .u8 ∘ f) (List.range m) ++ [Value.int .u8 (f m)]))):Sn.Bytes w base v (l ++ (List.range (m+1)).map f):=by
 unfold Sn.Bytes
 rw [List.range_succ]
 simpa [Nat.add_assoc] using h

def Sn.Adds (w:World) (base:Nat) (l:List Int) (e:Ending) (w':World):Prop:=∃v,e=.returned v∧Sn.Bytes w' base v l∧Below base w w'

set_option maxRecDepth 8000 in
set_option maxHeartbeats 1600000 in
theorem withNumber_any (n base:Nat) (x:Int) (v:Value) (l:List Int) (w:World) (hn:n≤8) (h:Sn.Bytes w base v l) (hb:base≤w.heap.size) (hl:l.length≤1000) :
  Calls Tryz.prog 68 #[v,.int .i64 (n:Int),.int .u64 x] w (Sn.Adds w base (l ++ Sn.num n x)):=by
 have hH:Hid (Sn.Bytes w base v l):=h
 have hB:=hide hb
 have hN:=hide hn
 have hLl:=hide hl
 obtain ⟨i0,hi,hz0,hz1,hz2⟩:=info_parts info_byte
 have hs1:IntKind.i64.wrap ((n:Int) - 1)=(n:Int) - 1:=by rw [IntKind.wrap_i64];omega
 clear h hb hn hl
 go_enter Tryz.func68,Tryz.ntmps68
 go_wp2_with fail
 go_loopw [0,7] (fun v0 v7 wr=>∃m:Nat,m≤n∧v7=.int .i64 ((n:Int) - 1 - (m:Int))∧Hid (Sn.Bytes wr base v0 (l ++ (List.range m).map fun j=>Sn.bt x (n - 1 - j))∧Below base w wr)) (fun _ v7 _=>(intOf v7+1).toNat)
 case atStart=>exact ⟨0,by omega,by simp,by simpa using uh hH,Below.refl _ _⟩
 case round =>
  obtain ⟨m,hm,rfl,hX⟩:=hrel
  clear hH hs1
  by_cases hlt:m<n
  ·obtain ⟨L,hL⟩:∃L:Nat,L=n - 1 - m:=⟨_,rfl⟩
   have hLe:(n:Int) - 1 - (m:Int)=(L:Int):=by omega
   have hL8:(L:Int)<8:=by have:=uh hN;omega
   have hmul:IntKind.i64.wrap (8*(L:Int))=8*(L:Int):=by rw [IntKind.wrap_i64];omega
   have hge:(L:Int)≥0:=by omega
   have hs1:IntKind.i64.wrap ((L:Int) - 1)=(L:Int) - 1:=by rw [IntKind.wrap_i64];omega
   have hbt:Hid (x / 2 ^ (8*L) % 256=Sn.bt x (n - 1 - m)):=by
    show x / 2 ^ (8*L) % 256=_
    rw [←hL]
    exact Sn.bt_two x L
   have HM:=hide hm
   have HLT:=hide hlt
   have HL:=hide hLe
   rw [hLe]
   clear hm hlt hLe hL
   go_wp2_with (at_builtin;refine wpList_append_own _ rfl _ _ 26 rfl base 5 i0 (.int .u8 0) 1 1 Tryz.underlying26 hi hz0 hz1 hz2 rfl (by decide) _ _ _ rfl ((uh hX).1.alloc _) ⟨wr.heap.size,0,none⟩ 1 1 [.int .u8 (x / 2 ^ (8*L) % 256)] rfl rfl ?_ ?_ ?_ ?_ ?_ ?_)
   ·exact one_at _ _ _ _ rfl
   ·intro u hu;simp at hu;subst hu;rfl
   ·have:=uh hLl;have:=uh HM;have:=uh hN;simp;unfold maxLen;omega
   ·have:=uh hLl;have:=uh HM;have:=uh hN;simp;omega
   ·have:=(uh hX).2.size;have:=uh hB;simp;omega
   intro v' w1 hown' hgrow _
   have hX2:Hid (Sn.Bytes w1 base v' (l ++ (List.range (m+1)).map fun j=>Sn.bt x (n - 1 - j))∧Below base w w1):=by
    refine ⟨?_,?_⟩
    ·rw [uh hbt] at hown'
     exact Sn.snoc hown'
    ·have hb1:Below base wr (wr.alloc (.cells #[.int .u8 (x / 2 ^ (8*L) % 256)] 5)):=Sn.below (World.grownBy_alloc wr _ none) (fun k e=>by cases e) (Nat.le_trans (uh hB) (uh hX).2.size)
     have hb2:=Sn.below hgrow (fun k e=>((uh hX).1.lt k e).1) (Nat.le_trans (Nat.le_trans (uh hB) (uh hX).2.size) hb1.size)
     exact (uh hX).2.trans (hb1.trans hb2)
   clear hown' hgrow hX
   go_wp2
   go_roundw
   case rel=>exact ⟨m+1,by have:=uh HLT;omega,by have:=uh HL;rw [show (L:Int) - 1=(n:Int) - 1 - ((m+1:Nat):Int) by omega],hX2⟩
   case measure=>simp [intOf]
  ·obtain rfl:m=n:=by omega
   have hge:¬((m:Int) - 1 - (m:Int))≥0:=by omega
   have hfin:Hid (Sn.Adds w base (l ++ Sn.num m x)=Sn.Adds w base (l ++ (List.range m).map fun j=>Sn.bt x (m - 1 - j))):=rfl
   clear hlt hm
   go_wp2
   go_ret
   rw [uh hfin]
   exact ⟨_,rfl,(uh hX).1,(uh hX).2⟩


open Go.RowKit

structure Turn (B:Nat→Prop) (w w':World):Prop where
 os:w'.os=w.os
 tape:w'.tape=w.tape
 output:w'.output=w.output
 size:w.heap.size≤w'.heap.size
 block:∀k,k<w.heap.size→¬B k→w'.heap[k]?=w.heap[k]?

theorem Turn.refl (B:Nat→Prop) (w:World):Turn B w w:=⟨rfl,rfl,rfl,Nat.le_refl _,fun _ _ _=>rfl⟩

theorem Turn.trans {B C:Nat→Prop} {a b c:World} (h:Turn B a b) (k:Turn C b c) (hC:∀i,i<a.heap.size→C i→B i):Turn B a c :=
 ⟨k.os.trans h.os,k.tape.trans h.tape,k.output.trans h.output,Nat.le_trans h.size k.size,fun i hi hb=>(k.block i (Nat.lt_of_lt_of_le hi h.size) (fun q=>hb (hC i hi q))).trans (h.block i hi hb)⟩

theorem Turn.mono {B C:Nat→Prop} {a b:World} (h:Turn B a b) (hC:∀i,B i→C i):Turn C a b :=
 ⟨h.os,h.tape,h.output,h.size,fun i hi hc=>h.block i hi (fun q=>hc (hC i q))⟩

theorem Turn.grown {B:Nat→Prop} {a b:World} {r:Option Nat} (h:a.grownBy b r) (hr:∀k,r=some k→B k):Turn B a b :=
 ⟨h.os,h.tape,h.output,h.size,fun i hi hb=>h.block i hi (fun e=>hb (hr i e.symm))⟩

theorem Turn.new {B:Nat→Prop} {a b:World} (h:a.grownBy b none):Turn B a b:=Turn.grown h (fun _ e=>by cases e)

theorem Turn.grownBy {a b:World} (h:Turn (fun _=>False) a b):a.grownBy b none:=⟨h.os,h.tape,h.output,h.size,fun k hk _=>h.block k hk (fun q=>q)⟩

theorem Arr.turn {B:Nat→Prop} {a b:World} {g:Nat} {T:TypeId} {n:Nat} {F:Nat→Value} (h:Arr a g T n F) (ht:Turn B a b) (hb:¬B g):Arr b g T n F:=by
 have hlt:=h.lt
 obtain ⟨cur,hg,hs,hc⟩:=h
 exact ⟨cur,(ht.block g hlt hb).trans hg,hs,hc⟩

theorem Turn.store {B:Nat→Prop} {a b:World} (h:Turn B a b) (g i:Nat) (v:Value) (hg:B g):Turn B a (b.setCell ⟨g,i,none⟩ v):=by
 have hb:b.grownBy (b.setCell ⟨g,i,none⟩ v) (some g):=⟨rfl,rfl,rfl,by simp,fun k _ hk=>heap_setCell_other b ⟨g,i,none⟩ k v (fun e=>hk (by rw [e]))⟩
 exact h.trans (Turn.grown (B:=fun k=>k=g) hb (fun k e=>by cases e;rfl)) (fun k _ e=>by cases e;exact hg)


open Go.RowKit

set_option maxHeartbeats 6400000 in
theorem refLay_any (b cp n cm:Nat) (a:Option Addr) (I M:Nat→Nat→Int) (w:World) (hL:Lie w b 72 160 (Gd.flat I)) (hM:Gd.Some w a n M) :
  Calls Tryz.prog 88 #[.slice (some ⟨b,0,none⟩) 40 cp,.slice a n cm] w (Gd.Gives40 w (Gd.lay I M n)):=by
 have hn:=hM.1
 have hL':=hide hL
 have hM':=hide hM
 obtain ⟨iI,hiI,hzI0,hzI1,hzI2⟩:=info_parts info_item
 clear hL hM
 go_enter Tryz.func88,Tryz.ntmps88
 go_wp2_with (at_builtin;refine wpList_append_own _ rfl _ _ 28 rfl w.heap.size 72 iI (.agg #[.int .i64 0,.int .i64 0,.int .i64 0,.int .i64 0]) 4 32 Tryz.underlying28 hiI hzI0 hzI1 hzI2 rfl (by decide) _ 0 [] rfl (World.ownsRow_made _ _ _ (Nat.le_refl _) (by decide) (by simp)) ⟨b,0,none⟩ 40 cp (Gd.list 160 (Gd.flat I)) rfl (Gd.list_len _ _) (Gd.list_src fun q hq=>(gce (World.grownBy_alloc _ _ none) b q (uh hL').lt (by simp)).trans ((uh hL').cell hq)) (Gd.list_one fun _=>rfl) ?c4 ?c5 ?c6 ?_)
 case c4=>unfold maxLen;omega
 case c5=>omega
 case c6=>simp
 intro v' w1 hown hgrow hnil
 obtain ⟨g,cap,rfl,hlo,hnc,hlie⟩:=Lie.of_append (n:=40) (z:=4) (F:=Gd.flat I) hown (by simpa using hnil)
 have hg1:=hide (gow (World.grownBy_alloc w _ none) hgrow (fun k e=>by cases e;exact Nat.le_refl _))
 have hl1:=hide hlie
 have hlo':=hide hlo
 clear hown hgrow hnil hlie hlo hnc hiI hzI0 hzI1 hzI2
 go_wp2_with fail
 go_loopw [6] (fun i wr=>∃m:Nat,m≤n∧i=.int .i64 (m:Int)∧Lie wr g 72 160 (Gd.flat (Gd.lay I M m))∧w.grownBy wr none) (fun i _=>200 - (intOf i).toNat)
 case atStart=>exact ⟨0,by omega,rfl,uh hl1,uh hg1⟩
 case round =>
  obtain ⟨m,hm,rfl,hJ,hgr⟩:=hrel
  have hJ':=hide hJ
  have hgr':=hide hgr
  clear hJ hgr
  by_cases hlt:m<n
  ·have hlt':(m:Int)<(n:Int):=by omega
   have HL:=hide hlt
   obtain ⟨bm,om,rfl,lbm,v0,v1,v2,v3⟩:=((uh hM').on (uh hgr')).row hlt
   have hbg:bm≠g:=by
    have h1:=uh hlo'
    obtain ⟨_,h0 | ⟨b',o',e,h3⟩⟩:=uh hM'
    ·omega
    ·simp only [Option.some.injEq,Addr.mk.injEq] at e
     have:=h3.2.1
     omega
   have hbg':=hbg.symm
   clear hlt
   go_wp2_with fail
   go_loop [7] (fun i=>∃r:Nat,r≤40∧i=.int .i64 (r:Int)∧∀j,j<r→Gd.goneQ (Gd.lay I M m) j=false) (fun i=>200 - (intOf i).toNat)
   case atStart=>exact ⟨0,by omega,rfl,fun j hj=>by omega⟩
   case round =>
    obtain ⟨r,hr,rfl,hno⟩:=hrel
    have hno':=hide hno
    clear hno
    by_cases hr40:r<40
    ·have hr':(r:Int)<40:=by omega
     have HR:=hide hr40
     obtain ⟨u0,u1,u2,u3⟩:=((uh hJ').its (n:=40) (by omega) (by omega)).row hr40
     have fI:=(uh hJ').free
     have hgq:=hide (show Gd.goneQ (Gd.lay I M m) r=Gd.zeroB (Gd.lay I M m r 0) (Gd.lay I M m r 1) (Gd.lay I M m r 2) (Gd.lay I M m r 3) from rfl)
     by_cases hz:Gd.zeroB (Gd.lay I M m r 0) (Gd.lay I M m r 1) (Gd.lay I M m r 2) (Gd.lay I M m r 3)=true
     ·have hs:=hide (Gd.lay_some (uh hno') ((uh hgq).trans hz) hr40)
      obtain ⟨e0,e1,e2,e3⟩:=(of_decide_eq_true hz:_∧_∧_∧_)
      rw [e0] at u0
      rw [e1] at u1
      rw [e2] at u2
      rw [e3] at u3
      have hJn:=hide ((uh hJ').put r (M m 0) (M m 1) (M m 2) (M m 3))
      have hgn:=hide (gow (uh hgr') (grown_put4 (World.grownBy.refl _ (some g)) r (.int .i64 (M m 0)) (.int .i64 (M m 1)) (.int .i64 (M m 2)) (.int .i64 (M m 3))) (fun k e=>by cases e;exact uh hlo'))
      clear hz e0 e1 e2 e3 hgq hr40
      go_wp2
      go_roundw
      case rel=>exact ⟨m+1,by have:=uh HL;omega,by go_num,by rw [uh hs];exact uh hJn,uh hgn⟩
      case measure=>simp [intOf];omega
     ·have hz':Gd.zeroB (Gd.lay I M m r 0) (Gd.lay I M m r 1) (Gd.lay I M m r 2) (Gd.lay I M m r 3)=false:=by simpa using hz
      have hq:=hide ((uh hgq).trans hz')
      have hcmp:∀wx:World,(binOp .eql 72 (.agg #[.int .i64 (Gd.lay I M m r 0),.int .i64 (Gd.lay I M m r 1),.int .i64 (Gd.lay I M m r 2),.int .i64 (Gd.lay I M m r 3)]) (.agg #[.int .i64 0,.int .i64 0,.int .i64 0,.int .i64 0])).run Tryz.prog wx=.ok (.bool false) wx:=fun wx=>by
       rw [run_eq_item]
       refine congrArg (fun z=>Result.ok (Value.bool z) wx) ?_
       have h:=of_decide_eq_false hz'
       rw [←Bool.not_eq_true]
       simp only [Bool.and_eq_true,decide_eq_true_eq]
       exact h
      clear hz hz' hgq hr40
      go_wp2
      go_round
      case rel=>exact ⟨r+1,by have:=uh HR;omega,by go_num,fun j hj=>by
       by_cases e:j=r
       ·rw [e];exact uh hq
       ·exact uh hno' j (by omega)⟩
      case measure=>simp [intOf];omega
    ·have hge:¬(r:Int)<40:=by omega
     have hs:=hide (Gd.lay_none (I:=I) (M:=M) (m:=m) (fun j hj=>uh hno' j (by omega)))
     go_wp2
     go_roundw
     case rel=>exact ⟨m+1,by have:=uh HL;omega,by go_num,by rw [uh hs];exact uh hJ',uh hgr'⟩
     case measure=>simp [intOf];omega
  ·have hge:¬(m:Int)<(n:Int):=by omega
   obtain rfl:m=n:=by omega
   go_wp2
   go_ret
   exact ⟨g,cap,rfl,uh hlo',uh hJ',uh hgr'⟩


open Go.RowKit

def OwnsOff (w:World) (base:Nat) (e:TypeId) (size:Nat) (v:Value) (n:Nat) (xs:List Value):Prop :=
  xs.length=n*size ∧
  ((v = .slice none 0 0 ∧ n = 0) ∨
   ∃g o cap cur,v=.slice (some ⟨g,o,none⟩) n cap∧base≤g∧w.heap[g]?=some (.cells cur e (0,0))∧n≤cap∧cap≤maxLen∧o+cap*size≤cur.size∧(cur.toList.drop o).take (n*size)=xs)

theorem OwnsOff.of {w:World} {base:Nat} {e:TypeId} {size:Nat} {v:Value} {n:Nat} {xs:List Value} (h:w.ownsRow base e size v n xs):OwnsOff w base e size v n xs:=by
 refine ⟨h.1,?_⟩
 rcases h.2 with h | ⟨g,cap,cur,h1,h2,h3,h4,h5,h6,h7⟩
 ·exact .inl h
 ·exact .inr ⟨g,0,cap,cur,h1,h2,h3,h4,h5,by omega,by simpa using h7⟩

theorem OwnsOff.lt {w:World} {base:Nat} {e:TypeId} {size:Nat} {v:Value} {n:Nat} {xs:List Value} (h:OwnsOff w base e size v n xs):∀k,v.ownBlock=some k→base≤k∧k<w.heap.size∧∃cur,w.heap[k]?=some (.cells cur e (0,0)):=by
 intro k hk
 rcases h.2 with ⟨rfl,_⟩ | ⟨g,o,cap,cur,rfl,hb,hg,_⟩
 ·simp [Value.ownBlock] at hk
 ·simp [Value.ownBlock] at hk
  subst hk
  exact ⟨hb,(Array.getElem?_eq_some_iff.1 hg).1,cur,hg⟩

theorem OwnsOff.kept {w w':World} {base:Nat} {e:TypeId} {size:Nat} {v:Value} {n:Nat} {xs:List Value} (h:OwnsOff w base e size v n xs) (hk:∀k,v.ownBlock=some k→w'.heap[k]?=w.heap[k]?):OwnsOff w' base e size v n xs:=by
 refine ⟨h.1,?_⟩
 rcases h.2 with hn | ⟨g,o,cap,cur,rfl,hb,hg,rest⟩
 ·exact .inl hn
 ·exact .inr ⟨g,o,cap,cur,rfl,hb,(hk g rfl).trans hg,rest⟩

theorem OwnsOff.at {w:World} {base:Nat} {e:TypeId} {size:Nat} {v:Value} {n:Nat} {xs:List Value} (h:OwnsOff w base e size v n xs) (h0:0<n):∃g o cap,v=.slice (some ⟨g,o,none⟩) n cap∧base≤g∧n≤cap∧cap≤maxLen∧g<w.heap.size∧(∀j u,xs[j]?=some u→w.cell? ⟨g,o+j,none⟩=some u)∧∀j,w.frozen? ⟨g,j,none⟩=false:=by
 rcases h.2 with ⟨_,hn⟩ | ⟨g,o,cap,cur,rfl,hb,hg,h1,h2,h3,h4⟩
 ·omega
 ·refine ⟨g,o,cap,rfl,hb,h1,h2,(Array.getElem?_eq_some_iff.1 hg).1,fun j u hj=>?_,fun j=>by simp [World.frozen?,hg]⟩
  rw [cell_of_row w g (o+j) cur e (0,0) hg]
  rw [←h4,List.getElem?_take] at hj
  split at hj
  ·simpa using hj
  ·cases hj

theorem run_append_room_off {P:Program} (w:World) (t ty e:TypeId) (i:TypeInfo) (ht:P.underlying t=some (.slice e)) (hi:P.info? e=some i)
  (g o sLen sCap:Nat) (cur:Array Value) (hg:w.heap[g]?=some (.cells cur e (0,0)))
  (a:Addr) (m c:Nat) (news:List Value) (hl:news.length=m*i.size) (hnews:∀j u,news[j]?=some u→w.cell? (a.add j)=some u) (h1:∀u∈news,u.oneCell'=true)
  (hroom:sLen+m≤sCap) (hfit:o+sLen*i.size+news.length≤cur.size) :
  (Builtin.append_ #[t,t] ty #[.slice (some ⟨g,o,none⟩) sLen sCap,.slice (some a) m c]).run P w =
   .ok (.slice (some ⟨g,o,none⟩) (sLen+m) sCap) (w.setRow g (cur.toList.take (o+sLen*i.size) ++ news ++ cur.toList.drop (o+sLen*i.size+news.length)).toArray):=by
 have hf:=run_firstCells_some (P:=P) w i.size m a m c news hl hnews
 have hst:=run_storeCells_at P g (o+sLen*i.size) e news 0 cur w hg (by simpa using hfit) h1
 simp only [Nat.add_zero] at hst
 simp [Builtin.append_,run_underlying ht,sizeOf,typeInfo,hi,Builtin.lenOf,hroom,hf,Go.WideShapes.add_plain,hst]

theorem run_append_off {P:Program} (w:World) (base:Nat) (t ty e:TypeId) (i:TypeInfo) (z:Value) (size bytes:Nat) (ht:P.underlying t=some (.slice e)) (hi:P.info? e=some i) (hz:i.zero=some z)
  (hsize:i.size=size) (hby:i.bytes=bytes) (hzs:z.cells.size=size) (hsz:0<size)
  (v:Value) (n:Nat) (xs:List Value) (hown:OwnsOff w base e size v n xs)
  (a:Addr) (m c:Nat) (news:List Value) (hl:news.length=m*size) (hnews:∀j u,news[j]?=some u→w.cell? (a.add j)=some u) (h1:∀u∈news,u.oneCell'=true)
  (h63:n+m≤maxLen) (hbytes:(n+m)*bytes≤140737488355328) (hbase:base≤w.heap.size) :
  ∃v' w',(Builtin.append_ #[t,t] ty #[v,.slice (some a) m c]).run P w=.ok v' w'∧OwnsOff w' base e size v' (n+m) (xs ++ news)∧w.grownBy w' v.ownBlock:=by
 have hlen:(xs ++ news).length=(n+m)*size:=by rw [List.length_append,hown.1,hl,Nat.add_mul]
 rcases hown.2 with ⟨rfl,rfl⟩ | ⟨g,o,cap,cur,rfl,hbg,hg,hnc,hcm,hcs,htake⟩
 ·have hx:xs=[]:=List.eq_nil_of_length_eq_zero (by simpa using hown.1)
  subst hx
  obtain ⟨v',w',h2,h3,h4,_⟩:=run_append_own (P:=P) w base t ty e i z size bytes ht hi hz hsize hby hzs hsz (.slice none 0 0) 0 [] (World.ownsRow_nil w base e size) a m c news hl hnews h1 h63 hbytes hbase
  exact ⟨v',w',h2,.of h3,h4⟩
 ·by_cases hroom:n+m≤cap
  ·subst hsize
   have h5:(n+m)*i.size≤cap*i.size:=Nat.mul_le_mul_right _ hroom
   rw [Nat.add_mul] at h5
   have hfit:o+n*i.size+news.length≤cur.size:=by rw [hl];omega
   have hr:=run_append_room_off (P:=P) w t ty e i ht hi g o n cap cur hg a m c news hl hnews h1 hroom hfit
   refine ⟨_,_,hr,⟨hlen,.inr ⟨g,o,cap,_,rfl,hbg,setRow_heap w g cur _ e _ hg,hroom,hcm,?_,?_⟩⟩,⟨rfl,rfl,rfl,by simp,fun k _ hk=>setRow_other w g k _ (fun e=>hk (by simp [Value.ownBlock,e]))⟩⟩
   ·simp only [List.size_toArray,List.length_append,List.length_take,List.length_drop,Array.length_toList]
    omega
   ·have e1:(cur.toList.take (o+n*i.size)).drop o=xs:=by
     rw [List.drop_take,show o+n*i.size - o=n*i.size by omega]
     exact htake
    have e2:o≤(cur.toList.take (o+n*i.size)).length:=by rw [List.length_take,Array.length_toList];omega
    rw [List.append_assoc,List.drop_append_of_le_length e2,e1,←List.append_assoc,←hlen]
    exact List.take_left
  ·subst hsize
   subst hby
   have holds:∀j u,xs[j]?=some u→w.cell? ((⟨g,o,none⟩:Addr).add j)=some u:=fun j u hj=>by
    rw [Go.WideShapes.add_plain,cell_of_row w g (o+j) cur e (0,0) hg]
    rw [←htake,List.getElem?_take] at hj
    split at hj
    ·simpa using hj
    ·cases hj
   have hr:=run_append_grow (P:=P) w t ty e i z ht hi hz ⟨g,o,none⟩ n cap xs hown.1 holds a m c news hl hnews (by omega) (by simp only [maxLen] at h63;omega) (growslice_fits (by omega) hbytes)
   have hge:=grownCap_ge w (n+m) cap e
   have hcm':grownCap w (n+m) cap e≤maxLen:=grownCap_le_maxLen w (n+m) cap e h63
   refine ⟨_,_,hr,.of ⟨hlen,.inr ⟨w.heap.size,_,_,rfl,hbase,heap_alloc_new w.drew _,hge,hcm',?_,?_⟩⟩,⟨rfl,rfl,rfl,by simp,fun k hk _=>heap_alloc_old w.drew _ hk⟩⟩
   ·simp only [Array.size_append,List.size_toArray,size_zeroCells,hzs,hown.1,hl,←Nat.add_mul]
    congr 1
    omega
   ·simp only [Array.toList_append,List.append_assoc]
    rw [←List.append_assoc,←hlen]
    exact List.take_left

theorem wpList_append_off {P:Program} {w:World} {ops:Array Oper} {rest:List Oper} {op:Oper} {a:Act} {Q:Exit→Act→World→Prop} (hgd:op.guard=none) (s x:Operand) (t:TypeId)
  (ho:op.op=.call { callee:=.builtin .append,args:=#[s,x],argTypes:=#[t,t] })
  (base:Nat) (e:TypeId) (i:TypeInfo) (z:Value) (size bytes:Nat) (ht:P.underlying t=some (.slice e)) (hi:P.info? e=some i) (hz:i.zero=some z)
  (hsize:i.size=size) (hby:i.bytes=bytes) (hzs:z.cells.size=size) (hsz:0<size)
  (v:Value) (n:Nat) (xs:List Value) (hs:a.eval s=v) (hown:OwnsOff w base e size v n xs)
  (ad:Addr) (m c:Nat) (news:List Value) (hx:a.eval x=.slice (some ad) m c) (hl:news.length=m*size) (hnews:∀j u,news[j]?=some u→w.cell? (ad.add j)=some u) (h1:∀u∈news,u.oneCell'=true)
  (h63:n+m≤maxLen) (hbytes:(n+m)*bytes≤140737488355328) (hbase:base≤w.heap.size)
  (h:∀v' w',OwnsOff w' base e size v' (n+m) (xs ++ news)→w.grownBy w' v.ownBlock→wpList P ops Q rest (a.put op.dst v') w'):wpList P ops Q (op :: rest) a w:=by
 refine wpList_plain hgd fun K hK=>?_
 obtain ⟨v',w',hr,h2,h3⟩:=run_append_off (P:=P) w base t op.type e i z size bytes ht hi hz hsize hby hzs hsz v n xs hown ad m c news hl hnews h1 h63 hbytes hbase
 unfold Oper.wp execOp
 simp only [ho,resolve,invoke,builtin,Sem.run_bind,Sem.run_pure,Result.andThen_ok,List.map_toArray,List.map_cons,List.map_nil,hs,hx,hr]
 exact hK _ _ (h v' w' h2 h3)

theorem OwnsOff.tail {w:World} {base:Nat} {e:TypeId} {size:Nat} {g o n cap:Nat} {xs:List Value} (h:OwnsOff w base e size (.slice (some ⟨g,o,none⟩) n cap) n xs) (h1:1≤n):OwnsOff w base e size (.slice (some ⟨g,o+1*size,none⟩) (n - 1) (cap - 1)) (n - 1) (xs.drop size):=by
 have hs:n*size=(n - 1)*size+size:=by
  obtain ⟨m,rfl⟩:∃m,n=m+1:=⟨n - 1,by omega⟩
  rw [Nat.succ_mul];rfl
 refine ⟨by rw [List.length_drop,h.1];omega,.inr ?_⟩
 rcases h.2 with ⟨e,_⟩ | ⟨g',o',cap',cur,e,hb,hg,h2,h3,h4,h5⟩
 ·cases e
 ·simp only [Value.slice.injEq,Option.some.injEq,Addr.mk.injEq,and_true,true_and] at e
  obtain ⟨⟨rfl,rfl⟩,rfl⟩:=e
  have hc:cap*size=(cap - 1)*size+size:=by
   obtain ⟨m,rfl⟩:∃m,cap=m+1:=⟨cap - 1,by omega⟩
   rw [Nat.succ_mul];rfl
  refine ⟨g,o+1*size,cap - 1,cur,rfl,hb,hg,by omega,by omega,by omega,?_⟩
  rw [←h5,hs,List.drop_take,List.drop_drop,Nat.one_mul]
  congr 1
  omega

theorem OwnsOff.head {w:World} {base:Nat} {e:TypeId} {size:Nat} {g o n cap k:Nat} {xs:List Value} (h:OwnsOff w base e size (.slice (some ⟨g,o,none⟩) n cap) n xs) (h1:k≤n):OwnsOff w base e size (.slice (some ⟨g,o,none⟩) k cap) k (xs.take (k*size)):=by
 have hs:k*size≤n*size:=Nat.mul_le_mul_right _ h1
 refine ⟨by rw [List.length_take,h.1];omega,.inr ?_⟩
 rcases h.2 with ⟨e,_⟩ | ⟨g',o',cap',cur,e,hb,hg,h2,h3,h4,h5⟩
 ·cases e
 ·simp only [Value.slice.injEq,Option.some.injEq,Addr.mk.injEq,and_true,true_and] at e
  obtain ⟨⟨rfl,rfl⟩,rfl⟩:=e
  refine ⟨g,o,cap,cur,rfl,hb,hg,by omega,h3,h4,?_⟩
  rw [←h5,List.take_take]
  congr 1
  omega

end Go.Proofs.YtkcooekhigmioaaGreat
