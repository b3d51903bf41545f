import Derived.Test.YtapgkgbpekkdjaaPart29
namespace Go.Proofs.Ytapgkgbpekkdjaa
open Go.RowKit

def Sn.Bytes (w:World) (base:Nat) (v:Value) (l:List Int):Prop:=w.ownsRow base 5 1 v l.length (l.map (Value.int .u8))

theorem Sn.Bytes.lt {w:World} {base:Nat} {v:Value} {l:List Int} (h:Sn.Bytes w base v l):∀k,v.ownBlock=some k→base≤k∧k<w.heap.size:=World.ownsRow.lt h

theorem Sn.Bytes.on {w w':World} {base:Nat} {v:Value} {l:List Int} (h:Sn.Bytes w base v l) (hg:w.grownBy w' none):Sn.Bytes w' base v l:=World.ownsRow.kept h hg (by cases v.ownBlock <;> simp)

theorem Sn.below {w w':World} {base:Nat} {r:Option Nat} (h:w.grownBy w' r) (hr:∀k,r=some k→base≤k) (hb:base≤w.heap.size):Below base w w' :=
 ⟨h.os,h.tape,h.output,h.size,fun i hi=>h.block i (by omega) (fun e=>by have:=hr i e.symm;omega)⟩

theorem Sn.below_trans {a b c:World} {base:Nat} (h:Below base a b) (k:Below base b c):Below base a c :=
 ⟨k.os.trans h.os,k.tape.trans h.tape,k.output.trans h.output,Nat.le_trans h.size k.size,fun i hi=>(k.block i hi).trans (h.block i hi)⟩

theorem Sn.bt_two (x:Int) (L:Nat):x / 2 ^ (8*L) % 256=Sn.bt x L:=by
 unfold Sn.bt
 rw [Int.pow_mul]
 rfl

theorem Sn.snoc {w:World} {base m:Nat} {v:Value} {l:List Int} {f:Nat→Int} (h:w.ownsRow base 5 1 v (l.length+m+1) (List.map (Value.int .u8) l ++ (List.map (Value.int .u8 ∘ f) (List.range m) ++ [Value.int .u8 (f m)]))):Sn.Bytes w base v (l ++ (List.range (m+1)).map f):=by
 unfold Sn.Bytes
 rw [List.range_succ]
 simpa [Nat.add_assoc] using h

def Sn.Adds (w:World) (base:Nat) (l:List Int) (e:Ending) (w':World):Prop:=∃v,e=.returned v∧Sn.Bytes w' base v l∧Below base w w'

set_option maxRecDepth 8000 in
set_option maxHeartbeats 1600000 in
theorem withNumber_any (n base:Nat) (x:Int) (v:Value) (l:List Int) (w:World) (hn:n≤8) (h:Sn.Bytes w base v l) (hb:base≤w.heap.size) (hl:l.length≤1000) :
  Calls Try.prog 47 #[v,.int .i64 (n:Int),.int .u64 x] w (Sn.Adds w base (l ++ Sn.num n x)):=by
 have hH:Hid (Sn.Bytes w base v l):=h
 have hB:=hide hb
 have hN:=hide hn
 have hLl:=hide hl
 obtain ⟨i0,hi,hz0,hz1,hz2⟩:=info_parts info_byte
 have hs1:IntKind.i64.wrap ((n:Int) - 1)=(n:Int) - 1:=by rw [IntKind.wrap_i64];omega
 clear h hb hn hl
 go_enter Try.func47,Try.ntmps47
 go_wp2_with fail
 go_loopw [0,7] (fun v0 v7 wr=>∃m:Nat,m≤n∧v7=.int .i64 ((n:Int) - 1 - (m:Int))∧Hid (Sn.Bytes wr base v0 (l ++ (List.range m).map fun j=>Sn.bt x (n - 1 - j))∧Below base w wr)) (fun _ v7 _=>(intOf v7+1).toNat)
 case atStart=>exact ⟨0,by omega,by simp,by simpa using uh hH,Below.refl _ _⟩
 case round =>
  obtain ⟨m,hm,rfl,hX⟩:=hrel
  clear hH hs1
  by_cases hlt:m<n
  ·obtain ⟨L,hL⟩:∃L:Nat,L=n - 1 - m:=⟨_,rfl⟩
   have hLe:(n:Int) - 1 - (m:Int)=(L:Int):=by omega
   have hL8:(L:Int)<8:=by have:=uh hN;omega
   have hmul:IntKind.i64.wrap (8*(L:Int))=8*(L:Int):=by rw [IntKind.wrap_i64];omega
   have hge:(L:Int)≥0:=by omega
   have hs1:IntKind.i64.wrap ((L:Int) - 1)=(L:Int) - 1:=by rw [IntKind.wrap_i64];omega
   have hbt:Hid (x / 2 ^ (8*L) % 256=Sn.bt x (n - 1 - m)):=by
    show x / 2 ^ (8*L) % 256=_
    rw [←hL]
    exact Sn.bt_two x L
   have HM:=hide hm
   have HLT:=hide hlt
   have HL:=hide hLe
   rw [hLe]
   clear hm hlt hLe hL
   go_wp2_with (at_builtin;refine wpList_append_own _ rfl _ _ 25 rfl base 5 i0 (.int .u8 0) 1 1 Try.underlying25 hi hz0 hz1 hz2 rfl (by decide) _ _ _ rfl ((uh hX).1.alloc _) ⟨wr.heap.size,0,none⟩ 1 1 [.int .u8 (x / 2 ^ (8*L) % 256)] rfl rfl ?_ ?_ ?_ ?_ ?_ ?_)
   ·exact one_at _ _ _ _ rfl
   ·intro u hu;simp at hu;subst hu;rfl
   ·have:=uh hLl;have:=uh HM;have:=uh hN;simp;unfold maxLen;omega
   ·have:=uh hLl;have:=uh HM;have:=uh hN;simp;omega
   ·have:=(uh hX).2.size;have:=uh hB;simp;omega
   intro v' w1 hown' hgrow _
   have hX2:Hid (Sn.Bytes w1 base v' (l ++ (List.range (m+1)).map fun j=>Sn.bt x (n - 1 - j))∧Below base w w1):=by
    refine ⟨?_,?_⟩
    ·rw [uh hbt] at hown'
     exact Sn.snoc hown'
    ·have hb1:Below base wr (wr.alloc (.cells #[.int .u8 (x / 2 ^ (8*L) % 256)] 5)):=Sn.below (World.grownBy_alloc wr _ none) (fun k e=>by cases e) (Nat.le_trans (uh hB) (uh hX).2.size)
     have hb2:=Sn.below hgrow (fun k e=>((uh hX).1.lt k e).1) (Nat.le_trans (Nat.le_trans (uh hB) (uh hX).2.size) hb1.size)
     exact (uh hX).2.trans (hb1.trans hb2)
   clear hown' hgrow hX
   go_wp2
   go_roundw
   case rel=>exact ⟨m+1,by have:=uh HLT;omega,by have:=uh HL;rw [show (L:Int) - 1=(n:Int) - 1 - ((m+1:Nat):Int) by omega],hX2⟩
   case measure=>simp [intOf]
  ·obtain rfl:m=n:=by omega
   have hge:¬((m:Int) - 1 - (m:Int))≥0:=by omega
   have hfin:Hid (Sn.Adds w base (l ++ Sn.num m x)=Sn.Adds w base (l ++ (List.range m).map fun j=>Sn.bt x (m - 1 - j))):=rfl
   clear hlt hm
   go_wp2
   go_ret
   rw [uh hfin]
   exact ⟨_,rfl,(uh hX).1,(uh hX).2⟩


open Go.RowKit

set_option maxHeartbeats 6400000 in
theorem refLay_any (b cp n cm:Nat) (a:Option Addr) (I M:Nat→Nat→Int) (w:World) (hL:Lie w b 47 160 (Gd.flat I)) (hM:Gd.Some w a n M) :
  Calls Try.prog 64 #[.slice (some ⟨b,0,none⟩) 40 cp,.slice a n cm] w (Gd.Gives40 w (Gd.lay I M n)):=by
 have hn:=hM.1
 have hL':=hide hL
 have hM':=hide hM
 obtain ⟨iI,hiI,hzI0,hzI1,hzI2⟩:=info_parts info_item
 clear hL hM
 go_enter Try.func64,Try.ntmps64
 go_wp2_with (at_builtin;refine wpList_append_own _ rfl _ _ 23 rfl w.heap.size 47 iI (.agg #[.int .i64 0,.int .i64 0,.int .i64 0,.int .i64 0]) 4 32 Try.underlying23 hiI hzI0 hzI1 hzI2 rfl (by decide) _ 0 [] rfl (World.ownsRow_made _ _ _ (Nat.le_refl _) (by decide) (by simp)) ⟨b,0,none⟩ 40 cp (Gd.list 160 (Gd.flat I)) rfl (Gd.list_len _ _) (Gd.list_src fun q hq=>(gce (World.grownBy_alloc _ _ none) b q (uh hL').lt (by simp)).trans ((uh hL').cell hq)) (Gd.list_one fun _=>rfl) ?c4 ?c5 ?c6 ?_)
 case c4=>unfold maxLen;omega
 case c5=>omega
 case c6=>simp
 intro v' w1 hown hgrow hnil
 obtain ⟨g,cap,rfl,hlo,hnc,hlie⟩:=Lie.of_append (n:=40) (z:=4) (F:=Gd.flat I) hown (by simpa using hnil)
 have hg1:=hide (gow (World.grownBy_alloc w _ none) hgrow (fun k e=>by cases e;exact Nat.le_refl _))
 have hl1:=hide hlie
 have hlo':=hide hlo
 clear hown hgrow hnil hlie hlo hnc hiI hzI0 hzI1 hzI2
 go_wp2_with fail
 go_loopw [6] (fun i wr=>∃m:Nat,m≤n∧i=.int .i64 (m:Int)∧Lie wr g 47 160 (Gd.flat (Gd.lay I M m))∧w.grownBy wr none) (fun i _=>200 - (intOf i).toNat)
 case atStart=>exact ⟨0,by omega,rfl,uh hl1,uh hg1⟩
 case round =>
  obtain ⟨m,hm,rfl,hJ,hgr⟩:=hrel
  have hJ':=hide hJ
  have hgr':=hide hgr
  clear hJ hgr
  by_cases hlt:m<n
  ·have hlt':(m:Int)<(n:Int):=by omega
   have HL:=hide hlt
   obtain ⟨bm,om,rfl,lbm,v0,v1,v2,v3⟩:=((uh hM').on (uh hgr')).row hlt
   have hbg:bm≠g:=by
    have h1:=uh hlo'
    obtain ⟨_,h0 | ⟨b',o',e,h3⟩⟩:=uh hM'
    ·omega
    ·simp only [Option.some.injEq,Addr.mk.injEq] at e
     have:=h3.2.1
     omega
   have hbg':=hbg.symm
   clear hlt
   go_wp2_with fail
   go_loop [7] (fun i=>∃r:Nat,r≤40∧i=.int .i64 (r:Int)∧∀j,j<r→Gd.goneQ (Gd.lay I M m) j=false) (fun i=>200 - (intOf i).toNat)
   case atStart=>exact ⟨0,by omega,rfl,fun j hj=>by omega⟩
   case round =>
    obtain ⟨r,hr,rfl,hno⟩:=hrel
    have hno':=hide hno
    clear hno
    by_cases hr40:r<40
    ·have hr':(r:Int)<40:=by omega
     have HR:=hide hr40
     obtain ⟨u0,u1,u2,u3⟩:=((uh hJ').its (n:=40) (by omega) (by omega)).row hr40
     have fI:=(uh hJ').free
     have hgq:=hide (show Gd.goneQ (Gd.lay I M m) r=Gd.zeroB (Gd.lay I M m r 0) (Gd.lay I M m r 1) (Gd.lay I M m r 2) (Gd.lay I M m r 3) from rfl)
     by_cases hz:Gd.zeroB (Gd.lay I M m r 0) (Gd.lay I M m r 1) (Gd.lay I M m r 2) (Gd.lay I M m r 3)=true
     ·have hs:=hide (Gd.lay_some (uh hno') ((uh hgq).trans hz) hr40)
      obtain ⟨e0,e1,e2,e3⟩:=(of_decide_eq_true hz:_∧_∧_∧_)
      rw [e0] at u0
      rw [e1] at u1
      rw [e2] at u2
      rw [e3] at u3
      have hJn:=hide ((uh hJ').put r (M m 0) (M m 1) (M m 2) (M m 3))
      have hgn:=hide (gow (uh hgr') (grown_put4 (World.grownBy.refl _ (some g)) r (.int .i64 (M m 0)) (.int .i64 (M m 1)) (.int .i64 (M m 2)) (.int .i64 (M m 3))) (fun k e=>by cases e;exact uh hlo'))
      clear hz e0 e1 e2 e3 hgq hr40
      go_wp2
      go_roundw
      case rel=>exact ⟨m+1,by have:=uh HL;omega,by go_num,by rw [uh hs];exact uh hJn,uh hgn⟩
      case measure=>simp [intOf];omega
     ·have hz':Gd.zeroB (Gd.lay I M m r 0) (Gd.lay I M m r 1) (Gd.lay I M m r 2) (Gd.lay I M m r 3)=false:=by simpa using hz
      have hq:=hide ((uh hgq).trans hz')
      have hcmp:∀wx:World,(binOp .eql 47 (.agg #[.int .i64 (Gd.lay I M m r 0),.int .i64 (Gd.lay I M m r 1),.int .i64 (Gd.lay I M m r 2),.int .i64 (Gd.lay I M m r 3)]) (.agg #[.int .i64 0,.int .i64 0,.int .i64 0,.int .i64 0])).run Try.prog wx=.ok (.bool false) wx:=fun wx=>by
       rw [run_eq_item]
       refine congrArg (fun z=>Result.ok (Value.bool z) wx) ?_
       have h:=of_decide_eq_false hz'
       rw [←Bool.not_eq_true]
       simp only [Bool.and_eq_true,decide_eq_true_eq]
       exact h
      clear hz hz' hgq hr40
      go_wp2
      go_round
      case rel=>exact ⟨r+1,by have:=uh HR;omega,by go_num,fun j hj=>by
       by_cases e:j=r
       ·rw [e];exact uh hq
       ·exact uh hno' j (by omega)⟩
      case measure=>simp [intOf];omega
    ·have hge:¬(r:Int)<40:=by omega
     have hs:=hide (Gd.lay_none (I:=I) (M:=M) (m:=m) (fun j hj=>uh hno' j (by omega)))
     go_wp2
     go_roundw
     case rel=>exact ⟨m+1,by have:=uh HL;omega,by go_num,by rw [uh hs];exact uh hJ',uh hgr'⟩
     case measure=>simp [intOf];omega
  ·have hge:¬(m:Int)<(n:Int):=by omega
   obtain rfl:m=n:=by omega
   go_wp2
   go_ret
   exact ⟨g,cap,rfl,uh hlo',uh hJ',uh hgr'⟩

end Go.Proofs.Ytapgkgbpekkdjaa
