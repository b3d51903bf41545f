import Derived.Test.YtepppmepilffcaaGreatPart38
import Derived.Test.YtepppmepilffcaaGreatPart39
import Derived.Test.YtepppmepilffcaaGreatPart42
import Derived.Test.YtepppmepilffcaaGreatPart35
namespace Go.Proofs.YtepppmepilffcaaGreat
open Go.RowKit

theorem Sn.row_off {x:World} {k base n m z:Nat} {T U:TypeId} {F:Nat→Value} {v:Value} {xs:List Value} (hl:Lie x k T m F) (ho:x.ownsRow base U z v n xs) (hT:T≠U):v.ownBlock≠some k:=by
 intro e
 rcases ho.2 with ⟨rfl,_⟩ | ⟨g,cap,cur,rfl,_,hc,_⟩
 ·cases e
 ·simp [Value.ownBlock] at e
  subst e
  obtain ⟨M,K,⟨cur',hc',_⟩,_⟩:=hl
  rw [hc] at hc'
  simp only [Option.some.injEq,Obj.cells.injEq] at hc'
  exact hT hc'.2.1.symm

theorem Sn.rows_off {x:World} {b b' n m z z':Nat} {T U:TypeId} {v u:Value} {xs ys:List Value} (hv:x.ownsRow b T z v n xs) (hu:x.ownsRow b' U z' u m ys) (hT:T≠U):v.ownBlock=none∨v.ownBlock≠u.ownBlock:=by
 rcases hv.2 with ⟨rfl,_⟩ | ⟨g,cap,cur,rfl,_,hc,_⟩
 ·exact .inl rfl
 ·refine .inr fun e=>?_
  rcases hu.2 with ⟨rfl,_⟩ | ⟨g',cap',cur',rfl,_,hc',_⟩
  ·cases e
  ·simp [Value.ownBlock] at e
   subst e
   rw [hc] at hc'
   simp only [Option.some.injEq,Obj.cells.injEq] at hc'
   exact hT hc'.2.1

def Sn.voids (j:Nat):Value:=if j=4∨j=5∨j=6 then .slice none 0 0 else .int .i64 0

def Sn.part (F:Nat→Int) (t:Nat) (vC vE vI:Value) (j:Nat):Value :=
 if j<4 then .int .i64 (Sn.rs F j) else if j=4 then vC else if j=5 then vE else if j=6 then vI else .int .i64 (if j - 7<t then Sn.rg F (j - 7) else 0)

structure Sn.Dcd (w x:World) (P W G:Nat) (F:Nat→Int) (t nC nE nI:Nat) (vC vE vI:Value):Prop where
 res:Lie x P 31 11 Sn.voids
 box:Lie x W 31 11 (Sn.part F t vC vE vI)
 src:Sn.Src x G F
 cells:x.ownsRow w.heap.size 5 1 vC nC (Gd.list (nC*1) (Byts (Sn.rc F)))
 ents:x.ownsRow w.heap.size 61 11 vE nE (Gd.list (nE*11) (En.flat (Sn.rE F)))
 items:x.ownsRow w.heap.size 63 4 vI nI (Gd.list (nI*4) (Gd.flat (Sn.rI F)))
 lP:w.heap.size≤P
 lW:w.heap.size≤W
 lG:G<w.heap.size
 pW:P≠W
 grown:w.grownBy x none

section
variable {w x y z:World} {P W G:Nat} {F:Nat→Int} {t nC nE nI:Nat} {vC vE vI:Value}

theorem Sn.Dcd.on (h:Sn.Dcd w x P W G F t nC nE nI vC vE vI) (hg:x.grownBy y none):Sn.Dcd w y P W G F t nC nE nI vC vE vI :=
 { h with res:=h.res.on hg,box:=h.box.on hg,src:=h.src.on hg (by simp),cells:=h.cells.kept hg (by cases vC.ownBlock <;> simp),ents:=h.ents.kept hg (by cases vE.ownBlock <;> simp),items:=h.items.kept hg (by cases vI.ownBlock <;> simp),grown:=gtr h.grown hg }

theorem Sn.Dcd.field (h:Sn.Dcd w x P W G F t nC nE nI vC vE vI) (i:Nat) (u:Value) {t':Nat} {uC uE uI:Value} (hu:∀j,j<11→(if j=i then u else Sn.part F t vC vE vI j)=Sn.part F t' uC uE uI j) :
  Lie (x.setCell ⟨W,i,none⟩ u) P 31 11 Sn.voids∧Lie (x.setCell ⟨W,i,none⟩ u) W 31 11 (Sn.part F t' uC uE uI)∧Sn.Src (x.setCell ⟨W,i,none⟩ u) G F∧w.grownBy (x.setCell ⟨W,i,none⟩ u) none:=by
 have h1:=h.lW
 have h2:=h.lG
 exact ⟨h.res.other h.pW.symm _ _,(h.box.store i u).congr hu,h.src.set (by omega) _ _,gsr h.grown ⟨W,i,none⟩ h.lW u⟩

theorem Sn.row_set {T:TypeId} {b n s:Nat} {v:Value} {xs:List Value} {K:Nat→Value} (hb:Lie x W 31 11 K) (h:x.ownsRow b T s v n xs) (hT:T≠31) (i:Nat) (u:Value):(x.setCell ⟨W,i,none⟩ u).ownsRow b T s v n xs :=
 h.kept (gs0 x W i u) (.inr (Sn.row_off hb h hT.symm))

theorem Sn.Dcd.gold (h:Sn.Dcd w x P W G F t nC nE nI vC vE vI) (ht:t<4):Sn.Dcd w (x.setCell ⟨W,7+t,none⟩ (.int .i64 (Sn.rg F t))) P W G F (t+1) nC nE nI vC vE vI:=by
 obtain ⟨a,b,c,d⟩:=h.field (7+t) (.int .i64 (Sn.rg F t)) (t':=t+1) (uC:=vC) (uE:=vE) (uI:=vI) (fun j hj=>by
  unfold Sn.part
  by_cases e:j=7+t
  ·subst e
   rw [if_pos rfl,if_neg (by omega),if_neg (by omega),if_neg (by omega),if_neg (by omega),show 7+t - 7=t by omega,if_pos (by omega)]
  ·rw [if_neg e]
   by_cases e4:j<4
   ·rw [if_pos e4,if_pos e4]
   ·rw [if_neg e4,if_neg e4]
    by_cases e5:j - 7<t
    ·rw [if_pos e5,if_pos (show j - 7<t+1 by omega)]
    ·by_cases e6:7≤j
     ·rw [if_neg e5,if_neg (show ¬j - 7<t+1 by omega)]
     ·rcases (show j=4∨j=5∨j=6 by omega) with rfl | rfl | rfl <;> rfl)
 exact { h with res:=a,box:=b,src:=c,grown:=d,cells:=Sn.row_set h.box h.cells (by decide) _ _,ents:=Sn.row_set h.box h.ents (by decide) _ _,items:=Sn.row_set h.box h.items (by decide) _ _ }

theorem Sn.Dcd.keep {r:Option Nat} (h:Sn.Dcd w x P W G F t nC nE nI vC vE vI) (hg:x.grownBy z r) (hr:∀k,r=some k→w.heap.size≤k) (hP:r≠some P) (hW:r≠some W):Lie z P 31 11 Sn.voids∧Lie z W 31 11 (Sn.part F t vC vE vI)∧Sn.Src z G F∧w.grownBy z none:=by
 have h2:=h.lG
 exact ⟨h.res.grown hg hP,h.box.grown hg hW,h.src.on hg (fun e=>by have:=hr G e;omega),gow h.grown hg hr⟩

theorem Sn.more {n m:Nat} {K:Nat→Value} {l:List Value} (hl:l.length=m) (h:∀j,j<m→l[j]?=some (K (n*m+j))):Gd.list (n*m) K ++ l=Gd.list ((n+1)*m) K:=by
 refine List.ext_getElem? fun j=>?_
 by_cases h1:j<n*m
 ·rw [List.getElem?_append_left (by rw [Gd.list_len];exact h1),Gd.list_at h1,Gd.list_at (by rw [Nat.succ_mul];omega)]
 ·rw [List.getElem?_append_right (by rw [Gd.list_len];omega),Gd.list_len]
  by_cases h2:j<(n+1)*m
  ·rw [Gd.list_at h2]
   rw [Nat.succ_mul] at h2
   rw [h (j - n*m) (by omega),show n*m+(j - n*m)=j by omega]
  ·rw [Nat.succ_mul] at h2
   rw [List.getElem?_eq_none (by omega),List.getElem?_eq_none (by rw [Gd.list_len,Nat.succ_mul];omega)]

theorem Sn.Dcd.ent {v':Value} {l:List Value} (h:Sn.Dcd w x P W G F t nC nE nI vC vE vI) (hxy:x.grownBy y none) (hown:z.ownsRow w.heap.size 61 11 v' (nE+1) (Gd.list (nE*11) (En.flat (Sn.rE F)) ++ l)) (hl:Gd.list (nE*11) (En.flat (Sn.rE F)) ++ l=Gd.list ((nE+1)*11) (En.flat (Sn.rE F))) (hg:y.grownBy z vE.ownBlock) :
  Sn.Dcd w (z.setCell ⟨W,5,none⟩ v') P W G F t nC (nE+1) nI vC v' vI:=by
 have hy:=h.on hxy
 rw [hl] at hown
 obtain ⟨a,b,c,d⟩:=hy.keep hg (fun k e=>(hy.ents.lt k e).1) (Sn.row_off hy.res hy.ents (by decide)) (Sn.row_off hy.box hy.ents (by decide))
 have h1:=h.lW
 have h2:=h.lG
 refine { h with res:=a.other h.pW.symm _ _,box:=(b.store 5 v').congr (fun j hj=>?_),src:=c.set (by omega) _ _,grown:=gsr d ⟨W,5,none⟩ h.lW v',cells:=?_,ents:=?_,items:=?_ }
 ·unfold Sn.part
  by_cases e:j=5
  ·subst e
   rfl
  ·rw [if_neg e,if_neg e,if_neg e]
 ·exact Sn.row_set b (hy.cells.kept hg (Sn.rows_off hy.cells hy.ents (by decide))) (by decide) _ _
 ·exact Sn.row_set b hown (by decide) _ _
 ·exact Sn.row_set b (hy.items.kept hg (Sn.rows_off hy.items hy.ents (by decide))) (by decide) _ _

theorem Sn.Dcd.item {v':Value} {l:List Value} (h:Sn.Dcd w x P W G F t nC nE nI vC vE vI) (hxy:x.grownBy y none) (hown:z.ownsRow w.heap.size 63 4 v' (nI+1) (Gd.list (nI*4) (Gd.flat (Sn.rI F)) ++ l)) (hl:Gd.list (nI*4) (Gd.flat (Sn.rI F)) ++ l=Gd.list ((nI+1)*4) (Gd.flat (Sn.rI F))) (hg:y.grownBy z vI.ownBlock) :
  Sn.Dcd w (z.setCell ⟨W,6,none⟩ v') P W G F t nC nE (nI+1) vC vE v':=by
 have hy:=h.on hxy
 rw [hl] at hown
 obtain ⟨a,b,c,d⟩:=hy.keep hg (fun k e=>(hy.items.lt k e).1) (Sn.row_off hy.res hy.items (by decide)) (Sn.row_off hy.box hy.items (by decide))
 have h1:=h.lW
 have h2:=h.lG
 refine { h with res:=a.other h.pW.symm _ _,box:=(b.store 6 v').congr (fun j hj=>?_),src:=c.set (by omega) _ _,grown:=gsr d ⟨W,6,none⟩ h.lW v',cells:=?_,ents:=?_,items:=?_ }
 ·unfold Sn.part
  by_cases e:j=6
  ·subst e
   rfl
  ·rw [if_neg e,if_neg e,if_neg e]
 ·exact Sn.row_set b (hy.cells.kept hg (Sn.rows_off hy.cells hy.items (by decide))) (by decide) _ _
 ·exact Sn.row_set b (hy.ents.kept hg (Sn.rows_off hy.ents hy.items (by decide))) (by decide) _ _
 ·exact Sn.row_set b hown (by decide) _ _

theorem Sn.Dcd.cell {v':Value} (h:Sn.Dcd w x P W G F t 0 nE nI vC vE vI) (hxy:x.grownBy y none) (hown:z.ownsRow w.heap.size 5 1 v' 384 (Gd.list (384*1) (Byts (Sn.rc F)))) {u:Value} (hu:y.ownsRow w.heap.size 5 1 u 0 []) (hg:y.grownBy z u.ownBlock) :
  Sn.Dcd w (z.setCell ⟨W,4,none⟩ v') P W G F t 384 nE nI v' vE vI:=by
 have hy:=h.on hxy
 obtain ⟨a,b,c,d⟩:=hy.keep hg (fun k e=>(hu.lt k e).1) (Sn.row_off hy.res hu (by decide)) (Sn.row_off hy.box hu (by decide))
 have h1:=h.lW
 have h2:=h.lG
 refine { h with res:=a.other h.pW.symm _ _,box:=(b.store 4 v').congr (fun j hj=>?_),src:=c.set (by omega) _ _,grown:=gsr d ⟨W,4,none⟩ h.lW v',cells:=?_,ents:=?_,items:=?_ }
 ·unfold Sn.part
  by_cases e:j=4
  ·subst e
   rfl
  ·rw [if_neg e,if_neg e,if_neg e]
 ·exact Sn.row_set b hown (by decide) _ _
 ·exact Sn.row_set b (hy.ents.kept hg (Sn.rows_off hy.ents hu (by decide))) (by decide) _ _
 ·exact Sn.row_set b (hy.items.kept hg (Sn.rows_off hy.items hu (by decide))) (by decide) _ _

end


open Go.RowKit

set_option maxRecDepth 8000 in
set_option maxHeartbeats 3200000 in
theorem refDecode_short (a:Option Addr) (n cap:Nat) (w:World) (hn:n≠918) :
  Calls Tryz.prog 20 #[.slice a n cap] w fun e w'=>e=.returned (.tuple #[.agg Sn.void,.int .i64 (if n<918 then 7 else 8)])∧w.grownBy w' none:=by
 obtain ⟨w0,hw0⟩:∃w0,w0=w.alloc (.cells #[.int .i64 0,.int .i64 0,.int .i64 0,.int .i64 0,.slice none 0 0,.slice none 0 0,.slice none 0 0,.int .i64 0,.int .i64 0,.int .i64 0,.int .i64 0] 31):=⟨_,rfl⟩
 have hg0:w.grownBy w0 none:=by rw [hw0];exact World.grownBy_alloc _ _ _
 obtain ⟨P,hP⟩:∃P,w.heap.size=P:=⟨_,rfl⟩
 have hR:Lie w0 P 31 11 (fun j=>#[.int .i64 0,.int .i64 0,.int .i64 0,.int .i64 0,.slice none 0 0,.slice none 0 0,.slice none 0 0,.int .i64 0,.int .i64 0,.int .i64 0,Value.int .i64 0][j]?.getD undef):=by
  rw [hw0,←hP]
  exact (Arr.lit (heap_alloc_new w _)).lie
 have fz:=hR.free
 obtain ⟨z0,z1,z2,z3,z4,z5,z6,z7,z8,z9,z10⟩:=Gd.res_cells hR
 have hgo:Hid (∀l,w.grownBy (w0.setCells P 0 l) none):=fun l=>own_sets (by omega) l 0 w0 hg0
 have HP:=hide hP
 clear hg0 hR hP
 by_cases h1:n<918
 ·have h1':(n:Int)<918:=by omega
  rw [if_pos h1]
  clear h1 hn
  go_enter Tryz.func20,Tryz.ntmps20
  go_upto_region 1 with fail
  rw [←hw0,uh HP]
  clear hw0 HP
  go_wp2
  refine bodyPost_ret (v:=.tuple #[.agg Sn.void,.int .i64 7]) (by simp [results,Tryz.results20,go_sem,Sn.void,z0,z1,z2,z3,z4,z5,z6,z7,z8,z9,z10]) rfl ?_
  exact ⟨rfl,uh hgo [_,_,_,_,_,_,_,_,_,_,_]⟩
 ·have h1':¬(n:Int)<918:=by omega
  have h2':(n:Int) > 918:=by omega
  rw [if_neg h1]
  clear h1 hn
  go_enter Tryz.func20,Tryz.ntmps20
  go_upto_region 1 with fail
  rw [←hw0,uh HP]
  clear hw0 HP
  go_wp2
  refine bodyPost_ret (v:=.tuple #[.agg Sn.void,.int .i64 8]) (by simp [results,Tryz.results20,go_sem,Sn.void,z0,z1,z2,z3,z4,z5,z6,z7,z8,z9,z10]) rfl ?_
  exact ⟨rfl,uh hgo [_,_,_,_,_,_,_,_,_,_,_]⟩

set_option maxRecDepth 16000 in
set_option maxHeartbeats 25600000 in
theorem refDecode_any (G cap:Nat) (F:Nat→Int) (w:World) (hS:Sn.Src w G F) (hc:918≤cap) (hm:cap≤9223372036854775807) :
  Calls Tryz.prog 20 #[.slice (some ⟨G,0,none⟩) 918 cap] w (Sn.Decodes w (Sn.rs F) (Sn.rg F) (Sn.rc F) (Sn.rE F) (Sn.rI F)):=by
 obtain ⟨w0,hw0⟩:∃w0,w0=w.alloc (.cells #[.int .i64 0,.int .i64 0,.int .i64 0,.int .i64 0,.slice none 0 0,.slice none 0 0,.slice none 0 0,.int .i64 0,.int .i64 0,.int .i64 0,.int .i64 0] 31):=⟨_,rfl⟩
 have hg0:w.grownBy w0 none:=by rw [hw0];exact World.grownBy_alloc _ _ _
 obtain ⟨P,hP⟩:∃P,w.heap.size=P:=⟨_,rfl⟩
 have hR:Lie w0 P 31 11 Sn.voids:=by
  rw [hw0,←hP]
  refine (Arr.lit (heap_alloc_new w _)).lie.congr fun j hj=>?_
  have hj':j<11:=hj
  rcases (show j=0∨j=1∨j=2∨j=3∨j=4∨j=5∨j=6∨j=7∨j=8∨j=9∨j=10 by omega) with rfl | rfl | rfl | rfl | rfl | rfl | rfl | rfl | rfl | rfl | rfl <;> rfl
 have hP0:w0.heap.size=P+1:=by rw [hw0,←hP];simp
 obtain ⟨D,hD⟩:∃D,Sn.Decodes w (Sn.rs F) (Sn.rg F) (Sn.rc F) (Sn.rE F) (Sn.rI F)=D:=⟨_,rfl⟩
 have hD1:Hid (∀r x,Sn.Chk (Sn.rs F) (Sn.rg F) (Sn.rc F) (Sn.rE F) (Sn.rI F) r→r≠0→w.grownBy x none→D (.returned (.tuple #[.agg Sn.void,.int .i64 r])) x):=fun r x h1 h2 h3=>by
  rw [←hD]
  exact ⟨r,h1,.inl ⟨h2,rfl,h3⟩⟩
 have hD0:Hid (∀v x,Sn.Chk (Sn.rs F) (Sn.rg F) (Sn.rc F) (Sn.rE F) (Sn.rI F) 0→Gd.Worlds w (Sn.rs F) (Sn.rg F) (Sn.rc F) (Sn.rE F) (Sn.rI F) (.returned v) x→D (.returned (.tuple #[v,.int .i64 0])) x):=fun v x h1 h2=>by
  rw [←hD]
  exact ⟨0,h1,.inr ⟨rfl,v,rfl,h2⟩⟩
 rw [hD]
 have hsr:Hid (∀x,w0.grownBy x none→Sn.Src x G F):=fun x hx=>(hS.on hg0 (by simp)).on hx (by simp)
 have cg:=hide (fun (x:World) (k n:Nat) (hx:Sn.Src x G F) (h8:n≤8) (hk:k+n≤918)=>refGet_any G cap k n F x hx h8 hk)
 have cg0:Hid (∀x,w0.grownBy x none→Calls Tryz.prog 41 #[.slice (some ⟨G,0,none⟩) 918 cap,.int .i64 0,.int .i64 8] x fun e w'=>e=.returned (.int .u64 (Sn.be (Sn.cut F 0 8)))∧w'=x):=fun x hx=>uh cg x 0 8 (uh hsr x hx) (by omega) (by omega)
 have cg1:Hid (∀x,w0.grownBy x none→Calls Tryz.prog 41 #[.slice (some ⟨G,0,none⟩) 918 cap,.int .i64 8,.int .i64 4] x fun e w'=>e=.returned (.int .u64 (Sn.be (Sn.cut F 8 4)))∧w'=x):=fun x hx=>uh cg x 8 4 (uh hsr x hx) (by omega) (by omega)
 have y0:IntKind.i64.wrap (Sn.be (Sn.cut F 0 8))=Sn.rs F 0:=by
  have q:=Sn.be_bound 8 F 0 (fun j _=>hS.byte _)
  rw [IntKind.wrap_i64]
  show _=if Sn.be (Sn.cut F 0 8)<9223372036854775808 then _ else _
  split <;> omega
 have y1:IntKind.i64.wrap (Sn.be (Sn.cut F 8 4))=Sn.rs F 1:=by
  have q:=Sn.be_bound 4 F 8 (fun j _=>hS.byte _)
  rw [IntKind.wrap_i64]
  show _=Sn.be (Sn.cut F 8 4)
  omega
 have tw:∀j,IntKind.i64.wrap (F j)=F j:=fun j=>by
  have q:=hS.byte j
  rw [IntKind.wrap_i64]
  omega
 have hgG:=hide hS.lt
 obtain ⟨q0,e0⟩:∃q,Sn.be (Sn.cut F 0 8)=q:=⟨_,rfl⟩
 obtain ⟨q1,e1⟩:∃q,Sn.be (Sn.cut F 8 4)=q:=⟨_,rfl⟩
 rw [e0] at cg0 y0
 rw [e1] at cg1 y1
 obtain ⟨V0,E0⟩:∃q,Sn.rs F 0=q:=⟨_,rfl⟩
 obtain ⟨V1,E1⟩:∃q,Sn.rs F 1=q:=⟨_,rfl⟩
 rw [E0] at y0
 rw [E1] at y1
 have HCap:=hide hc
 have HV:=hide (And.intro E0 E1)
 obtain ⟨i0,hi,hz0,hz1,hz2⟩:=info_parts info_byte
 obtain ⟨ie,ei,ez0,ez1,ez2⟩:=info_parts info_ent
 obtain ⟨ii,ni,nz0,nz1,nz2⟩:=info_parts info_item
 have HP:=hide hP
 have HP0:=hide hP0
 have HR:=hide hR
 have HG:=hide hg0
 have c2:(406:Int)≤(cap:Int):=by omega
 clear hg0 hR hP hP0 hS hD e0 e1 E0 E1
 go_enter Tryz.func20,Tryz.ntmps20
 go_upto_region 1 with fail
 rw [←hw0,uh HP]
 clear hw0
 go_upto_region 5 with fail
 have hS0:Hid (w0.grownBy w0.drew none):=gdw (World.grownBy.refl w0 none) 1
 have hS1:Hid (w0.grownBy (w0.alloc (.cells #[.int .i64 0,.int .i64 0,.int .i64 0,.int .i64 0,.slice none 0 0,.slice none 0 0,.slice none 0 0,.int .i64 0,.int .i64 0,.int .i64 0,.int .i64 0] 31)).drew none):=gdw (World.grownBy_alloc w0 _ none) 1
 refine wp_region_till (h:=16) (S:=fun x=>Hid (w0.grownBy x none)) (by kernel_rfl) ?_
 refine wtk (i:=0) (v:=?_) [16] rfl (by kernel_rfl) (by kernel_rfl) (by kernel_rfl) (by kernel_rfl) (fun _ _ _ h=>h) hS0 (Or.inl ⟨by rfl,?_⟩) ?_
 rotate_left
 ·intro x hSx
  clear hSx
  go_simp
  try with_reducible rfl
 simp only [Act.put,List.getElem_toArray,List.getElem_cons_zero,List.setIfInBounds_toArray,List.set_cons_succ,List.set_cons_zero]
 refine wpTill_call (i:=1) (v:=.int .u64 q0) [16] rfl (by kernel_rfl) (by kernel_rfl) (by kernel_rfl) (by kernel_rfl) (fun _ _ _ h=>h) hS0 ⟨by rfl,fun x hSx=>⟨41,#[.slice (some ⟨G,0,none⟩) 918 cap,.int .i64 0,.int .i64 8],?_,uh cg0 x (uh hSx)⟩⟩ ?_
 ·go_simp
  try with_reducible rfl
 simp only [Act.put,List.getElem_toArray,List.getElem_cons_zero,List.getElem_cons_succ,List.setIfInBounds_toArray,List.set_cons_succ,List.set_cons_zero]
 refine wtk (i:=2) (v:=?_) [16] rfl (by kernel_rfl) (by kernel_rfl) (by kernel_rfl) (by kernel_rfl) (fun _ _ _ h=>h) hS0 (Or.inl ⟨by rfl,?_⟩) ?_
 rotate_left
 ·intro x hSx
  clear hSx
  go_simp
  try with_reducible rfl
 simp only [Act.put,List.getElem_toArray,List.getElem_cons_zero,List.getElem_cons_succ,List.setIfInBounds_toArray,List.set_cons_succ,List.set_cons_zero]
 refine wtk (i:=3) (v:=?_) [16] rfl (by kernel_rfl) (by kernel_rfl) (by kernel_rfl) (by kernel_rfl) (fun _ _ _ h=>h) hS0 (Or.inl ⟨by rfl,?_⟩) ?_
 rotate_left
 ·intro x hSx
  clear hSx
  go_simp
  try with_reducible rfl
 simp only [Act.put,List.getElem_toArray,List.getElem_cons_zero,List.getElem_cons_succ,List.setIfInBounds_toArray,List.set_cons_succ,List.set_cons_zero]
 refine wpTill_call (i:=4) (v:=.int .u64 q1) [16] rfl (by kernel_rfl) (by kernel_rfl) (by kernel_rfl) (by kernel_rfl) (fun _ _ _ h=>h) hS0 ⟨by rfl,fun x hSx=>⟨41,#[.slice (some ⟨G,0,none⟩) 918 cap,.int .i64 8,.int .i64 4],?_,uh cg1 x (uh hSx)⟩⟩ ?_
 ·go_simp
  try with_reducible rfl
 simp only [Act.put,List.getElem_toArray,List.getElem_cons_zero,List.getElem_cons_succ,List.setIfInBounds_toArray,List.set_cons_succ,List.set_cons_zero]
 refine wtk (i:=5) (v:=?_) [16] rfl (by kernel_rfl) (by kernel_rfl) (by kernel_rfl) (by kernel_rfl) (fun _ _ _ h=>h) hS0 (Or.inl ⟨by rfl,?_⟩) ?_
 rotate_left
 ·intro x hSx
  clear hSx
  go_simp
  try with_reducible rfl
 simp only [Act.put,List.getElem_toArray,List.getElem_cons_zero,List.getElem_cons_succ,List.setIfInBounds_toArray,List.set_cons_succ,List.set_cons_zero]
 refine wtk (i:=6) (v:=?_) [16] rfl (by kernel_rfl) (by kernel_rfl) (by kernel_rfl) (by kernel_rfl) (fun _ _ _ h=>h) hS0 (Or.inl ⟨by rfl,?_⟩) ?_
 rotate_left
 ·intro x hSx
  clear hSx
  go_simp
  try with_reducible rfl
 simp only [Act.put,List.getElem_toArray,List.getElem_cons_zero,List.getElem_cons_succ,List.setIfInBounds_toArray,List.set_cons_succ,List.set_cons_zero]
 refine wtk (i:=7) (v:=?_) [16] rfl (by kernel_rfl) (by kernel_rfl) (by kernel_rfl) (by kernel_rfl) (fun _ _ _ h=>h) hS0 (Or.inl ⟨by rfl,?_⟩) ?_
 rotate_left
 ·intro x hSx
  clear hSx
  go_simp
  try with_reducible rfl
 simp only [Act.put,List.getElem_toArray,List.getElem_cons_zero,List.getElem_cons_succ,List.setIfInBounds_toArray,List.set_cons_succ,List.set_cons_zero]
 refine wtk (i:=8) (v:=?_) [16] rfl (by kernel_rfl) (by kernel_rfl) (by kernel_rfl) (by kernel_rfl) (fun _ _ _ h=>h) hS0 (Or.inl ⟨by rfl,?_⟩) ?_
 rotate_left
 ·intro x hSx
  have u0:=(uh hsr x (uh hSx)).cell 12 (by omega)
  clear hSx
  go_simp
  try with_reducible rfl
 simp only [Act.put,List.getElem_toArray,List.getElem_cons_zero,List.getElem_cons_succ,List.setIfInBounds_toArray,List.set_cons_succ,List.set_cons_zero]
 refine wtk (i:=9) (v:=?_) [16] rfl (by kernel_rfl) (by kernel_rfl) (by kernel_rfl) (by kernel_rfl) (fun _ _ _ h=>h) hS0 (Or.inl ⟨by rfl,?_⟩) ?_
 rotate_left
 ·intro x hSx
  clear hSx
  go_simp
  try with_reducible rfl
 simp only [Act.put,List.getElem_toArray,List.getElem_cons_zero,List.getElem_cons_succ,List.setIfInBounds_toArray,List.set_cons_succ,List.set_cons_zero]
 refine wtk (i:=10) (v:=?_) [16] rfl (by kernel_rfl) (by kernel_rfl) (by kernel_rfl) (by kernel_rfl) (fun _ _ _ h=>h) hS0 (Or.inl ⟨by rfl,?_⟩) ?_
 rotate_left
 ·intro x hSx
  clear hSx
  go_simp
  try with_reducible rfl
 simp only [Act.put,List.getElem_toArray,List.getElem_cons_zero,List.getElem_cons_succ,List.setIfInBounds_toArray,List.set_cons_succ,List.set_cons_zero]
 refine wtk (i:=11) (v:=?_) [16] rfl (by kernel_rfl) (by kernel_rfl) (by kernel_rfl) (by kernel_rfl) (fun _ _ _ h=>h) hS0 (Or.inl ⟨by rfl,?_⟩) ?_
 rotate_left
 ·intro x hSx
  clear hSx
  go_simp
  try with_reducible rfl
 simp only [Act.put,List.getElem_toArray,List.getElem_cons_zero,List.getElem_cons_succ,List.setIfInBounds_toArray,List.set_cons_succ,List.set_cons_zero]
 refine wtk (i:=12) (v:=?_) [16] rfl (by kernel_rfl) (by kernel_rfl) (by kernel_rfl) (by kernel_rfl) (fun _ _ _ h=>h) hS0 (Or.inl ⟨by rfl,?_⟩) ?_
 rotate_left
 ·intro x hSx
  have u0:=(uh hsr x (uh hSx)).cell 13 (by omega)
  clear hSx
  go_simp
  try with_reducible rfl
 simp only [Act.put,List.getElem_toArray,List.getElem_cons_zero,List.getElem_cons_succ,List.setIfInBounds_toArray,List.set_cons_succ,List.set_cons_zero]
 refine wtk (i:=13) (v:=?_) [16] rfl (by kernel_rfl) (by kernel_rfl) (by kernel_rfl) (by kernel_rfl) (fun _ _ _ h=>h) hS0 (Or.inl ⟨by rfl,?_⟩) ?_
 rotate_left
 ·intro x hSx
  clear hSx
  go_simp
  try with_reducible rfl
 simp only [Act.put,List.getElem_toArray,List.getElem_cons_zero,List.getElem_cons_succ,List.setIfInBounds_toArray,List.set_cons_succ,List.set_cons_zero]
 refine wtk (i:=14) (v:=?_) [16] rfl (by kernel_rfl) (by kernel_rfl) (by kernel_rfl) (by kernel_rfl) (fun _ _ _ h=>h) hS0 (Or.inl ⟨by rfl,?_⟩) ?_
 rotate_left
 ·intro x hSx
  clear hSx
  go_simp
  try with_reducible rfl
 simp only [Act.put,List.getElem_toArray,List.getElem_cons_zero,List.getElem_cons_succ,List.setIfInBounds_toArray,List.set_cons_succ,List.set_cons_zero]
 refine wto (j:=15) (by kernel_rfl) rfl (fun K hK=>?_)
 go_simp
 refine hK.out _ _ (fun _=>hS1) ?_
 clear hK K
 refine wto (j:=16) (by kernel_rfl) rfl (fun K hK=>?_)
 go_simp
 refine hK.out _ _ (fun hx=>absurd (hx.symm.trans (by kernel_rfl)) Bool.false_ne_true) ?_
 clear hK K
 refine wpTill_done (by kernel_rfl) ?_ _
 obtain ⟨W,hW⟩:∃W,w0.heap.size=W:=⟨_,rfl⟩
 obtain ⟨y,hy⟩:∃y,(w0.alloc (.cells #[.int .i64 V0,.int .i64 V1,.int .i64 (F 12),.int .i64 (F 13),.slice none 0 0,.slice none 0 0,.slice none 0 0,.int .i64 0,.int .i64 0,.int .i64 0,.int .i64 0] 31)).drew=y:=⟨_,rfl⟩
 have hY:Hid (Sn.Dcd w y P W G F 0 0 0 0 (.slice none 0 0) (.slice none 0 0) (.slice none 0 0)):=by
  have hgy:w0.grownBy y none:=by rw [←hy];exact gdw (World.grownBy_alloc w0 _ none) 1
  have hPW:P+1=W:=by rw [←hW];exact (uh HP0).symm
  refine ⟨(uh HR).on hgy,?_,uh hsr y hgy,World.ownsRow_nil _ _ _ _,World.ownsRow_nil _ _ _ _,World.ownsRow_nil _ _ _ _,?_,?_,uh hgG,by omega,gtr (uh HG) hgy⟩
  ·rw [←hy,←hW]
   refine (Lie.on ((Arr.lit (heap_alloc_new w0 _)).lie.congr fun j hj=>?_) (gdw (World.grownBy.refl _ none) 1))
   have hj':j<11:=hj
   rcases (show j=0∨j=1∨j=2∨j=3∨j=4∨j=5∨j=6∨j=7∨j=8∨j=9∨j=10 by omega) with rfl | rfl | rfl | rfl | rfl | rfl | rfl | rfl | rfl | rfl | rfl
   ·show Value.int .i64 V0=.int .i64 (Sn.rs F 0);rw [(uh HV).1]
   ·show Value.int .i64 V1=.int .i64 (Sn.rs F 1);rw [(uh HV).2]
   all_goals rfl
  ·have:=uh HP;omega
  ·have:=uh HP;omega
 rw [hW,hy]
 clear hW hy HR HG HP HP0 HV hS0 hS1 cg0 cg1 y0 y1 hgG hsr
 clear w0
 go_wp2_with fail
 go_loopw [5] (fun v5 wr=>∃t:Nat,t≤4∧v5=.int .i64 (t:Int)∧Hid (Sn.Dcd w wr P W G F t 0 0 0 (.slice none 0 0) (.slice none 0 0) (.slice none 0 0))) (fun v5 _=>10 - (intOf v5).toNat)
 case atStart=>exact ⟨0,by omega,rfl,hY⟩
 case round =>
  clear hY
  obtain ⟨t,ht,rfl,hX⟩:=hrel
  by_cases hlt:t<4
  ·have hlt':(t:Int)<4:=by omega
   have HL:=hide hlt
   have cgt:Hid (Calls Tryz.prog 41 #[.slice (some ⟨G,0,none⟩) 918 cap,.int .i64 (14+2*(t:Int)),.int .i64 2] wr fun e w'=>e=.returned (.int .u64 (Sn.rg F t))∧w'=wr):=by
    have h:=uh cg wr (14+2*t) 2 (uh hX).src (by omega) (by omega)
    rw [show ((14+2*t:Nat):Int)=14+2*(t:Int) by omega] at h
    exact h
   have yt:IntKind.i64.wrap (Sn.rg F t)=Sn.rg F t:=by
    have q:=Sn.be_bound 2 F (14+2*t) (fun j _=>(uh hX).src.byte _)
    rw [IntKind.wrap_i64]
    show _=Sn.be (Sn.cut F (14+2*t) 2)
    have e:Sn.rg F t=Sn.be (Sn.cut F (14+2*t) 2):=rfl
    rw [e]
    omega
   have hX2:=hide ((uh hX).gold hlt)
   obtain ⟨Z,hZ⟩:∃Z,Sn.rg F t=Z:=⟨_,rfl⟩
   rw [hZ] at cgt yt hX2
   have fW:=(uh hX).box.free
   have zW:wr.cell? ⟨W,7+t,none⟩=some (.int .i64 0):=by
    have h:=(uh hX).box.cell (c:=7+t) (by omega)
    unfold Sn.part at h
    rw [if_neg (by omega),if_neg (by omega),if_neg (by omega),if_neg (by omega),if_neg (by omega)] at h
    exact h
   clear hlt ht hZ hX
   go_wp2_with fail
   refine (uh cgt).mono ?_
   rintro e w1 ⟨rfl,hww⟩
   subst hww
   clear cgt
   go_wp2
   go_roundw
   case rel=>exact ⟨t+1,by have:=uh HL;omega,by go_num,hX2⟩
   case measure=>simp [intOf];have:=uh HL;omega
  ·obtain rfl:t=4:=by omega
   have hge:¬((4:Nat):Int)<4:=by omega
   clear hlt ht
   go_upto_region 11 with fail
   have hoz:Hid ((wr.alloc (.cells #[] 5)).ownsRow w.heap.size 5 1 (.slice (some ⟨wr.heap.size,0,none⟩) 0 0) 0 []):=World.ownsRow_lit (base:=w.heap.size) (e:=5) (size:=1) wr #[] 0 (uh hX).grown.size (by unfold maxLen;omega) rfl
   have hnews:Hid (∀j u,(Gd.list (384*1) (Byts (Sn.rc F)))[j]?=some u→(wr.alloc (.cells #[] 5)).cell? ((⟨G,22,none⟩:Addr).add j)=some u):=fun j u hj=>by
    have hj3:j<384:=by
     have h:=(List.getElem?_eq_some_iff.1 hj).1
     rw [Gd.list_len] at h
     omega
    rw [Gd.list_at (by omega)] at hj
    have e:u=.int .u8 (F (22+j)):=by
     simp only [Option.some.injEq] at hj
     rw [←hj]
     rfl
    rw [e,Go.WideShapes.add_plain]
    exact ((uh hX).src.on (World.grownBy_alloc wr _ none) (by simp)).cell (22+j) (by omega)
   have hone:Hid (∀u∈Gd.list (384*1) (Byts (Sn.rc F)),u.oneCell'=true):=Gd.list_one fun c=>rfl
   have hzs:w.heap.size≤wr.heap.size+1:=Nat.le_succ_of_le (uh hX).grown.size
   go_wp2_with (at_builtin;refine wpList_append_own _ rfl _ _ 26 rfl w.heap.size 5 i0 (.int .u8 0) 1 1 Tryz.underlying26 hi hz0 hz1 hz2 rfl (by decide) _ 0 [] rfl (uh hoz) ⟨G,22,none⟩ 384 _ (Gd.list (384*1) (Byts (Sn.rc F))) rfl (by rw [Gd.list_len]) (uh hnews) (uh hone) ?_ ?_ ?_ ?_)
   any_goals (first | (unfold maxLen;omega) | omega)
   intro v6 w6 hown hgrow hnil
   have hX6:=hide ((uh hX).cell (World.grownBy_alloc wr _ none) hown (uh hoz) hgrow)
   have f5:=(((uh hX).on (World.grownBy_alloc wr (.cells #[] 5) none)).keep hgrow (fun k e=>by cases e;exact (uh hX).grown.size) (by have h:=(uh hX).res.lt;intro e;simp [Value.ownBlock] at e;omega) (by have h:=(uh hX).box.lt;intro e;simp [Value.ownBlock] at e;omega)).2.1
   have f6:=f5.free
   have z6:=f5.cell (c:=4) (by omega)
   have z6':w6.cell? ⟨W,4,none⟩=some (.slice none 0 0):=z6
   clear f5 z6
   obtain ⟨gv,cv,rfl⟩:∃g c,v6=.slice (some ⟨g,0,none⟩) 384 c:=by
    rcases hown.2 with ⟨_,h0⟩ | ⟨g,c,cur,e,_⟩
    ·omega
    ·exact ⟨g,c,e⟩
   clear hown hgrow hnil hX hoz hnews hone hzs hge cg
   go_wp2_with fail
   obtain ⟨vC,hvC⟩:∃v,Value.slice (some ⟨gv,0,none⟩) 384 cv=v:=⟨_,rfl⟩
   rw [hvC] at hX6 ⊢
   clear hvC f6 z6'
   generalize w6.setCell ⟨W,4,none⟩ vC=y6 at hX6 ⊢
   clear w6 gv cv
   have hY:=hX6
   clear hX6
   go_loopw [7] (fun v7 wr=>∃nn:Nat,nn≤32∧v7=.int .i64 (nn:Int)∧Hid (∃v,Sn.Dcd w wr P W G F 4 384 nn 0 vC v (.slice none 0 0))) (fun v7 _=>60 - (intOf v7).toNat)
   case atStart=>exact ⟨0,by omega,rfl,_,uh hY⟩
   case round =>
    clear hY
    obtain ⟨nn,hn,rfl,hX0⟩:=hrel
    obtain ⟨vL,hX1⟩:=uh hX0
    have hX:=hide hX1
    clear hX0 hX1
    by_cases hlt:nn<32
    ·have hlt':(nn:Int)<32:=by omega
     obtain ⟨k,hk⟩:∃k:Nat,k=406+11*nn:=⟨_,rfl⟩
     have k1:(406:Int)+11*(nn:Int)=(k:Int):=by omega
     obtain ⟨e,he⟩:∃e:Nat,e=k+11:=⟨_,rfl⟩
     have k2:(k:Int)+11=(e:Int):=by omega
     have k3:e - k=11:=by omega
     have k4:(k:Int)≤(e:Int):=by omega
     have k5:(e:Int)≤(cap:Int):=by have:=uh HCap;omega
     have k6:(0:Int)≤(k:Int):=by omega
     have HE:Hid (k+11≤918∧k=406+11*nn∧nn<32):=⟨by omega,hk,hlt⟩
     clear hk he hlt hn
     go_upto_region 17 with fail
     have hb5:Hid (∀z,Lie z W 31 11 (Sn.part F 4 vC vL (.slice none 0 0))→z.cell? ⟨W,5,none⟩=some vL):=fun z hz=>hz.cell (c:=5) (by omega)
     obtain ⟨W1,hW1⟩:∃W,(wr.alloc (.cells #[.int .i64 (F k),.int .i64 (F (k+1)),.int .i64 (F (k+2)),.int .i64 (F (k+3)),.int .i64 (F (k+4)),.int .i64 (F (k+5)),.int .i64 (F (k+6)),.int .i64 (F (k+7)),.int .i64 (F (k+8)),.int .i64 (F (k+9)),.int .i64 (F (k+10))] 61)).drew=W:=⟨_,rfl⟩
     have HW1:=hide hW1
     have g1:wr.grownBy W1 none:=by rw [←hW1];exact gdw (World.grownBy_alloc wr _ none) 1
     have hS0:Hid (Lie wr.drew W 31 11 (Sn.part F 4 vC vL (.slice none 0 0))∧Sn.Src wr.drew G F):=⟨(uh hX).box.on (gdw (World.grownBy.refl wr none) 1),(uh hX).src.on (gdw (World.grownBy.refl wr none) 1) (by simp)⟩
     have hS1:Hid (Lie (wr.alloc (.cells #[.int .i64 (F k),.int .i64 (F (k+1)),.int .i64 (F (k+2)),.int .i64 (F (k+3)),.int .i64 (F (k+4)),.int .i64 (F (k+5)),.int .i64 (F (k+6)),.int .i64 (F (k+7)),.int .i64 (F (k+8)),.int .i64 (F (k+9)),.int .i64 (F (k+10))] 61)).drew W 31 11 (Sn.part F 4 vC vL (.slice none 0 0))∧Sn.Src (wr.alloc (.cells #[.int .i64 (F k),.int .i64 (F (k+1)),.int .i64 (F (k+2)),.int .i64 (F (k+3)),.int .i64 (F (k+4)),.int .i64 (F (k+5)),.int .i64 (F (k+6)),.int .i64 (F (k+7)),.int .i64 (F (k+8)),.int .i64 (F (k+9)),.int .i64 (F (k+10))] 61)).drew G F):=by rw [hW1];exact ⟨(uh hX).box.on g1,(uh hX).src.on g1 (by simp)⟩
     have hown4:Hid (W1.ownsRow w.heap.size 61 11 vL nn (Gd.list (nn*11) (En.flat (Sn.rE F)))):=((uh hX).on g1).ents
     have hnews:Hid (∀j u,(#[.int .i64 (F k),.int .i64 (F (k+1)),.int .i64 (F (k+2)),.int .i64 (F (k+3)),.int .i64 (F (k+4)),.int .i64 (F (k+5)),.int .i64 (F (k+6)),.int .i64 (F (k+7)),.int .i64 (F (k+8)),.int .i64 (F (k+9)),.int .i64 (F (k+10))]:Array Value).toList[j]?=some u→W1.cell? ((⟨wr.heap.size,0,none⟩:Addr).add j)=some u):=by
      intro j u hj
      rw [←hW1]
      have h:=Sn.news wr #[.int .i64 (F k),.int .i64 (F (k+1)),.int .i64 (F (k+2)),.int .i64 (F (k+3)),.int .i64 (F (k+4)),.int .i64 (F (k+5)),.int .i64 (F (k+6)),.int .i64 (F (k+7)),.int .i64 (F (k+8)),.int .i64 (F (k+9)),.int .i64 (F (k+10))] 61 _ rfl j u hj
      rw [Go.WideShapes.add_plain] at h ⊢
      exact (gce (gdw (World.grownBy.refl (wr.alloc (.cells #[.int .i64 (F k),.int .i64 (F (k+1)),.int .i64 (F (k+2)),.int .i64 (F (k+3)),.int .i64 (F (k+4)),.int .i64 (F (k+5)),.int .i64 (F (k+6)),.int .i64 (F (k+7)),.int .i64 (F (k+8)),.int .i64 (F (k+9)),.int .i64 (F (k+10))] 61)) none) 1) wr.heap.size (0+j) (by simp) (by simp)).trans h
     have hone:Hid (∀u∈(#[.int .i64 (F k),.int .i64 (F (k+1)),.int .i64 (F (k+2)),.int .i64 (F (k+3)),.int .i64 (F (k+4)),.int .i64 (F (k+5)),.int .i64 (F (k+6)),.int .i64 (F (k+7)),.int .i64 (F (k+8)),.int .i64 (F (k+9)),.int .i64 (F (k+10))]:Array Value).toList,u.oneCell'=true):=fun u hu=>by
      simp only [List.mem_cons,List.not_mem_nil,or_false] at hu
      rcases hu with rfl | rfl | rfl | rfl | rfl | rfl | rfl | rfl | rfl | rfl | rfl <;> rfl
     have hbz:Hid (w.heap.size≤W1.heap.size):=Nat.le_trans (uh hX).grown.size g1.size
     have hl:Gd.list (nn*11) (En.flat (Sn.rE F)) ++ (#[.int .i64 (F k),.int .i64 (F (k+1)),.int .i64 (F (k+2)),.int .i64 (F (k+3)),.int .i64 (F (k+4)),.int .i64 (F (k+5)),.int .i64 (F (k+6)),.int .i64 (F (k+7)),.int .i64 (F (k+8)),.int .i64 (F (k+9)),.int .i64 (F (k+10))]:Array Value).toList=Gd.list ((nn+1)*11) (En.flat (Sn.rE F)):=Sn.more rfl fun j hj=>by
      have hk:=(uh HE).2.1
      have q:∀j,j<11→En.flat (Sn.rE F) (nn*11+j)=.int .i64 (F (k+j)):=fun j hj=>by
       show Value.int .i64 (F (406+(((nn*11+j) / 11)*11+(nn*11+j) % 11)))=_
       rw [show 406+(((nn*11+j) / 11)*11+(nn*11+j) % 11)=k+j by omega]
      rw [q j hj]
      rcases (show j=0∨j=1∨j=2∨j=3∨j=4∨j=5∨j=6∨j=7∨j=8∨j=9∨j=10 by omega) with rfl | rfl | rfl | rfl | rfl | rfl | rfl | rfl | rfl | rfl | rfl <;> rfl
     have hfin:Hid (∀(z:World) (v':Value),z.ownsRow w.heap.size 61 11 v' (nn+1) (Gd.list (nn*11) (En.flat (Sn.rE F)) ++ (#[.int .i64 (F k),.int .i64 (F (k+1)),.int .i64 (F (k+2)),.int .i64 (F (k+3)),.int .i64 (F (k+4)),.int .i64 (F (k+5)),.int .i64 (F (k+6)),.int .i64 (F (k+7)),.int .i64 (F (k+8)),.int .i64 (F (k+9)),.int .i64 (F (k+10))]:Array Value).toList)→W1.grownBy z vL.ownBlock→(Lie z W 31 11 (Sn.part F 4 vC vL (.slice none 0 0))∧Sn.Src z G F)∧Sn.Dcd w (z.setCell ⟨W,5,none⟩ v') P W G F 4 384 (nn+1) 0 vC v' (.slice none 0 0)):=fun z v' h1 h2=>by
      have hy:=(uh hX).on g1
      obtain ⟨-,a,b,-⟩:=hy.keep h2 (fun q e=>(hy.ents.lt q e).1) (Sn.row_off hy.res hy.ents (by decide)) (Sn.row_off hy.box hy.ents (by decide))
      exact ⟨⟨a,b⟩,(uh hX).ent g1 h1 hl h2⟩
     have hform:Hid (∀(z:World) (v':Value),z.ownsRow w.heap.size 61 11 v' (nn+1) (Gd.list (nn*11) (En.flat (Sn.rE F)) ++ (#[.int .i64 (F k),.int .i64 (F (k+1)),.int .i64 (F (k+2)),.int .i64 (F (k+3)),.int .i64 (F (k+4)),.int .i64 (F (k+5)),.int .i64 (F (k+6)),.int .i64 (F (k+7)),.int .i64 (F (k+8)),.int .i64 (F (k+9)),.int .i64 (F (k+10))]:Array Value).toList)→∃g c,v'=.slice (some ⟨g,0,none⟩) (nn+1) c):=fun z v' h=>by
      rcases h.2 with ⟨_,h0⟩ | ⟨g,c,cur,e,_⟩
      ·omega
      ·exact ⟨g,c,e⟩
     clear g1 hW1 hl hX
     refine wp_region_till (h:=50) (S:=fun x=>Hid (Lie x W 31 11 (Sn.part F 4 vC vL (.slice none 0 0))∧Sn.Src x G F)) (by kernel_rfl) ?_
     refine wtk (i:=0) (v:=?_) [50] rfl (by kernel_rfl) (by kernel_rfl) (by kernel_rfl) (by kernel_rfl) (fun _ _ _ h=>h) hS0 (Or.inl ⟨by rfl,?_⟩) ?_
     rotate_left
     ·intro x hSx
      clear hSx
      go_simp
      try with_reducible rfl
     simp only [Act.put,List.getElem_toArray,List.getElem_cons_zero,List.setIfInBounds_toArray,List.set_cons_succ,List.set_cons_zero]
     refine wtk (i:=1) (v:=?_) [50] rfl (by kernel_rfl) (by kernel_rfl) (by kernel_rfl) (by kernel_rfl) (fun _ _ _ h=>h) hS0 (Or.inl ⟨by rfl,?_⟩) ?_
     rotate_left
     ·intro x hSx
      have b0:=uh hb5 x (uh hSx).1
      clear hSx
      go_simp
      try with_reducible rfl
     simp only [Act.put,List.getElem_toArray,List.getElem_cons_zero,List.getElem_cons_succ,List.setIfInBounds_toArray,List.set_cons_succ,List.set_cons_zero]
     refine wtk (i:=2) (v:=?_) [50] rfl (by kernel_rfl) (by kernel_rfl) (by kernel_rfl) (by kernel_rfl) (fun _ _ _ h=>h) hS0 (Or.inl ⟨by rfl,?_⟩) ?_
     rotate_left
     ·intro x hSx
      clear hSx
      go_simp
      try with_reducible rfl
     simp only [Act.put,List.getElem_toArray,List.getElem_cons_zero,List.getElem_cons_succ,List.setIfInBounds_toArray,List.set_cons_succ,List.set_cons_zero]
     refine wtk (i:=3) (v:=?_) [50] rfl (by kernel_rfl) (by kernel_rfl) (by kernel_rfl) (by kernel_rfl) (fun _ _ _ h=>h) hS0 (Or.inl ⟨by rfl,?_⟩) ?_
     rotate_left
     ·intro x hSx
      clear hSx
      go_simp
      try with_reducible rfl
     simp only [Act.put,List.getElem_toArray,List.getElem_cons_zero,List.getElem_cons_succ,List.setIfInBounds_toArray,List.set_cons_succ,List.set_cons_zero]
     refine wtk (i:=4) (v:=?_) [50] rfl (by kernel_rfl) (by kernel_rfl) (by kernel_rfl) (by kernel_rfl) (fun _ _ _ h=>h) hS0 (Or.inl ⟨by rfl,?_⟩) ?_
     rotate_left
     ·intro x hSx
      have u0:=(uh hSx).2.cell k (by have:=uh HE;omega)
      clear hSx
      go_simp
      try with_reducible rfl
     simp only [Act.put,List.getElem_toArray,List.getElem_cons_zero,List.getElem_cons_succ,List.setIfInBounds_toArray,List.set_cons_succ,List.set_cons_zero]
     refine wtk (i:=5) (v:=?_) [50] rfl (by kernel_rfl) (by kernel_rfl) (by kernel_rfl) (by kernel_rfl) (fun _ _ _ h=>h) hS0 (Or.inl ⟨by rfl,?_⟩) ?_
     rotate_left
     ·intro x hSx
      clear hSx
      go_simp
      try with_reducible rfl
     simp only [Act.put,List.getElem_toArray,List.getElem_cons_zero,List.getElem_cons_succ,List.setIfInBounds_toArray,List.set_cons_succ,List.set_cons_zero]
     refine wtk (i:=6) (v:=?_) [50] rfl (by kernel_rfl) (by kernel_rfl) (by kernel_rfl) (by kernel_rfl) (fun _ _ _ h=>h) hS0 (Or.inl ⟨by rfl,?_⟩) ?_
     rotate_left
     ·intro x hSx
      clear hSx
      go_simp
      try with_reducible rfl
     simp only [Act.put,List.getElem_toArray,List.getElem_cons_zero,List.getElem_cons_succ,List.setIfInBounds_toArray,List.set_cons_succ,List.set_cons_zero]
     refine wtk (i:=7) (v:=?_) [50] rfl (by kernel_rfl) (by kernel_rfl) (by kernel_rfl) (by kernel_rfl) (fun _ _ _ h=>h) hS0 (Or.inl ⟨by rfl,?_⟩) ?_
     rotate_left
     ·intro x hSx
      clear hSx
      go_simp
      try with_reducible rfl
     simp only [Act.put,List.getElem_toArray,List.getElem_cons_zero,List.getElem_cons_succ,List.setIfInBounds_toArray,List.set_cons_succ,List.set_cons_zero]
     refine wtk (i:=8) (v:=?_) [50] rfl (by kernel_rfl) (by kernel_rfl) (by kernel_rfl) (by kernel_rfl) (fun _ _ _ h=>h) hS0 (Or.inl ⟨by rfl,?_⟩) ?_
     rotate_left
     ·intro x hSx
      have u0:=(uh hSx).2.cell (k+1) (by have:=uh HE;omega)
      clear hSx
      go_simp
      try with_reducible rfl
     simp only [Act.put,List.getElem_toArray,List.getElem_cons_zero,List.getElem_cons_succ,List.setIfInBounds_toArray,List.set_cons_succ,List.set_cons_zero]
     refine wtk (i:=9) (v:=?_) [50] rfl (by kernel_rfl) (by kernel_rfl) (by kernel_rfl) (by kernel_rfl) (fun _ _ _ h=>h) hS0 (Or.inl ⟨by rfl,?_⟩) ?_
     rotate_left
     ·intro x hSx
      clear hSx
      go_simp
      try with_reducible rfl
     simp only [Act.put,List.getElem_toArray,List.getElem_cons_zero,List.getElem_cons_succ,List.setIfInBounds_toArray,List.set_cons_succ,List.set_cons_zero]
     refine wtk (i:=10) (v:=?_) [50] rfl (by kernel_rfl) (by kernel_rfl) (by kernel_rfl) (by kernel_rfl) (fun _ _ _ h=>h) hS0 (Or.inl ⟨by rfl,?_⟩) ?_
     rotate_left
     ·intro x hSx
      clear hSx
      go_simp
      try with_reducible rfl
     simp only [Act.put,List.getElem_toArray,List.getElem_cons_zero,List.getElem_cons_succ,List.setIfInBounds_toArray,List.set_cons_succ,List.set_cons_zero]
     refine wtk (i:=11) (v:=?_) [50] rfl (by kernel_rfl) (by kernel_rfl) (by kernel_rfl) (by kernel_rfl) (fun _ _ _ h=>h) hS0 (Or.inl ⟨by rfl,?_⟩) ?_
     rotate_left
     ·intro x hSx
      clear hSx
      go_simp
      try with_reducible rfl
     simp only [Act.put,List.getElem_toArray,List.getElem_cons_zero,List.getElem_cons_succ,List.setIfInBounds_toArray,List.set_cons_succ,List.set_cons_zero]
     refine wtk (i:=12) (v:=?_) [50] rfl (by kernel_rfl) (by kernel_rfl) (by kernel_rfl) (by kernel_rfl) (fun _ _ _ h=>h) hS0 (Or.inl ⟨by rfl,?_⟩) ?_
     rotate_left
     ·intro x hSx
      have u0:=(uh hSx).2.cell (k+2) (by have:=uh HE;omega)
      clear hSx
      go_simp
      try with_reducible rfl
     simp only [Act.put,List.getElem_toArray,List.getElem_cons_zero,List.getElem_cons_succ,List.setIfInBounds_toArray,List.set_cons_succ,List.set_cons_zero]
     refine wtk (i:=13) (v:=?_) [50] rfl (by kernel_rfl) (by kernel_rfl) (by kernel_rfl) (by kernel_rfl) (fun _ _ _ h=>h) hS0 (Or.inl ⟨by rfl,?_⟩) ?_
     rotate_left
     ·intro x hSx
      clear hSx
      go_simp
      try with_reducible rfl
     simp only [Act.put,List.getElem_toArray,List.getElem_cons_zero,List.getElem_cons_succ,List.setIfInBounds_toArray,List.set_cons_succ,List.set_cons_zero]
     refine wtk (i:=14) (v:=?_) [50] rfl (by kernel_rfl) (by kernel_rfl) (by kernel_rfl) (by kernel_rfl) (fun _ _ _ h=>h) hS0 (Or.inl ⟨by rfl,?_⟩) ?_
     rotate_left
     ·intro x hSx
      clear hSx
      go_simp
      try with_reducible rfl
     simp only [Act.put,List.getElem_toArray,List.getElem_cons_zero,List.getElem_cons_succ,List.setIfInBounds_toArray,List.set_cons_succ,List.set_cons_zero]
     refine wtk (i:=15) (v:=?_) [50] rfl (by kernel_rfl) (by kernel_rfl) (by kernel_rfl) (by kernel_rfl) (fun _ _ _ h=>h) hS0 (Or.inl ⟨by rfl,?_⟩) ?_
     rotate_left
     ·intro x hSx
      clear hSx
      go_simp
      try with_reducible rfl
     simp only [Act.put,List.getElem_toArray,List.getElem_cons_zero,List.getElem_cons_succ,List.setIfInBounds_toArray,List.set_cons_succ,List.set_cons_zero]
     refine wtk (i:=16) (v:=?_) [50] rfl (by kernel_rfl) (by kernel_rfl) (by kernel_rfl) (by kernel_rfl) (fun _ _ _ h=>h) hS0 (Or.inl ⟨by rfl,?_⟩) ?_
     rotate_left
     ·intro x hSx
      have u0:=(uh hSx).2.cell (k+3) (by have:=uh HE;omega)
      clear hSx
      go_simp
      try with_reducible rfl
     simp only [Act.put,List.getElem_toArray,List.getElem_cons_zero,List.getElem_cons_succ,List.setIfInBounds_toArray,List.set_cons_succ,List.set_cons_zero]
     refine wtk (i:=17) (v:=?_) [50] rfl (by kernel_rfl) (by kernel_rfl) (by kernel_rfl) (by kernel_rfl) (fun _ _ _ h=>h) hS0 (Or.inl ⟨by rfl,?_⟩) ?_
     rotate_left
     ·intro x hSx
      clear hSx
      go_simp
      try with_reducible rfl
     simp only [Act.put,List.getElem_toArray,List.getElem_cons_zero,List.getElem_cons_succ,List.setIfInBounds_toArray,List.set_cons_succ,List.set_cons_zero]
     refine wtk (i:=18) (v:=?_) [50] rfl (by kernel_rfl) (by kernel_rfl) (by kernel_rfl) (by kernel_rfl) (fun _ _ _ h=>h) hS0 (Or.inl ⟨by rfl,?_⟩) ?_
     rotate_left
     ·intro x hSx
      clear hSx
      go_simp
      try with_reducible rfl
     simp only [Act.put,List.getElem_toArray,List.getElem_cons_zero,List.getElem_cons_succ,List.setIfInBounds_toArray,List.set_cons_succ,List.set_cons_zero]
     refine wtk (i:=19) (v:=?_) [50] rfl (by kernel_rfl) (by kernel_rfl) (by kernel_rfl) (by kernel_rfl) (fun _ _ _ h=>h) hS0 (Or.inl ⟨by rfl,?_⟩) ?_
     rotate_left
     ·intro x hSx
      clear hSx
      go_simp
      try with_reducible rfl
     simp only [Act.put,List.getElem_toArray,List.getElem_cons_zero,List.getElem_cons_succ,List.setIfInBounds_toArray,List.set_cons_succ,List.set_cons_zero]
     refine wtk (i:=20) (v:=?_) [50] rfl (by kernel_rfl) (by kernel_rfl) (by kernel_rfl) (by kernel_rfl) (fun _ _ _ h=>h) hS0 (Or.inl ⟨by rfl,?_⟩) ?_
     rotate_left
     ·intro x hSx
      have u0:=(uh hSx).2.cell (k+4) (by have:=uh HE;omega)
      clear hSx
      go_simp
      try with_reducible rfl
     simp only [Act.put,List.getElem_toArray,List.getElem_cons_zero,List.getElem_cons_succ,List.setIfInBounds_toArray,List.set_cons_succ,List.set_cons_zero]
     refine wtk (i:=21) (v:=?_) [50] rfl (by kernel_rfl) (by kernel_rfl) (by kernel_rfl) (by kernel_rfl) (fun _ _ _ h=>h) hS0 (Or.inl ⟨by rfl,?_⟩) ?_
     rotate_left
     ·intro x hSx
      clear hSx
      go_simp
      try with_reducible rfl
     simp only [Act.put,List.getElem_toArray,List.getElem_cons_zero,List.getElem_cons_succ,List.setIfInBounds_toArray,List.set_cons_succ,List.set_cons_zero]
     refine wtk (i:=22) (v:=?_) [50] rfl (by kernel_rfl) (by kernel_rfl) (by kernel_rfl) (by kernel_rfl) (fun _ _ _ h=>h) hS0 (Or.inl ⟨by rfl,?_⟩) ?_
     rotate_left
     ·intro x hSx
      clear hSx
      go_simp
      try with_reducible rfl
     simp only [Act.put,List.getElem_toArray,List.getElem_cons_zero,List.getElem_cons_succ,List.setIfInBounds_toArray,List.set_cons_succ,List.set_cons_zero]
     refine wtk (i:=23) (v:=?_) [50] rfl (by kernel_rfl) (by kernel_rfl) (by kernel_rfl) (by kernel_rfl) (fun _ _ _ h=>h) hS0 (Or.inl ⟨by rfl,?_⟩) ?_
     rotate_left
     ·intro x hSx
      clear hSx
      go_simp
      try with_reducible rfl
     simp only [Act.put,List.getElem_toArray,List.getElem_cons_zero,List.getElem_cons_succ,List.setIfInBounds_toArray,List.set_cons_succ,List.set_cons_zero]
     refine wtk (i:=24) (v:=?_) [50] rfl (by kernel_rfl) (by kernel_rfl) (by kernel_rfl) (by kernel_rfl) (fun _ _ _ h=>h) hS0 (Or.inl ⟨by rfl,?_⟩) ?_
     rotate_left
     ·intro x hSx
      have u0:=(uh hSx).2.cell (k+5) (by have:=uh HE;omega)
      clear hSx
      go_simp
      try with_reducible rfl
     simp only [Act.put,List.getElem_toArray,List.getElem_cons_zero,List.getElem_cons_succ,List.setIfInBounds_toArray,List.set_cons_succ,List.set_cons_zero]
     refine wtk (i:=25) (v:=?_) [50] rfl (by kernel_rfl) (by kernel_rfl) (by kernel_rfl) (by kernel_rfl) (fun _ _ _ h=>h) hS0 (Or.inl ⟨by rfl,?_⟩) ?_
     rotate_left
     ·intro x hSx
      clear hSx
      go_simp
      try with_reducible rfl
     simp only [Act.put,List.getElem_toArray,List.getElem_cons_zero,List.getElem_cons_succ,List.setIfInBounds_toArray,List.set_cons_succ,List.set_cons_zero]
     refine wtk (i:=26) (v:=?_) [50] rfl (by kernel_rfl) (by kernel_rfl) (by kernel_rfl) (by kernel_rfl) (fun _ _ _ h=>h) hS0 (Or.inl ⟨by rfl,?_⟩) ?_
     rotate_left
     ·intro x hSx
      clear hSx
      go_simp
      try with_reducible rfl
     simp only [Act.put,List.getElem_toArray,List.getElem_cons_zero,List.getElem_cons_succ,List.setIfInBounds_toArray,List.set_cons_succ,List.set_cons_zero]
     refine wtk (i:=27) (v:=?_) [50] rfl (by kernel_rfl) (by kernel_rfl) (by kernel_rfl) (by kernel_rfl) (fun _ _ _ h=>h) hS0 (Or.inl ⟨by rfl,?_⟩) ?_
     rotate_left
     ·intro x hSx
      clear hSx
      go_simp
      try with_reducible rfl
     simp only [Act.put,List.getElem_toArray,List.getElem_cons_zero,List.getElem_cons_succ,List.setIfInBounds_toArray,List.set_cons_succ,List.set_cons_zero]
     refine wtk (i:=28) (v:=?_) [50] rfl (by kernel_rfl) (by kernel_rfl) (by kernel_rfl) (by kernel_rfl) (fun _ _ _ h=>h) hS0 (Or.inl ⟨by rfl,?_⟩) ?_
     rotate_left
     ·intro x hSx
      have u0:=(uh hSx).2.cell (k+6) (by have:=uh HE;omega)
      clear hSx
      go_simp
      try with_reducible rfl
     simp only [Act.put,List.getElem_toArray,List.getElem_cons_zero,List.getElem_cons_succ,List.setIfInBounds_toArray,List.set_cons_succ,List.set_cons_zero]
     refine wtk (i:=29) (v:=?_) [50] rfl (by kernel_rfl) (by kernel_rfl) (by kernel_rfl) (by kernel_rfl) (fun _ _ _ h=>h) hS0 (Or.inl ⟨by rfl,?_⟩) ?_
     rotate_left
     ·intro x hSx
      clear hSx
      go_simp
      try with_reducible rfl
     simp only [Act.put,List.getElem_toArray,List.getElem_cons_zero,List.getElem_cons_succ,List.setIfInBounds_toArray,List.set_cons_succ,List.set_cons_zero]
     refine wtk (i:=30) (v:=?_) [50] rfl (by kernel_rfl) (by kernel_rfl) (by kernel_rfl) (by kernel_rfl) (fun _ _ _ h=>h) hS0 (Or.inl ⟨by rfl,?_⟩) ?_
     rotate_left
     ·intro x hSx
      clear hSx
      go_simp
      try with_reducible rfl
     simp only [Act.put,List.getElem_toArray,List.getElem_cons_zero,List.getElem_cons_succ,List.setIfInBounds_toArray,List.set_cons_succ,List.set_cons_zero]
     refine wtk (i:=31) (v:=?_) [50] rfl (by kernel_rfl) (by kernel_rfl) (by kernel_rfl) (by kernel_rfl) (fun _ _ _ h=>h) hS0 (Or.inl ⟨by rfl,?_⟩) ?_
     rotate_left
     ·intro x hSx
      clear hSx
      go_simp
      try with_reducible rfl
     simp only [Act.put,List.getElem_toArray,List.getElem_cons_zero,List.getElem_cons_succ,List.setIfInBounds_toArray,List.set_cons_succ,List.set_cons_zero]
     refine wtk (i:=32) (v:=?_) [50] rfl (by kernel_rfl) (by kernel_rfl) (by kernel_rfl) (by kernel_rfl) (fun _ _ _ h=>h) hS0 (Or.inl ⟨by rfl,?_⟩) ?_
     rotate_left
     ·intro x hSx
      have u0:=(uh hSx).2.cell (k+7) (by have:=uh HE;omega)
      clear hSx
      go_simp
      try with_reducible rfl
     simp only [Act.put,List.getElem_toArray,List.getElem_cons_zero,List.getElem_cons_succ,List.setIfInBounds_toArray,List.set_cons_succ,List.set_cons_zero]
     refine wtk (i:=33) (v:=?_) [50] rfl (by kernel_rfl) (by kernel_rfl) (by kernel_rfl) (by kernel_rfl) (fun _ _ _ h=>h) hS0 (Or.inl ⟨by rfl,?_⟩) ?_
     rotate_left
     ·intro x hSx
      clear hSx
      go_simp
      try with_reducible rfl
     simp only [Act.put,List.getElem_toArray,List.getElem_cons_zero,List.getElem_cons_succ,List.setIfInBounds_toArray,List.set_cons_succ,List.set_cons_zero]
     refine wtk (i:=34) (v:=?_) [50] rfl (by kernel_rfl) (by kernel_rfl) (by kernel_rfl) (by kernel_rfl) (fun _ _ _ h=>h) hS0 (Or.inl ⟨by rfl,?_⟩) ?_
     rotate_left
     ·intro x hSx
      clear hSx
      go_simp
      try with_reducible rfl
     simp only [Act.put,List.getElem_toArray,List.getElem_cons_zero,List.getElem_cons_succ,List.setIfInBounds_toArray,List.set_cons_succ,List.set_cons_zero]
     refine wtk (i:=35) (v:=?_) [50] rfl (by kernel_rfl) (by kernel_rfl) (by kernel_rfl) (by kernel_rfl) (fun _ _ _ h=>h) hS0 (Or.inl ⟨by rfl,?_⟩) ?_
     rotate_left
     ·intro x hSx
      clear hSx
      go_simp
      try with_reducible rfl
     simp only [Act.put,List.getElem_toArray,List.getElem_cons_zero,List.getElem_cons_succ,List.setIfInBounds_toArray,List.set_cons_succ,List.set_cons_zero]
     refine wtk (i:=36) (v:=?_) [50] rfl (by kernel_rfl) (by kernel_rfl) (by kernel_rfl) (by kernel_rfl) (fun _ _ _ h=>h) hS0 (Or.inl ⟨by rfl,?_⟩) ?_
     rotate_left
     ·intro x hSx
      have u0:=(uh hSx).2.cell (k+8) (by have:=uh HE;omega)
      clear hSx
      go_simp
      try with_reducible rfl
     simp only [Act.put,List.getElem_toArray,List.getElem_cons_zero,List.getElem_cons_succ,List.setIfInBounds_toArray,List.set_cons_succ,List.set_cons_zero]
     refine wtk (i:=37) (v:=?_) [50] rfl (by kernel_rfl) (by kernel_rfl) (by kernel_rfl) (by kernel_rfl) (fun _ _ _ h=>h) hS0 (Or.inl ⟨by rfl,?_⟩) ?_
     rotate_left
     ·intro x hSx
      clear hSx
      go_simp
      try with_reducible rfl
     simp only [Act.put,List.getElem_toArray,List.getElem_cons_zero,List.getElem_cons_succ,List.setIfInBounds_toArray,List.set_cons_succ,List.set_cons_zero]
     refine wtk (i:=38) (v:=?_) [50] rfl (by kernel_rfl) (by kernel_rfl) (by kernel_rfl) (by kernel_rfl) (fun _ _ _ h=>h) hS0 (Or.inl ⟨by rfl,?_⟩) ?_
     rotate_left
     ·intro x hSx
      clear hSx
      go_simp
      try with_reducible rfl
     simp only [Act.put,List.getElem_toArray,List.getElem_cons_zero,List.getElem_cons_succ,List.setIfInBounds_toArray,List.set_cons_succ,List.set_cons_zero]
     refine wtk (i:=39) (v:=?_) [50] rfl (by kernel_rfl) (by kernel_rfl) (by kernel_rfl) (by kernel_rfl) (fun _ _ _ h=>h) hS0 (Or.inl ⟨by rfl,?_⟩) ?_
     rotate_left
     ·intro x hSx
      clear hSx
      go_simp
      try with_reducible rfl
     simp only [Act.put,List.getElem_toArray,List.getElem_cons_zero,List.getElem_cons_succ,List.setIfInBounds_toArray,List.set_cons_succ,List.set_cons_zero]
     refine wtk (i:=40) (v:=?_) [50] rfl (by kernel_rfl) (by kernel_rfl) (by kernel_rfl) (by kernel_rfl) (fun _ _ _ h=>h) hS0 (Or.inl ⟨by rfl,?_⟩) ?_
     rotate_left
     ·intro x hSx
      have u0:=(uh hSx).2.cell (k+9) (by have:=uh HE;omega)
      clear hSx
      go_simp
      try with_reducible rfl
     simp only [Act.put,List.getElem_toArray,List.getElem_cons_zero,List.getElem_cons_succ,List.setIfInBounds_toArray,List.set_cons_succ,List.set_cons_zero]
     refine wtk (i:=41) (v:=?_) [50] rfl (by kernel_rfl) (by kernel_rfl) (by kernel_rfl) (by kernel_rfl) (fun _ _ _ h=>h) hS0 (Or.inl ⟨by rfl,?_⟩) ?_
     rotate_left
     ·intro x hSx
      clear hSx
      go_simp
      try with_reducible rfl
     simp only [Act.put,List.getElem_toArray,List.getElem_cons_zero,List.getElem_cons_succ,List.setIfInBounds_toArray,List.set_cons_succ,List.set_cons_zero]
     refine wtk (i:=42) (v:=?_) [50] rfl (by kernel_rfl) (by kernel_rfl) (by kernel_rfl) (by kernel_rfl) (fun _ _ _ h=>h) hS0 (Or.inl ⟨by rfl,?_⟩) ?_
     rotate_left
     ·intro x hSx
      clear hSx
      go_simp
      try with_reducible rfl
     simp only [Act.put,List.getElem_toArray,List.getElem_cons_zero,List.getElem_cons_succ,List.setIfInBounds_toArray,List.set_cons_succ,List.set_cons_zero]
     refine wtk (i:=43) (v:=?_) [50] rfl (by kernel_rfl) (by kernel_rfl) (by kernel_rfl) (by kernel_rfl) (fun _ _ _ h=>h) hS0 (Or.inl ⟨by rfl,?_⟩) ?_
     rotate_left
     ·intro x hSx
      clear hSx
      go_simp
      try with_reducible rfl
     simp only [Act.put,List.getElem_toArray,List.getElem_cons_zero,List.getElem_cons_succ,List.setIfInBounds_toArray,List.set_cons_succ,List.set_cons_zero]
     refine wtk (i:=44) (v:=?_) [50] rfl (by kernel_rfl) (by kernel_rfl) (by kernel_rfl) (by kernel_rfl) (fun _ _ _ h=>h) hS0 (Or.inl ⟨by rfl,?_⟩) ?_
     rotate_left
     ·intro x hSx
      have u0:=(uh hSx).2.cell (k+10) (by have:=uh HE;omega)
      clear hSx
      go_simp
      try with_reducible rfl
     simp only [Act.put,List.getElem_toArray,List.getElem_cons_zero,List.getElem_cons_succ,List.setIfInBounds_toArray,List.set_cons_succ,List.set_cons_zero]
     refine wtk (i:=45) (v:=?_) [50] rfl (by kernel_rfl) (by kernel_rfl) (by kernel_rfl) (by kernel_rfl) (fun _ _ _ h=>h) hS0 (Or.inl ⟨by rfl,?_⟩) ?_
     rotate_left
     ·intro x hSx
      clear hSx
      go_simp
      try with_reducible rfl
     simp only [Act.put,List.getElem_toArray,List.getElem_cons_zero,List.getElem_cons_succ,List.setIfInBounds_toArray,List.set_cons_succ,List.set_cons_zero]
     refine wtk (i:=46) (v:=?_) [50] rfl (by kernel_rfl) (by kernel_rfl) (by kernel_rfl) (by kernel_rfl) (fun _ _ _ h=>h) hS0 (Or.inl ⟨by rfl,?_⟩) ?_
     rotate_left
     ·intro x hSx
      clear hSx
      go_simp
      try with_reducible rfl
     simp only [Act.put,List.getElem_toArray,List.getElem_cons_zero,List.getElem_cons_succ,List.setIfInBounds_toArray,List.set_cons_succ,List.set_cons_zero]
     refine wto (j:=47) (by kernel_rfl) rfl (fun K hK=>?_)
     go_simp
     refine hK.out _ _ (fun _=>hS1) ?_
     clear hK K
     rw [uh HW1]
     refine wto (j:=48) (by kernel_rfl) rfl (fun K hK=>?_)
     refine Sn.wanted (by rfl) ?_
     refine wp_append_own _ _ _ 27 rfl w.heap.size 61 ie (.agg #[.int .i64 0,.int .i64 0,.int .i64 0,.int .i64 0,.int .i64 0,.int .i64 0,.int .i64 0,.int .i64 0,.int .i64 0,.int .i64 0,.int .i64 0]) 11 88 Tryz.underlying27 ei ez0 ez1 ez2 rfl (by decide) vL nn _ rfl (uh hown4) ⟨wr.heap.size,0,none⟩ 1 1 (#[.int .i64 (F k),.int .i64 (F (k+1)),.int .i64 (F (k+2)),.int .i64 (F (k+3)),.int .i64 (F (k+4)),.int .i64 (F (k+5)),.int .i64 (F (k+6)),.int .i64 (F (k+7)),.int .i64 (F (k+8)),.int .i64 (F (k+9)),.int .i64 (F (k+10))]:Array Value).toList rfl rfl (uh hnews) (uh hone) (by have:=uh HE;unfold maxLen;omega) (by have:=uh HE;omega) (uh hbz) ?_
     intro v6 w6 hown hgrow hnil
     obtain ⟨hS6,hfin2⟩:=uh hfin w6 v6 hown hgrow
     have hS6':Hid (Lie w6 W _ 11 _∧Sn.Src w6 G F):=hS6
     have f6:=hS6.1.free
     have z6:=uh hb5 _ hS6.1
     have HF2:=hide hfin2
     obtain ⟨g6,cp6,rfl⟩:=uh hform w6 v6 hown
     clear hown hgrow hnil hS6 hfin2
     refine hK.out _ _ (fun _=>hS6') ?_
     clear hK K
     refine wtk (i:=49) (v:=?_) [50] rfl (by kernel_rfl) (by kernel_rfl) (by kernel_rfl) (by kernel_rfl) (fun _ _ _ h=>h) hS6' (Or.inl ⟨by rfl,?_⟩) ?_
     rotate_left
     ·intro x hSx
      clear hSx
      go_simp
      try with_reducible rfl
     simp only [Act.put,List.getElem_toArray,List.getElem_cons_zero,List.getElem_cons_succ,List.setIfInBounds_toArray,List.set_cons_succ,List.set_cons_zero]
     refine wto (j:=50) (by kernel_rfl) rfl (fun K hK=>?_)
     go_simp
     refine hK.out _ _ (fun hx=>absurd (hx.symm.trans (by kernel_rfl)) Bool.false_ne_true) ?_
     clear hK K
     refine wpTill_done (by kernel_rfl) ?_ _
     have HN2:Hid (nn+1≤32):=(show nn+1≤32 by have:=uh HE;omega)
     clear hown4 hnews hone hbz hform hfin hS0 hS1 hS6' HW1 HE f6 z6 hb5
     go_wp2_with fail
     go_roundw
     case rel=>first | exact ⟨nn+1,uh HN2,by go_num,_,uh HF2⟩ | ((repeat apply Exists.intro);exact ⟨⟨nn+1,uh HN2,by go_num,_,uh HF2⟩,rfl⟩)
     case measure=>simp [intOf];have:=uh HN2;omega
    ·obtain rfl:nn=32:=by omega
     have hge:¬((32:Nat):Int)<32:=by omega
     clear hlt hn
     have hY:=hX
     clear hX hge
     obtain ⟨vE,hvE⟩:∃v,vL=v:=⟨_,rfl⟩
     rw [hvE] at hY
     clear hvE
     go_wp2_with fail
     go_loopw [9] (fun v7 wr=>∃nn:Nat,nn≤40∧v7=.int .i64 (nn:Int)∧Hid (∃v,Sn.Dcd w wr P W G F 4 384 32 nn vC vE v)) (fun v7 _=>60 - (intOf v7).toNat)
     case atStart=>exact ⟨0,by omega,rfl,_,uh hY⟩
     case round =>
      clear hY
      obtain ⟨nn,hn,rfl,hX0⟩:=hrel
      obtain ⟨vL,hX1⟩:=uh hX0
      have hX:=hide hX1
      clear hX0 hX1
      by_cases hlt:nn<40
      ·have hlt':(nn:Int)<40:=by omega
       obtain ⟨k,hk⟩:∃k:Nat,k=758+4*nn:=⟨_,rfl⟩
       have k1:(758:Int)+4*(nn:Int)=(k:Int):=by omega
       obtain ⟨e,he⟩:∃e:Nat,e=k+4:=⟨_,rfl⟩
       have k2:(k:Int)+4=(e:Int):=by omega
       have k3:e - k=4:=by omega
       have k4:(k:Int)≤(e:Int):=by omega
       have k5:(e:Int)≤(cap:Int):=by have:=uh HCap;omega
       have k6:(0:Int)≤(k:Int):=by omega
       have HE:Hid (k+4≤918∧k=758+4*nn∧nn<40):=⟨by omega,hk,hlt⟩
       clear hk he hlt hn
       go_upto_region 23 with fail
       have hb5:Hid (∀z,Lie z W 31 11 (Sn.part F 4 vC vE vL)→z.cell? ⟨W,6,none⟩=some vL):=fun z hz=>hz.cell (c:=6) (by omega)
       obtain ⟨W1,hW1⟩:∃W,(wr.alloc (.cells #[.int .i64 (F k),.int .i64 (F (k+1)),.int .i64 (F (k+2)),.int .i64 (F (k+3))] 63)).drew=W:=⟨_,rfl⟩
       have HW1:=hide hW1
       have g1:wr.grownBy W1 none:=by rw [←hW1];exact gdw (World.grownBy_alloc wr _ none) 1
       have hS0:Hid (Lie wr.drew W 31 11 (Sn.part F 4 vC vE vL)∧Sn.Src wr.drew G F):=⟨(uh hX).box.on (gdw (World.grownBy.refl wr none) 1),(uh hX).src.on (gdw (World.grownBy.refl wr none) 1) (by simp)⟩
       have hS1:Hid (Lie (wr.alloc (.cells #[.int .i64 (F k),.int .i64 (F (k+1)),.int .i64 (F (k+2)),.int .i64 (F (k+3))] 63)).drew W 31 11 (Sn.part F 4 vC vE vL)∧Sn.Src (wr.alloc (.cells #[.int .i64 (F k),.int .i64 (F (k+1)),.int .i64 (F (k+2)),.int .i64 (F (k+3))] 63)).drew G F):=by rw [hW1];exact ⟨(uh hX).box.on g1,(uh hX).src.on g1 (by simp)⟩
       have hown4:Hid (W1.ownsRow w.heap.size 63 4 vL nn (Gd.list (nn*4) (Gd.flat (Sn.rI F)))):=((uh hX).on g1).items
       have hnews:Hid (∀j u,(#[.int .i64 (F k),.int .i64 (F (k+1)),.int .i64 (F (k+2)),.int .i64 (F (k+3))]:Array Value).toList[j]?=some u→W1.cell? ((⟨wr.heap.size,0,none⟩:Addr).add j)=some u):=by
        intro j u hj
        rw [←hW1]
        have h:=Sn.news wr #[.int .i64 (F k),.int .i64 (F (k+1)),.int .i64 (F (k+2)),.int .i64 (F (k+3))] 63 _ rfl j u hj
        rw [Go.WideShapes.add_plain] at h ⊢
        exact (gce (gdw (World.grownBy.refl (wr.alloc (.cells #[.int .i64 (F k),.int .i64 (F (k+1)),.int .i64 (F (k+2)),.int .i64 (F (k+3))] 63)) none) 1) wr.heap.size (0+j) (by simp) (by simp)).trans h
       have hone:Hid (∀u∈(#[.int .i64 (F k),.int .i64 (F (k+1)),.int .i64 (F (k+2)),.int .i64 (F (k+3))]:Array Value).toList,u.oneCell'=true):=fun u hu=>by
        simp only [List.mem_cons,List.not_mem_nil,or_false] at hu
        rcases hu with rfl | rfl | rfl | rfl <;> rfl
       have hbz:Hid (w.heap.size≤W1.heap.size):=Nat.le_trans (uh hX).grown.size g1.size
       have hl:Gd.list (nn*4) (Gd.flat (Sn.rI F)) ++ (#[.int .i64 (F k),.int .i64 (F (k+1)),.int .i64 (F (k+2)),.int .i64 (F (k+3))]:Array Value).toList=Gd.list ((nn+1)*4) (Gd.flat (Sn.rI F)):=Sn.more rfl fun j hj=>by
        have hk:=(uh HE).2.1
        have q:∀j,j<4→Gd.flat (Sn.rI F) (nn*4+j)=.int .i64 (F (k+j)):=fun j hj=>by
         show Value.int .i64 (F (758+(((nn*4+j) / 4)*4+(nn*4+j) % 4)))=_
         rw [show 758+(((nn*4+j) / 4)*4+(nn*4+j) % 4)=k+j by omega]
        rw [q j hj]
        rcases (show j=0∨j=1∨j=2∨j=3 by omega) with rfl | rfl | rfl | rfl <;> rfl
       have hfin:Hid (∀(z:World) (v':Value),z.ownsRow w.heap.size 63 4 v' (nn+1) (Gd.list (nn*4) (Gd.flat (Sn.rI F)) ++ (#[.int .i64 (F k),.int .i64 (F (k+1)),.int .i64 (F (k+2)),.int .i64 (F (k+3))]:Array Value).toList)→W1.grownBy z vL.ownBlock→(Lie z W 31 11 (Sn.part F 4 vC vE vL)∧Sn.Src z G F)∧Sn.Dcd w (z.setCell ⟨W,6,none⟩ v') P W G F 4 384 32 (nn+1) vC vE v'):=fun z v' h1 h2=>by
        have hy:=(uh hX).on g1
        obtain ⟨-,a,b,-⟩:=hy.keep h2 (fun q e=>(hy.items.lt q e).1) (Sn.row_off hy.res hy.items (by decide)) (Sn.row_off hy.box hy.items (by decide))
        exact ⟨⟨a,b⟩,(uh hX).item g1 h1 hl h2⟩
       have hform:Hid (∀(z:World) (v':Value),z.ownsRow w.heap.size 63 4 v' (nn+1) (Gd.list (nn*4) (Gd.flat (Sn.rI F)) ++ (#[.int .i64 (F k),.int .i64 (F (k+1)),.int .i64 (F (k+2)),.int .i64 (F (k+3))]:Array Value).toList)→∃g c,v'=.slice (some ⟨g,0,none⟩) (nn+1) c):=fun z v' h=>by
        rcases h.2 with ⟨_,h0⟩ | ⟨g,c,cur,e,_⟩
        ·omega
        ·exact ⟨g,c,e⟩
       clear g1 hW1 hl hX
       refine wp_region_till (h:=22) (S:=fun x=>Hid (Lie x W 31 11 (Sn.part F 4 vC vE vL)∧Sn.Src x G F)) (by kernel_rfl) ?_
       refine wtk (i:=0) (v:=?_) [22] rfl (by kernel_rfl) (by kernel_rfl) (by kernel_rfl) (by kernel_rfl) (fun _ _ _ h=>h) hS0 (Or.inl ⟨by rfl,?_⟩) ?_
       rotate_left
       ·intro x hSx
        clear hSx
        go_simp
        try with_reducible rfl
       simp only [Act.put,List.getElem_toArray,List.getElem_cons_zero,List.setIfInBounds_toArray,List.set_cons_succ,List.set_cons_zero]
       refine wtk (i:=1) (v:=?_) [22] rfl (by kernel_rfl) (by kernel_rfl) (by kernel_rfl) (by kernel_rfl) (fun _ _ _ h=>h) hS0 (Or.inl ⟨by rfl,?_⟩) ?_
       rotate_left
       ·intro x hSx
        have b0:=uh hb5 x (uh hSx).1
        clear hSx
        go_simp
        try with_reducible rfl
       simp only [Act.put,List.getElem_toArray,List.getElem_cons_zero,List.getElem_cons_succ,List.setIfInBounds_toArray,List.set_cons_succ,List.set_cons_zero]
       refine wtk (i:=2) (v:=?_) [22] rfl (by kernel_rfl) (by kernel_rfl) (by kernel_rfl) (by kernel_rfl) (fun _ _ _ h=>h) hS0 (Or.inl ⟨by rfl,?_⟩) ?_
       rotate_left
       ·intro x hSx
        clear hSx
        go_simp
        try with_reducible rfl
       simp only [Act.put,List.getElem_toArray,List.getElem_cons_zero,List.getElem_cons_succ,List.setIfInBounds_toArray,List.set_cons_succ,List.set_cons_zero]
       refine wtk (i:=3) (v:=?_) [22] rfl (by kernel_rfl) (by kernel_rfl) (by kernel_rfl) (by kernel_rfl) (fun _ _ _ h=>h) hS0 (Or.inl ⟨by rfl,?_⟩) ?_
       rotate_left
       ·intro x hSx
        clear hSx
        go_simp
        try with_reducible rfl
       simp only [Act.put,List.getElem_toArray,List.getElem_cons_zero,List.getElem_cons_succ,List.setIfInBounds_toArray,List.set_cons_succ,List.set_cons_zero]
       refine wtk (i:=4) (v:=?_) [22] rfl (by kernel_rfl) (by kernel_rfl) (by kernel_rfl) (by kernel_rfl) (fun _ _ _ h=>h) hS0 (Or.inl ⟨by rfl,?_⟩) ?_
       rotate_left
       ·intro x hSx
        have u0:=(uh hSx).2.cell k (by have:=uh HE;omega)
        clear hSx
        go_simp
        try with_reducible rfl
       simp only [Act.put,List.getElem_toArray,List.getElem_cons_zero,List.getElem_cons_succ,List.setIfInBounds_toArray,List.set_cons_succ,List.set_cons_zero]
       refine wtk (i:=5) (v:=?_) [22] rfl (by kernel_rfl) (by kernel_rfl) (by kernel_rfl) (by kernel_rfl) (fun _ _ _ h=>h) hS0 (Or.inl ⟨by rfl,?_⟩) ?_
       rotate_left
       ·intro x hSx
        clear hSx
        go_simp
        try with_reducible rfl
       simp only [Act.put,List.getElem_toArray,List.getElem_cons_zero,List.getElem_cons_succ,List.setIfInBounds_toArray,List.set_cons_succ,List.set_cons_zero]
       refine wtk (i:=6) (v:=?_) [22] rfl (by kernel_rfl) (by kernel_rfl) (by kernel_rfl) (by kernel_rfl) (fun _ _ _ h=>h) hS0 (Or.inl ⟨by rfl,?_⟩) ?_
       rotate_left
       ·intro x hSx
        clear hSx
        go_simp
        try with_reducible rfl
       simp only [Act.put,List.getElem_toArray,List.getElem_cons_zero,List.getElem_cons_succ,List.setIfInBounds_toArray,List.set_cons_succ,List.set_cons_zero]
       refine wtk (i:=7) (v:=?_) [22] rfl (by kernel_rfl) (by kernel_rfl) (by kernel_rfl) (by kernel_rfl) (fun _ _ _ h=>h) hS0 (Or.inl ⟨by rfl,?_⟩) ?_
       rotate_left
       ·intro x hSx
        clear hSx
        go_simp
        try with_reducible rfl
       simp only [Act.put,List.getElem_toArray,List.getElem_cons_zero,List.getElem_cons_succ,List.setIfInBounds_toArray,List.set_cons_succ,List.set_cons_zero]
       refine wtk (i:=8) (v:=?_) [22] rfl (by kernel_rfl) (by kernel_rfl) (by kernel_rfl) (by kernel_rfl) (fun _ _ _ h=>h) hS0 (Or.inl ⟨by rfl,?_⟩) ?_
       rotate_left
       ·intro x hSx
        have u0:=(uh hSx).2.cell (k+1) (by have:=uh HE;omega)
        clear hSx
        go_simp
        try with_reducible rfl
       simp only [Act.put,List.getElem_toArray,List.getElem_cons_zero,List.getElem_cons_succ,List.setIfInBounds_toArray,List.set_cons_succ,List.set_cons_zero]
       refine wtk (i:=9) (v:=?_) [22] rfl (by kernel_rfl) (by kernel_rfl) (by kernel_rfl) (by kernel_rfl) (fun _ _ _ h=>h) hS0 (Or.inl ⟨by rfl,?_⟩) ?_
       rotate_left
       ·intro x hSx
        clear hSx
        go_simp
        try with_reducible rfl
       simp only [Act.put,List.getElem_toArray,List.getElem_cons_zero,List.getElem_cons_succ,List.setIfInBounds_toArray,List.set_cons_succ,List.set_cons_zero]
       refine wtk (i:=10) (v:=?_) [22] rfl (by kernel_rfl) (by kernel_rfl) (by kernel_rfl) (by kernel_rfl) (fun _ _ _ h=>h) hS0 (Or.inl ⟨by rfl,?_⟩) ?_
       rotate_left
       ·intro x hSx
        clear hSx
        go_simp
        try with_reducible rfl
       simp only [Act.put,List.getElem_toArray,List.getElem_cons_zero,List.getElem_cons_succ,List.setIfInBounds_toArray,List.set_cons_succ,List.set_cons_zero]
       refine wtk (i:=11) (v:=?_) [22] rfl (by kernel_rfl) (by kernel_rfl) (by kernel_rfl) (by kernel_rfl) (fun _ _ _ h=>h) hS0 (Or.inl ⟨by rfl,?_⟩) ?_
       rotate_left
       ·intro x hSx
        clear hSx
        go_simp
        try with_reducible rfl
       simp only [Act.put,List.getElem_toArray,List.getElem_cons_zero,List.getElem_cons_succ,List.setIfInBounds_toArray,List.set_cons_succ,List.set_cons_zero]
       refine wtk (i:=12) (v:=?_) [22] rfl (by kernel_rfl) (by kernel_rfl) (by kernel_rfl) (by kernel_rfl) (fun _ _ _ h=>h) hS0 (Or.inl ⟨by rfl,?_⟩) ?_
       rotate_left
       ·intro x hSx
        have u0:=(uh hSx).2.cell (k+2) (by have:=uh HE;omega)
        clear hSx
        go_simp
        try with_reducible rfl
       simp only [Act.put,List.getElem_toArray,List.getElem_cons_zero,List.getElem_cons_succ,List.setIfInBounds_toArray,List.set_cons_succ,List.set_cons_zero]
       refine wtk (i:=13) (v:=?_) [22] rfl (by kernel_rfl) (by kernel_rfl) (by kernel_rfl) (by kernel_rfl) (fun _ _ _ h=>h) hS0 (Or.inl ⟨by rfl,?_⟩) ?_
       rotate_left
       ·intro x hSx
        clear hSx
        go_simp
        try with_reducible rfl
       simp only [Act.put,List.getElem_toArray,List.getElem_cons_zero,List.getElem_cons_succ,List.setIfInBounds_toArray,List.set_cons_succ,List.set_cons_zero]
       refine wtk (i:=14) (v:=?_) [22] rfl (by kernel_rfl) (by kernel_rfl) (by kernel_rfl) (by kernel_rfl) (fun _ _ _ h=>h) hS0 (Or.inl ⟨by rfl,?_⟩) ?_
       rotate_left
       ·intro x hSx
        clear hSx
        go_simp
        try with_reducible rfl
       simp only [Act.put,List.getElem_toArray,List.getElem_cons_zero,List.getElem_cons_succ,List.setIfInBounds_toArray,List.set_cons_succ,List.set_cons_zero]
       refine wtk (i:=15) (v:=?_) [22] rfl (by kernel_rfl) (by kernel_rfl) (by kernel_rfl) (by kernel_rfl) (fun _ _ _ h=>h) hS0 (Or.inl ⟨by rfl,?_⟩) ?_
       rotate_left
       ·intro x hSx
        clear hSx
        go_simp
        try with_reducible rfl
       simp only [Act.put,List.getElem_toArray,List.getElem_cons_zero,List.getElem_cons_succ,List.setIfInBounds_toArray,List.set_cons_succ,List.set_cons_zero]
       refine wtk (i:=16) (v:=?_) [22] rfl (by kernel_rfl) (by kernel_rfl) (by kernel_rfl) (by kernel_rfl) (fun _ _ _ h=>h) hS0 (Or.inl ⟨by rfl,?_⟩) ?_
       rotate_left
       ·intro x hSx
        have u0:=(uh hSx).2.cell (k+3) (by have:=uh HE;omega)
        clear hSx
        go_simp
        try with_reducible rfl
       simp only [Act.put,List.getElem_toArray,List.getElem_cons_zero,List.getElem_cons_succ,List.setIfInBounds_toArray,List.set_cons_succ,List.set_cons_zero]
       refine wtk (i:=17) (v:=?_) [22] rfl (by kernel_rfl) (by kernel_rfl) (by kernel_rfl) (by kernel_rfl) (fun _ _ _ h=>h) hS0 (Or.inl ⟨by rfl,?_⟩) ?_
       rotate_left
       ·intro x hSx
        clear hSx
        go_simp
        try with_reducible rfl
       simp only [Act.put,List.getElem_toArray,List.getElem_cons_zero,List.getElem_cons_succ,List.setIfInBounds_toArray,List.set_cons_succ,List.set_cons_zero]
       refine wtk (i:=18) (v:=?_) [22] rfl (by kernel_rfl) (by kernel_rfl) (by kernel_rfl) (by kernel_rfl) (fun _ _ _ h=>h) hS0 (Or.inl ⟨by rfl,?_⟩) ?_
       rotate_left
       ·intro x hSx
        clear hSx
        go_simp
        try with_reducible rfl
       simp only [Act.put,List.getElem_toArray,List.getElem_cons_zero,List.getElem_cons_succ,List.setIfInBounds_toArray,List.set_cons_succ,List.set_cons_zero]
       refine wto (j:=19) (by kernel_rfl) rfl (fun K hK=>?_)
       go_simp
       refine hK.out _ _ (fun _=>hS1) ?_
       clear hK K
       rw [uh HW1]
       refine wto (j:=20) (by kernel_rfl) rfl (fun K hK=>?_)
       refine Sn.wanted (by rfl) ?_
       refine wp_append_own _ _ _ 28 rfl w.heap.size 63 ii (.agg #[.int .i64 0,.int .i64 0,.int .i64 0,.int .i64 0]) 4 32 Tryz.underlying28 ni nz0 nz1 nz2 rfl (by decide) vL nn _ rfl (uh hown4) ⟨wr.heap.size,0,none⟩ 1 1 (#[.int .i64 (F k),.int .i64 (F (k+1)),.int .i64 (F (k+2)),.int .i64 (F (k+3))]:Array Value).toList rfl rfl (uh hnews) (uh hone) (by have:=uh HE;unfold maxLen;omega) (by have:=uh HE;omega) (uh hbz) ?_
       intro v6 w6 hown hgrow hnil
       obtain ⟨hS6,hfin2⟩:=uh hfin w6 v6 hown hgrow
       have hS6':Hid (Lie w6 W _ 11 _∧Sn.Src w6 G F):=hS6
       have f6:=hS6.1.free
       have z6:=uh hb5 _ hS6.1
       have HF2:=hide hfin2
       obtain ⟨g6,cp6,rfl⟩:=uh hform w6 v6 hown
       clear hown hgrow hnil hS6 hfin2
       refine hK.out _ _ (fun _=>hS6') ?_
       clear hK K
       refine wtk (i:=21) (v:=?_) [22] rfl (by kernel_rfl) (by kernel_rfl) (by kernel_rfl) (by kernel_rfl) (fun _ _ _ h=>h) hS6' (Or.inl ⟨by rfl,?_⟩) ?_
       rotate_left
       ·intro x hSx
        clear hSx
        go_simp
        try with_reducible rfl
       simp only [Act.put,List.getElem_toArray,List.getElem_cons_zero,List.getElem_cons_succ,List.setIfInBounds_toArray,List.set_cons_succ,List.set_cons_zero]
       refine wto (j:=22) (by kernel_rfl) rfl (fun K hK=>?_)
       go_simp
       refine hK.out _ _ (fun hx=>absurd (hx.symm.trans (by kernel_rfl)) Bool.false_ne_true) ?_
       clear hK K
       refine wpTill_done (by kernel_rfl) ?_ _
       have HN2:Hid (nn+1≤40):=(show nn+1≤40 by have:=uh HE;omega)
       clear hown4 hnews hone hbz hform hfin hS0 hS1 hS6' HW1 HE f6 z6 hb5
       go_wp2_with fail
       go_roundw
       case rel=>first | exact ⟨nn+1,uh HN2,by go_num,_,uh HF2⟩ | ((repeat apply Exists.intro);exact ⟨⟨nn+1,uh HN2,by go_num,_,uh HF2⟩,rfl⟩)
       case measure=>simp [intOf];have:=uh HN2;omega
      ·obtain rfl:nn=40:=by omega
       have hge:¬((40:Nat):Int)<40:=by omega
       clear hlt hn
       have hY:=hX
       clear hX hge
       obtain ⟨gC,cC,hvC,lC,-,hLC⟩:=Lie.of_append (uh hY).cells (by rintro rfl;exact absurd (uh hY).cells (by rintro ⟨_,⟨_,h⟩ | ⟨g,cap,cur,e,_⟩⟩ <;> first | omega | cases e))
       obtain ⟨gE,cE,hvE,lE,hcE,hLE⟩:=Lie.of_append (uh hY).ents (by rintro rfl;exact absurd (uh hY).ents (by rintro ⟨_,⟨_,h⟩ | ⟨g,cap,cur,e,_⟩⟩ <;> first | omega | cases e))
       obtain ⟨gI,cI,hvI,lI,-,hLI⟩:=Lie.of_append (uh hY).items (by rintro rfl;exact absurd (uh hY).items (by rintro ⟨_,⟨_,h⟩ | ⟨g,cap,cur,e,_⟩⟩ <;> first | omega | cases e))
       have hB:Hid (Lie wr W 31 11 (Gd.box (Sn.rs F) gC gE gI cC cE cI (Sn.rg F))):=by
        refine (uh hY).box.congr fun j hj=>?_
        rw [hvC,hvE,hvI]
        rcases (show j=0∨j=1∨j=2∨j=3∨j=4∨j=5∨j=6∨j=7∨j=8∨j=9∨j=10 by omega) with rfl | rfl | rfl | rfl | rfl | rfl | rfl | rfl | rfl | rfl | rfl <;> rfl
       have hLL:Hid (Gd.Lists wr gC gE gI (Sn.rc F) (Sn.rE F) (Sn.rI F)):=⟨hLC,hLE,hLI⟩
       have HX:Hid (32≤cE∧w.heap.size≤gC∧w.heap.size≤gE∧w.heap.size≤gI∧gC≠gE∧gC≠gI∧gE≠gI):=⟨hcE,lC,lE,lI,hLC.type_ne hLE (by decide),hLC.type_ne hLI (by decide),hLE.type_ne hLI (by decide)⟩
       have hby:Hid (∀i,0≤Sn.rc F i∧Sn.rc F i≤255):=fun i=>(uh hY).src.byte _
       have HG:=hide (uh hY).grown
       have HR:=hide (uh hY).res
       have HPl:=hide (uh hY).lP
       have cc:=hide (refCheck11_any (Sn.rs F) (Sn.rg F) (Sn.rc F) (Sn.rE F) (Sn.rI F) gC gE gI cC cE cI wr (uh hLL) (uh hby) hcE)
       clear hvC hvE hvI lC lE lI hLC hLE hLI hcE hY
       generalize Sn.rs F=sF at *
       generalize Sn.rg F=gF at *
       generalize Sn.rc F=cF at *
       generalize Sn.rE F=eF at *
       generalize Sn.rI F=iF at *
       unfold Gd.world at cc
       obtain ⟨b0,b1,b2,b3,b4,b5,b6,b7,b8,b9,b10⟩:=(uh hB).eleven
       go_wp2_with fail
       refine (uh cc).mono ?_
       rintro e w3 ⟨r,rfl,hr,hg3⟩
       have HR3:=hide ((uh HR).on hg3)
       have HG3:=hide (gtr (uh HG) hg3)
       have HL3:=hide ((uh hLL).on hg3)
       have hB3:=hide ((uh hB).on hg3)
       have hr':=hide hr
       clear hg3 hr cc HR HG hLL hB b0 b1 b2 b3 b4 b5 b6 b7 b8 b9 b10
       have fz:=(uh HR3).free
       obtain ⟨z0,z1,z2,z3,z4,z5,z6,z7,z8,z9,z10⟩:=Gd.res_cells ((uh HR3).congr (G:=(fun j=>#[.int .i64 0,.int .i64 0,.int .i64 0,.int .i64 0,.slice none 0 0,.slice none 0 0,.slice none 0 0,.int .i64 0,.int .i64 0,.int .i64 0,Value.int .i64 0][j]?.getD undef)) fun j hj=>by rcases (show j=0∨j=1∨j=2∨j=3∨j=4∨j=5∨j=6∨j=7∨j=8∨j=9∨j=10 by omega) with rfl | rfl | rfl | rfl | rfl | rfl | rfl | rfl | rfl | rfl | rfl <;> rfl)
       by_cases h0:r=0
       ·subst h0
        have hfo:Hid (∀vs,D (.returned (.tuple #[.agg (Gd.world sF gC gE gI cC cE cI gF),.int .i64 0])) (w3.setCells P 0 vs)):=fun vs=>by
         obtain ⟨x1,x2,x3,x4,x5,x6,x7⟩:=uh HX
         have h:=uh HL3
         have hr:=uh HR3
         refine uh hD0 _ _ (uh hr') ⟨gC,gE,gI,cC,cE,cI,rfl,x1,x2,x3,x4,x5,x6,x7,⟨h.cells.others (hr.type_ne h.cells (by decide)) _ _,h.ents.others (hr.type_ne h.ents (by decide)) _ _,h.items.others (hr.type_ne h.items (by decide)) _ _⟩,own_sets (uh HPl) vs 0 w3 (uh HG3)⟩
        obtain ⟨b0,b1,b2,b3,b4,b5,b6,b7,b8,b9,b10⟩:=(uh hB3).eleven
        clear HX HL3 HR3 HG3 hB3 hD0 hD1 hr' hby
        go_wp2
        refine bodyPost_ret (v:=.tuple #[.agg (Gd.world sF gC gE gI cC cE cI gF),.int .i64 0]) (by simp [results,Tryz.results20,go_sem,Gd.world,z0,z1,z2,z3,z4,z5,z6,z7,z8,z9,z10]) rfl ?_
        exact uh hfo [_,_,_,_,_,_,_,_,_,_,_]
       ·have h0':(r != 0)=true:=by simp [h0]
        have hfo:Hid (∀vs,D (.returned (.tuple #[.agg Sn.void,.int .i64 r])) (w3.setCells P 0 vs)):=fun vs=>uh hD1 r _ (uh hr') h0 (own_sets (uh HPl) vs 0 w3 (uh HG3))
        clear HX HL3 HR3 HG3 hB3 hD0 hD1 hr' h0 hby
        go_wp2
        refine bodyPost_ret (v:=.tuple #[.agg Sn.void,.int .i64 r]) (by simp [results,Tryz.results20,go_sem,Sn.void,z0,z1,z2,z3,z4,z5,z6,z7,z8,z9,z10]) rfl ?_
        exact uh hfo [_,_,_,_,_,_,_,_,_,_,_]


open Go.RowKit

def Sn.Rds (l:List Int) (r:Int):Prop :=
 if l.length<918 then r=7 else if l.length=918 then Sn.Chk (Sn.rs (Sn.fn l)) (Sn.rg (Sn.fn l)) (Sn.rc (Sn.fn l)) (Sn.rE (Sn.fn l)) (Sn.rI (Sn.fn l)) r else r=8

theorem Sn.Rds.one {l:List Int} {r r':Int} (h:Sn.Rds l r) (h':Sn.Rds l r'):r=r':=by
 unfold Sn.Rds at h h'
 split at h
 ·rename_i h1
  rw [if_pos h1] at h'
  omega
 ·rename_i h1
  rw [if_neg h1] at h'
  split at h
  ·rename_i h2
   rw [if_pos h2] at h'
   exact h'.one h
  ·rename_i h2
   rw [if_neg h2] at h'
   omega

def Sn.Reads (w:World) (l:List Int) (e:Ending) (w':World):Prop :=
 ∃r,Sn.Rds l r∧((r≠0∧e=.returned (.tuple #[.agg Sn.void,.int .i64 r])∧w.grownBy w' none) ∨
  (r=0∧l.length=918∧∃v,e=.returned (.tuple #[v,.int .i64 0])∧Gd.Worlds w (Sn.rs (Sn.fn l)) (Sn.rg (Sn.fn l)) (Sn.rc (Sn.fn l)) (Sn.rE (Sn.fn l)) (Sn.rI (Sn.fn l)) (.returned v) w'))

theorem Sn.reads_short {w w':World} {l:List Int} {n:Nat} {e:Ending} (hl:l.length=n) (hn:n≠918) (h:e=.returned (.tuple #[.agg Sn.void,.int .i64 (if n<918 then 7 else 8)])∧w.grownBy w' none):Sn.Reads w l e w':=by
 obtain ⟨rfl,hg⟩:=h
 refine ⟨if n<918 then 7 else 8,?_,.inl ⟨by split <;> decide,rfl,hg⟩⟩
 unfold Sn.Rds
 rw [hl]
 split
 ·rfl
 ·first | rfl | rw [if_neg hn]

theorem Sn.reads_all {w w':World} {l:List Int} {e:Ending} (hl:l.length=918) (h:Sn.Decodes w (Sn.rs (Sn.fn l)) (Sn.rg (Sn.fn l)) (Sn.rc (Sn.fn l)) (Sn.rE (Sn.fn l)) (Sn.rI (Sn.fn l)) e w'):Sn.Reads w l e w':=by
 obtain ⟨r,hr,h⟩:=h
 refine ⟨r,?_,?_⟩
 ·unfold Sn.Rds
  rw [if_neg (by omega),if_pos hl]
  exact hr
 ·rcases h with ⟨h1,h2,h3⟩ | ⟨h1,h2⟩
  ·exact .inl ⟨h1,h2,h3⟩
  ·exact .inr ⟨h1,hl,h2⟩

section
variable {w x:World} {G n cap:Nat} {l:List Int}

theorem Sn.Buf.reads (h:Sn.Buf w x G n cap l):Calls Tryz.prog 17 #[.slice (some ⟨G,0,none⟩) n cap] x (Sn.Reads x l):=by
 by_cases hn:n=918
 ·subst hn
  have hc:=h.caps
  exact (decode_any G cap (Sn.fn l) _ _ _ _ _ x h.world hc.1 hc.2 (fun _ _=>rfl) (fun _ _=>rfl) (fun _ _=>rfl) (fun _ _ _ _=>rfl) (fun _ _ _ _=>rfl) (fun i=>h.world.byte _)).mono fun e w' q=>Sn.reads_all h.len q
 ·exact (decode_short _ n cap x hn).mono fun e w' q=>Sn.reads_short h.len hn q

theorem Sn.Buf.refReads (h:Sn.Buf w x G n cap l):Calls Tryz.prog 20 #[.slice (some ⟨G,0,none⟩) n cap] x (Sn.Reads x l):=by
 by_cases hn:n=918
 ·subst hn
  have hc:=h.caps
  exact (refDecode_any G cap (Sn.fn l) x h.world hc.1 hc.2).mono fun e w' q=>Sn.reads_all h.len q
 ·exact (refDecode_short _ n cap x hn).mono fun e w' q=>Sn.reads_short h.len hn q

theorem Sn.Buf.copied {z:World} {v':Value} {o:Obj} (h:Sn.Buf w x G n cap l) (hn:0<n) (hown:z.ownsRow w.heap.size 5 1 v' l.length (Ck.bys l)) (hg:(x.alloc o).grownBy z (some x.heap.size)):∃g c,v'=.slice (some ⟨g,0,none⟩) n c∧Sn.Buf w z g n c l∧Sn.Buf w z G n cap l:=by
 have hl:=h.len
 rw [hl] at hown
 have hx:x.grownBy z none:=gow (World.grownBy_alloc x o none) hg (fun k e=>by cases e;exact Nat.le_refl _)
 rcases hown.2 with ⟨_,e⟩ | ⟨g,c,cur,e,_⟩
 ·omega
 ·exact ⟨g,c,e,⟨by rw [←e];exact hown,h.byte,gtr h.grown hx⟩,h.on hx⟩

end

theorem Sn.voids_lie (x:World):Lie (x.alloc (.cells #[.int .i64 0,.int .i64 0,.int .i64 0,.int .i64 0,.slice none 0 0,.slice none 0 0,.slice none 0 0,.int .i64 0,.int .i64 0,.int .i64 0,.int .i64 0] 31)) x.heap.size 31 11 Sn.voids:=by
 refine (Arr.lit (heap_alloc_new x _)).lie.congr fun j hj=>?_
 have hj':j<11:=hj
 rcases (show j=0∨j=1∨j=2∨j=3∨j=4∨j=5∨j=6∨j=7∨j=8∨j=9∨j=10 by omega) with rfl | rfl | rfl | rfl | rfl | rfl | rfl | rfl | rfl | rfl | rfl <;> rfl

theorem Sn.voids_cells {x:World} {R:Nat} (h:Lie x R 31 11 Sn.voids) :
  x.cell? ⟨R,0,none⟩=some (.int .i64 0)∧x.cell? ⟨R,1,none⟩=some (.int .i64 0)∧x.cell? ⟨R,2,none⟩=some (.int .i64 0)∧x.cell? ⟨R,3,none⟩=some (.int .i64 0)∧x.cell? ⟨R,4,none⟩=some (.slice none 0 0)∧x.cell? ⟨R,5,none⟩=some (.slice none 0 0)∧x.cell? ⟨R,6,none⟩=some (.slice none 0 0)∧x.cell? ⟨R,7,none⟩=some (.int .i64 0)∧x.cell? ⟨R,8,none⟩=some (.int .i64 0)∧x.cell? ⟨R,9,none⟩=some (.int .i64 0)∧x.cell? ⟨R,10,none⟩=some (.int .i64 0) :=
 ⟨h.cell (by omega),h.cell (by omega),h.cell (by omega),h.cell (by omega),h.cell (by omega),h.cell (by omega),h.cell (by omega),h.cell (by omega),h.cell (by omega),h.cell (by omega),h.cell (by omega)⟩

theorem Sn.written_back {w x:World} {l:List Int} {gC gE gI cC cE cI:Nat} (hl:l.length=918) (hb:∀b∈l,0≤b∧b≤255) (h0:Sn.Rds l 0) (hL:Gd.Lists x gC gE gI (Sn.rc (Sn.fn l)) (Sn.rE (Sn.fn l)) (Sn.rI (Sn.fn l))) (hc:∀i,0≤Sn.rc (Sn.fn l) i∧Sn.rc (Sn.fn l) i≤255) (hcE:32≤cE) (hg:w.grownBy x none) :
  Calls Tryz.prog 8 #[.agg (Gd.world (Sn.rs (Sn.fn l)) gC gE gI cC cE cI (Sn.rg (Sn.fn l)))] x fun e z=>∃g c,e=.returned (.tuple #[.slice (some ⟨g,0,none⟩) 918 c,.int .i64 0])∧Sn.Buf w z g 918 c l∧x.grownBy z none:=by
 refine (encode_any _ _ _ _ _ gC gE gI cC cE cI x hL hc hcE).mono ?_
 rintro e z ⟨v,r,rfl,hr,-,hown,hg2⟩
 unfold Sn.Rds at h0
 rw [if_neg (by omega),if_pos hl] at h0
 obtain rfl:r=0:=h0.one hr
 have hB:=hown rfl
 rw [Sn.forth hl hb] at hB
 obtain ⟨g,c,rfl,hbuf⟩:=Sn.Bytes.buf (w:=w) hB hb (by omega) hg.size (gtr hg hg2)
 rw [hl] at hbuf ⊢
 exact ⟨g,c,rfl,hbuf,hg2⟩

end Go.Proofs.YtepppmepilffcaaGreat
