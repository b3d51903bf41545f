import Derived.Test.YtldgbkjceildfaaGreatBy29
import Derived.Test.YtldgbkjceildfaaGreatBy30
namespace Go.Proofs.YtldgbkjceildfaaGreat
open Go.RowKit

theorem Sn.row_off {x:World} {k base n m z:Nat} {T U:TypeId} {F:Nat→Value} {v:Value} {xs:List Value} (hl:Lie x k T m F) (ho:x.ownsRow base U z v n xs) (hT:T≠U):v.ownBlock≠some k:=by
 intro e
 rcases ho.2 with ⟨rfl,_⟩ | ⟨g,cap,cur,rfl,_,hc,_⟩
 ·cases e
 ·simp [Value.ownBlock] at e
  subst e
  obtain ⟨M,K,⟨cur',hc',_⟩,_⟩:=hl
  rw [hc] at hc'
  simp only [Option.some.injEq,Obj.cells.injEq] at hc'
  exact hT hc'.2.1.symm

theorem Sn.rows_off {x:World} {b b' n m z z':Nat} {T U:TypeId} {v u:Value} {xs ys:List Value} (hv:x.ownsRow b T z v n xs) (hu:x.ownsRow b' U z' u m ys) (hT:T≠U):v.ownBlock=none∨v.ownBlock≠u.ownBlock:=by
 rcases hv.2 with ⟨rfl,_⟩ | ⟨g,cap,cur,rfl,_,hc,_⟩
 ·exact .inl rfl
 ·refine .inr fun e=>?_
  rcases hu.2 with ⟨rfl,_⟩ | ⟨g',cap',cur',rfl,_,hc',_⟩
  ·cases e
  ·simp [Value.ownBlock] at e
   subst e
   rw [hc] at hc'
   simp only [Option.some.injEq,Obj.cells.injEq] at hc'
   exact hT hc'.2.1

def Sn.voids (j:Nat):Value:=if j=4∨j=5∨j=6 then .slice none 0 0 else .int .i64 0

def Sn.part (F:Nat→Int) (t:Nat) (vC vE vI:Value) (j:Nat):Value :=
 if j<4 then .int .i64 (Sn.rs F j) else if j=4 then vC else if j=5 then vE else if j=6 then vI else .int .i64 (if j - 7<t then Sn.rg F (j - 7) else 0)

structure Sn.Dcd (w x:World) (P W G o:Nat) (F:Nat→Int) (t nC nE nI:Nat) (vC vE vI:Value):Prop where
 res:Lie x P 30 11 Sn.voids
 box:Lie x W 30 11 (Sn.part F t vC vE vI)
 src:Sn.Src x G o F
 cells:x.ownsRow w.heap.size 5 1 vC nC (Gd.list (nC*1) (Byts (Sn.rc F)))
 ents:x.ownsRow w.heap.size 70 11 vE nE (Gd.list (nE*11) (En.flat (Sn.rE F)))
 items:x.ownsRow w.heap.size 72 4 vI nI (Gd.list (nI*4) (Gd.flat (Sn.rI F)))
 lP:w.heap.size≤P
 lW:w.heap.size≤W
 lG:G<w.heap.size
 pW:P≠W
 grown:w.grownBy x none

section
variable {w x y z:World} {P W G o:Nat} {F:Nat→Int} {t nC nE nI:Nat} {vC vE vI:Value}

theorem Sn.Dcd.on (h:Sn.Dcd w x P W G o F t nC nE nI vC vE vI) (hg:x.grownBy y none):Sn.Dcd w y P W G o F t nC nE nI vC vE vI :=
 { h with res:=h.res.on hg,box:=h.box.on hg,src:=h.src.on hg (by simp),cells:=h.cells.kept hg (by cases vC.ownBlock <;> simp),ents:=h.ents.kept hg (by cases vE.ownBlock <;> simp),items:=h.items.kept hg (by cases vI.ownBlock <;> simp),grown:=gtr h.grown hg }

theorem Sn.Dcd.field (h:Sn.Dcd w x P W G o F t nC nE nI vC vE vI) (i:Nat) (u:Value) {t':Nat} {uC uE uI:Value} (hu:∀j,j<11→(if j=i then u else Sn.part F t vC vE vI j)=Sn.part F t' uC uE uI j) :
  Lie (x.setCell ⟨W,i,none⟩ u) P 30 11 Sn.voids∧Lie (x.setCell ⟨W,i,none⟩ u) W 30 11 (Sn.part F t' uC uE uI)∧Sn.Src (x.setCell ⟨W,i,none⟩ u) G o F∧w.grownBy (x.setCell ⟨W,i,none⟩ u) none:=by
 have h1:=h.lW
 have h2:=h.lG
 exact ⟨h.res.other h.pW.symm _ _,(h.box.store i u).congr hu,h.src.set (by omega) _ _,gsr h.grown ⟨W,i,none⟩ h.lW u⟩

theorem Sn.row_set {T:TypeId} {b n s:Nat} {v:Value} {xs:List Value} {K:Nat→Value} (hb:Lie x W 30 11 K) (h:x.ownsRow b T s v n xs) (hT:T≠30) (i:Nat) (u:Value):(x.setCell ⟨W,i,none⟩ u).ownsRow b T s v n xs :=
 h.kept (gs0 x W i u) (.inr (Sn.row_off hb h hT.symm))

theorem Sn.Dcd.gold (h:Sn.Dcd w x P W G o F t nC nE nI vC vE vI) (ht:t<4):Sn.Dcd w (x.setCell ⟨W,7+t,none⟩ (.int .i64 (Sn.rg F t))) P W G o F (t+1) nC nE nI vC vE vI:=by
 obtain ⟨a,b,c,d⟩:=h.field (7+t) (.int .i64 (Sn.rg F t)) (t':=t+1) (uC:=vC) (uE:=vE) (uI:=vI) (fun j hj=>by
  unfold Sn.part
  by_cases e:j=7+t
  ·subst e
   rw [if_pos rfl,if_neg (by omega),if_neg (by omega),if_neg (by omega),if_neg (by omega),show 7+t - 7=t by omega,if_pos (by omega)]
  ·rw [if_neg e]
   by_cases e4:j<4
   ·rw [if_pos e4,if_pos e4]
   ·rw [if_neg e4,if_neg e4]
    by_cases e5:j - 7<t
    ·rw [if_pos e5,if_pos (show j - 7<t+1 by omega)]
    ·by_cases e6:7≤j
     ·rw [if_neg e5,if_neg (show ¬j - 7<t+1 by omega)]
     ·rcases (show j=4∨j=5∨j=6 by omega) with rfl | rfl | rfl <;> rfl)
 exact { h with res:=a,box:=b,src:=c,grown:=d,cells:=Sn.row_set h.box h.cells (by decide) _ _,ents:=Sn.row_set h.box h.ents (by decide) _ _,items:=Sn.row_set h.box h.items (by decide) _ _ }

theorem Sn.Dcd.keep {r:Option Nat} (h:Sn.Dcd w x P W G o F t nC nE nI vC vE vI) (hg:x.grownBy z r) (hr:∀k,r=some k→w.heap.size≤k) (hP:r≠some P) (hW:r≠some W):Lie z P 30 11 Sn.voids∧Lie z W 30 11 (Sn.part F t vC vE vI)∧Sn.Src z G o F∧w.grownBy z none:=by
 have h2:=h.lG
 exact ⟨h.res.grown hg hP,h.box.grown hg hW,h.src.on hg (fun e=>by have:=hr G e;omega),gow h.grown hg hr⟩

theorem Sn.more {n m:Nat} {K:Nat→Value} {l:List Value} (hl:l.length=m) (h:∀j,j<m→l[j]?=some (K (n*m+j))):Gd.list (n*m) K ++ l=Gd.list ((n+1)*m) K:=by
 refine List.ext_getElem? fun j=>?_
 by_cases h1:j<n*m
 ·rw [List.getElem?_append_left (by rw [Gd.list_len];exact h1),Gd.list_at h1,Gd.list_at (by rw [Nat.succ_mul];omega)]
 ·rw [List.getElem?_append_right (by rw [Gd.list_len];omega),Gd.list_len]
  by_cases h2:j<(n+1)*m
  ·rw [Gd.list_at h2]
   rw [Nat.succ_mul] at h2
   rw [h (j - n*m) (by omega),show n*m+(j - n*m)=j by omega]
  ·rw [Nat.succ_mul] at h2
   rw [List.getElem?_eq_none (by omega),List.getElem?_eq_none (by rw [Gd.list_len,Nat.succ_mul];omega)]

theorem Sn.Dcd.ent {v':Value} {l:List Value} (h:Sn.Dcd w x P W G o F t nC nE nI vC vE vI) (hxy:x.grownBy y none) (hown:z.ownsRow w.heap.size 70 11 v' (nE+1) (Gd.list (nE*11) (En.flat (Sn.rE F)) ++ l)) (hl:Gd.list (nE*11) (En.flat (Sn.rE F)) ++ l=Gd.list ((nE+1)*11) (En.flat (Sn.rE F))) (hg:y.grownBy z vE.ownBlock) :
  Sn.Dcd w (z.setCell ⟨W,5,none⟩ v') P W G o F t nC (nE+1) nI vC v' vI:=by
 have hy:=h.on hxy
 rw [hl] at hown
 obtain ⟨a,b,c,d⟩:=hy.keep hg (fun k e=>(hy.ents.lt k e).1) (Sn.row_off hy.res hy.ents (by decide)) (Sn.row_off hy.box hy.ents (by decide))
 have h1:=h.lW
 have h2:=h.lG
 refine { h with res:=a.other h.pW.symm _ _,box:=(b.store 5 v').congr (fun j hj=>?_),src:=c.set (by omega) _ _,grown:=gsr d ⟨W,5,none⟩ h.lW v',cells:=?_,ents:=?_,items:=?_ }
 ·unfold Sn.part
  by_cases e:j=5
  ·subst e
   rfl
  ·rw [if_neg e,if_neg e,if_neg e]
 ·exact Sn.row_set b (hy.cells.kept hg (Sn.rows_off hy.cells hy.ents (by decide))) (by decide) _ _
 ·exact Sn.row_set b hown (by decide) _ _
 ·exact Sn.row_set b (hy.items.kept hg (Sn.rows_off hy.items hy.ents (by decide))) (by decide) _ _

theorem Sn.Dcd.item {v':Value} {l:List Value} (h:Sn.Dcd w x P W G o F t nC nE nI vC vE vI) (hxy:x.grownBy y none) (hown:z.ownsRow w.heap.size 72 4 v' (nI+1) (Gd.list (nI*4) (Gd.flat (Sn.rI F)) ++ l)) (hl:Gd.list (nI*4) (Gd.flat (Sn.rI F)) ++ l=Gd.list ((nI+1)*4) (Gd.flat (Sn.rI F))) (hg:y.grownBy z vI.ownBlock) :
  Sn.Dcd w (z.setCell ⟨W,6,none⟩ v') P W G o F t nC nE (nI+1) vC vE v':=by
 have hy:=h.on hxy
 rw [hl] at hown
 obtain ⟨a,b,c,d⟩:=hy.keep hg (fun k e=>(hy.items.lt k e).1) (Sn.row_off hy.res hy.items (by decide)) (Sn.row_off hy.box hy.items (by decide))
 have h1:=h.lW
 have h2:=h.lG
 refine { h with res:=a.other h.pW.symm _ _,box:=(b.store 6 v').congr (fun j hj=>?_),src:=c.set (by omega) _ _,grown:=gsr d ⟨W,6,none⟩ h.lW v',cells:=?_,ents:=?_,items:=?_ }
 ·unfold Sn.part
  by_cases e:j=6
  ·subst e
   rfl
  ·rw [if_neg e,if_neg e,if_neg e]
 ·exact Sn.row_set b (hy.cells.kept hg (Sn.rows_off hy.cells hy.items (by decide))) (by decide) _ _
 ·exact Sn.row_set b (hy.ents.kept hg (Sn.rows_off hy.ents hy.items (by decide))) (by decide) _ _
 ·exact Sn.row_set b hown (by decide) _ _

theorem Sn.Dcd.cell {v':Value} (h:Sn.Dcd w x P W G o F t 0 nE nI vC vE vI) (hxy:x.grownBy y none) (hown:z.ownsRow w.heap.size 5 1 v' 384 (Gd.list (384*1) (Byts (Sn.rc F)))) {u:Value} (hu:y.ownsRow w.heap.size 5 1 u 0 []) (hg:y.grownBy z u.ownBlock) :
  Sn.Dcd w (z.setCell ⟨W,4,none⟩ v') P W G o F t 384 nE nI v' vE vI:=by
 have hy:=h.on hxy
 obtain ⟨a,b,c,d⟩:=hy.keep hg (fun k e=>(hu.lt k e).1) (Sn.row_off hy.res hu (by decide)) (Sn.row_off hy.box hu (by decide))
 have h1:=h.lW
 have h2:=h.lG
 refine { h with res:=a.other h.pW.symm _ _,box:=(b.store 4 v').congr (fun j hj=>?_),src:=c.set (by omega) _ _,grown:=gsr d ⟨W,4,none⟩ h.lW v',cells:=?_,ents:=?_,items:=?_ }
 ·unfold Sn.part
  by_cases e:j=4
  ·subst e
   rfl
  ·rw [if_neg e,if_neg e,if_neg e]
 ·exact Sn.row_set b hown (by decide) _ _
 ·exact Sn.row_set b (hy.ents.kept hg (Sn.rows_off hy.ents hu (by decide))) (by decide) _ _
 ·exact Sn.row_set b (hy.items.kept hg (Sn.rows_off hy.items hu (by decide))) (by decide) _ _

end


open Go.RowKit

set_option maxRecDepth 16000 in
set_option maxHeartbeats 12800000 in
theorem Sn.tests_walk {w:World} {B D F gC gE gI cC cE cI k:Nat} {s g c:Nat→Int} {E I:Nat→Nat→Int} {st:Nat→Int} (h:Sn.Looks w B D F gC gE gI cC cE cI k s g c E I st) (hw:Gr.walkB (Gr.at 384 c (E k 3) (E k 4))=false):Sn.Tests w B D F k true:=by
 have hL:=hide h.lists
 have cA:=hide (fun z (hz:Gd.Lists z gC gE gI c E I)=>refAt_any z.heap.size (some ⟨gC,0,none⟩) 384 cC c (E k 3) (E k 4) z hz.vec h.cells)
 have cK:=hide (fun z=>refWalk_any (Gr.at 384 c (E k 3) (E k 4)) z)
 rw [hw] at cK
 obtain ⟨at_,hat⟩:∃a,Gr.at 384 c (E k 3) (E k 4)=a:=⟨_,rfl⟩
 rw [hat] at cA cK
 have b4:=h.box.eleven.2.2.2.2.1
 obtain ⟨-,-,-,d3,d4,-,-,-,-,-,-⟩:=Sn.row h.ent
 clear hw hat
 clear h
 unfold Sn.Tests
 intros
 rename_i hQ
 have HQ:=hide hQ
 clear hQ
 conv=>arg 2;whnf
 dsimp only [List.append]
 go_quiet (first | (go_at_call 45;refine Calls.quiet_of_same (uh cA _ ?_);exact (uh hL).on (gdw (World.grownBy.refl _ none) _)) | (go_at_call 75;exact Calls.quiet_of_same (uh cK _)) | fail)
 exact uh HQ _ _ _ _ _ _ _ _ _ _ _ _ _ _ _ _ _ _ _ _ _ _ _ _ _ _ _ _ _ _ _ _ _ _ _ _ _ _ _ _ _ _ _ _ _ _ _ _ _ _ _ _ _ _ _ _ _ _ _ _ _ _ _ _ _ _ _ _ _ _ _ _ _ nq

set_option maxRecDepth 16000 in
set_option maxHeartbeats 12800000 in
theorem Sn.tests_one {w:World} {B D F gC gE gI cC cE cI k:Nat} {s g c:Nat→Int} {E I:Nat→Nat→Int} {st:Nat→Int} (h:Sn.Looks w B D F gC gE gI cC cE cI k s g c E I st) (hw:Gr.walkB (Gr.at 384 c (E k 3) (E k 4))=true) {f:Int} (hf:En.first (En.atQ E (E k 3) (E k 4)) k=f) (f0:f≥0):Sn.Tests w B D F k true:=by
 have hL:=hide h.lists
 have cA:=hide (fun z (hz:Gd.Lists z gC gE gI c E I)=>refAt_any z.heap.size (some ⟨gC,0,none⟩) 384 cC c (E k 3) (E k 4) z hz.vec h.cells)
 have cK:=hide (fun z=>refWalk_any (Gr.at 384 c (E k 3) (E k 4)) z)
 rw [hw] at cK
 obtain ⟨at_,hat⟩:∃a,Gr.at 384 c (E k 3) (E k 4)=a:=⟨_,rfl⟩
 rw [hat] at cA cK
 have b4:=h.box.eleven.2.2.2.2.1
 have cE':=hide (fun z (hz:Gd.Lists z gC gE gI c E I)=>entRefAt_same gE k cE E (E k 3) (E k 4) z (Sn.front hz.own.ents (by have:=h.row;omega)))
 rw [hf] at cE'
 have b5:=h.box.eleven.2.2.2.2.2.1
 have q7:(k:Int)≤(cE:Int):=by have:=h.cap;have:=h.row;omega
 have q8:¬(k:Int)<0:=by omega
 obtain ⟨-,-,-,d3,d4,-,-,-,-,-,-⟩:=Sn.row h.ent
 clear hw hat hf
 clear h
 unfold Sn.Tests
 intros
 rename_i hQ
 have HQ:=hide hQ
 clear hQ
 conv=>arg 2;whnf
 dsimp only [List.append]
 go_quiet (first | (go_at_call 45;refine Calls.quiet_of_same (uh cA _ ?_);exact (uh hL).on (gdw (World.grownBy.refl _ none) _)) | (go_at_call 75;exact Calls.quiet_of_same (uh cK _)) | (go_at_call 50;refine Calls.quiet_of_same (uh cE' _ ?_);exact (uh hL).on (gdw (World.grownBy.refl _ none) _)) | fail)
 exact uh HQ _ _ _ _ _ _ _ _ _ _ _ _ _ _ _ _ _ _ _ _ _ _ _ _ _ _ _ _ _ _ _ _ _ _ _ _ _ _ _ _ _ _ _ _ _ _ _ _ _ _ _ _ _ _ _ _ _ _ _ _ _ _ _ _ _ _ _ _ _ _ _ _ _ nq

set_option maxRecDepth 16000 in
set_option maxHeartbeats 12800000 in
theorem Sn.tests_hp1 {w:World} {B D F gC gE gI cC cE cI k:Nat} {s g c:Nat→Int} {E I:Nat→Nat→Int} {st:Nat→Int} (h:Sn.Looks w B D F gC gE gI cC cE cI k s g c E I st) (hw:Gr.walkB (Gr.at 384 c (E k 3) (E k 4))=true) {f:Int} (hf:En.first (En.atQ E (E k 3) (E k 4)) k=f) (f0:¬f≥0) (m0:E k 5<1):Sn.Tests w B D F k true:=by
 have hL:=hide h.lists
 have cA:=hide (fun z (hz:Gd.Lists z gC gE gI c E I)=>refAt_any z.heap.size (some ⟨gC,0,none⟩) 384 cC c (E k 3) (E k 4) z hz.vec h.cells)
 have cK:=hide (fun z=>refWalk_any (Gr.at 384 c (E k 3) (E k 4)) z)
 rw [hw] at cK
 obtain ⟨at_,hat⟩:∃a,Gr.at 384 c (E k 3) (E k 4)=a:=⟨_,rfl⟩
 rw [hat] at cA cK
 have b4:=h.box.eleven.2.2.2.2.1
 have cE':=hide (fun z (hz:Gd.Lists z gC gE gI c E I)=>entRefAt_same gE k cE E (E k 3) (E k 4) z (Sn.front hz.own.ents (by have:=h.row;omega)))
 rw [hf] at cE'
 have b5:=h.box.eleven.2.2.2.2.2.1
 have q7:(k:Int)≤(cE:Int):=by have:=h.cap;have:=h.row;omega
 have q8:¬(k:Int)<0:=by omega
 obtain ⟨-,-,-,d3,d4,d5,-,-,-,-,-⟩:=Sn.row h.ent
 clear hw hat hf
 clear h
 unfold Sn.Tests
 intros
 rename_i hQ
 have HQ:=hide hQ
 clear hQ
 conv=>arg 2;whnf
 dsimp only [List.append]
 go_quiet (first | (go_at_call 45;refine Calls.quiet_of_same (uh cA _ ?_);exact (uh hL).on (gdw (World.grownBy.refl _ none) _)) | (go_at_call 75;exact Calls.quiet_of_same (uh cK _)) | (go_at_call 50;refine Calls.quiet_of_same (uh cE' _ ?_);exact (uh hL).on (gdw (World.grownBy.refl _ none) _)) | fail)
 exact uh HQ _ _ _ _ _ _ _ _ _ _ _ _ _ _ _ _ _ _ _ _ _ _ _ _ _ _ _ _ _ _ _ _ _ _ _ _ _ _ _ _ _ _ _ _ _ _ _ _ _ _ _ _ _ _ _ _ _ _ _ _ _ _ _ _ _ _ _ _ _ _ _ _ _ nq

end Go.Proofs.YtldgbkjceildfaaGreat
