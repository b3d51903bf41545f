import Derived.Test.YtldgbkjceildfaaGreatBy26
namespace Go.Proofs.YtldgbkjceildfaaGreat
open Go.RowKit

set_option maxRecDepth 8000 in
set_option maxHeartbeats 1600000 in
theorem refGet_any (G o cap k n:Nat) (F:Nat→Int) (w:World) (hS:Sn.Src w G o F) (h8:n≤8) (hn:k+n≤918) :
  Calls Tryz.prog 29 #[.slice (some ⟨G,o,none⟩) 918 cap,.int .i64 (k:Int),.int .i64 (n:Int)] w fun e w'=>e=.returned (.int .u64 (Sn.be (Sn.cut F k n)))∧w'=w:=by
 have hS':=hide hS;have H8:=hide h8;have HN:=hide hn;clear hS h8 hn;go_enter Tryz.func29,Tryz.ntmps29;go_wp2_with fail
 go_loop [7,8] (fun v7 v8=>∃i:Nat,i≤n∧v7=.int .u64 (Sn.be (Sn.cut F k i))∧v8=.int .i64 (i:Int)) (fun _ v8=>20 - (intOf v8).toNat)
 case atStart=>exact ⟨0,by omega,rfl,rfl⟩
 case round =>
  obtain ⟨i,hi,rfl,rfl⟩:=hrel;by_cases hlt:i<n
  ·have hlt':(i:Int)<(n:Int):=by omega
   have HL:=hide hlt;have hi8:(i:Int)<8:=by have:=uh H8;omega
   have hk9:(k:Int)+(i:Int)<918:=by have:=uh HN;omega
   have hk0:¬(k:Int)+(i:Int)<0:=by omega
   have u0:w.cell? ⟨G,o+(k+i),none⟩=some (.int .u8 (F (k+i))):=(uh hS').cell (k+i) (by have:=uh HN;omega);obtain ⟨v0,v1⟩:=Sn.be_bound i F k (fun j _=>(uh hS').byte _);have v2:Sn.be (Sn.cut F k i)<72057594037927936:=by
    have h7:i≤7:=by have:=uh H8;omega
    have:(256:Int) ^ i≤256 ^ 7:=by
     rcases (show i=0∨i=1∨i=2∨i=3∨i=4∨i=5∨i=6∨i=7 by omega) with rfl|rfl|rfl|rfl|rfl|rfl|rfl|rfl <;> decide
    omega
   have hor:=Sn.or_byte (Sn.be (Sn.cut F k i)) (F (k+i)) v0 v2 ((uh hS').byte _).1 ((uh hS').byte _).2;have hmo:=hide (Sn.be_more (Sn.cut F k i) (F (k+i)));rw [←Sn.cut_more] at hmo;rw [←uh hmo] at hor;have hw:IntKind.u64.wrap (F (k+i))=F (k+i):=by
    rw [Sn.wrap64];have:=(uh hS').byte (k+i);omega
   obtain ⟨X,hX⟩:∃X,Sn.be (Sn.cut F k i)=X:=⟨_,rfl⟩;rw [hX] at hor ⊢;clear hlt hi hX v0 v1 v2 hmo;go_wp2;go_round;case rel=>exact ⟨i+1,by have:=uh HL;omega,rfl,by go_num⟩
   case measure=>simp [intOf];have:=uh HL;have:=uh H8;omega
  ·obtain rfl:i=n:=by omega
   have hge:¬(i:Int)<(i:Int):=by omega
   clear hlt hi;go_wp2;go_ret;exact ⟨rfl,rfl⟩


open Go.RowKit

theorem Sn.row_off {x:World} {k base n m z:Nat} {T U:TypeId} {F:Nat→Value} {v:Value} {xs:List Value} (hl:Lie x k T m F) (ho:x.ownsRow base U z v n xs) (hT:T≠U):v.ownBlock≠some k:=by
 intro e;rcases ho.2 with ⟨rfl,_⟩|⟨g,cap,cur,rfl,_,hc,_⟩
 ·cases e
 ·simp [Value.ownBlock] at e;subst e;obtain ⟨M,K,⟨cur',hc',_⟩,_⟩:=hl;rw [hc] at hc';simp only [Option.some.injEq,Obj.cells.injEq] at hc';exact hT hc'.2.1.symm

theorem Sn.rows_off {x:World} {b b' n m z z':Nat} {T U:TypeId} {v u:Value} {xs ys:List Value} (hv:x.ownsRow b T z v n xs) (hu:x.ownsRow b' U z' u m ys) (hT:T≠U):v.ownBlock=none∨v.ownBlock≠u.ownBlock:=by
 rcases hv.2 with ⟨rfl,_⟩|⟨g,cap,cur,rfl,_,hc,_⟩
 ·exact .inl rfl
 ·refine .inr fun e=>?_;rcases hu.2 with ⟨rfl,_⟩|⟨g',cap',cur',rfl,_,hc',_⟩
  ·cases e
  ·simp [Value.ownBlock] at e;subst e;rw [hc] at hc';simp only [Option.some.injEq,Obj.cells.injEq] at hc';exact hT hc'.2.1

def Sn.voids (j:Nat):Value:=if j=4∨j=5∨j=6 then .slice none 0 0 else .int .i64 0

def Sn.part (F:Nat→Int) (t:Nat) (vC vE vI:Value) (j:Nat):Value :=
 if j<4 then .int .i64 (Sn.rs F j) else if j=4 then vC else if j=5 then vE else if j=6 then vI else .int .i64 (if j - 7<t then Sn.rg F (j - 7) else 0)

structure Sn.Dcd (w x:World) (P W G o:Nat) (F:Nat→Int) (t nC nE nI:Nat) (vC vE vI:Value):Prop where
 res:Lie x P 30 11 Sn.voids
 box:Lie x W 30 11 (Sn.part F t vC vE vI)
 src:Sn.Src x G o F
 cells:x.ownsRow w.heap.size 5 1 vC nC (Gd.list (nC*1) (Byts (Sn.rc F)))
 ents:x.ownsRow w.heap.size 70 11 vE nE (Gd.list (nE*11) (En.flat (Sn.rE F)))
 items:x.ownsRow w.heap.size 72 4 vI nI (Gd.list (nI*4) (Gd.flat (Sn.rI F)))
 lP:w.heap.size≤P
 lW:w.heap.size≤W
 lG:G<w.heap.size
 pW:P≠W
 grown:w.grownBy x none

section
variable {w x y z:World} {P W G o:Nat} {F:Nat→Int} {t nC nE nI:Nat} {vC vE vI:Value}

theorem Sn.Dcd.on (h:Sn.Dcd w x P W G o F t nC nE nI vC vE vI) (hg:x.grownBy y none):Sn.Dcd w y P W G o F t nC nE nI vC vE vI :=
 { h with res:=h.res.on hg,box:=h.box.on hg,src:=h.src.on hg (by simp),cells:=h.cells.kept hg (by cases vC.ownBlock <;> simp),ents:=h.ents.kept hg (by cases vE.ownBlock <;> simp),items:=h.items.kept hg (by cases vI.ownBlock <;> simp),grown:=gtr h.grown hg }

theorem Sn.Dcd.field (h:Sn.Dcd w x P W G o F t nC nE nI vC vE vI) (i:Nat) (u:Value) {t':Nat} {uC uE uI:Value} (hu:∀j,j<11→(if j=i then u else Sn.part F t vC vE vI j)=Sn.part F t' uC uE uI j) :
  Lie (x.setCell ⟨W,i,none⟩ u) P 30 11 Sn.voids∧Lie (x.setCell ⟨W,i,none⟩ u) W 30 11 (Sn.part F t' uC uE uI)∧Sn.Src (x.setCell ⟨W,i,none⟩ u) G o F∧w.grownBy (x.setCell ⟨W,i,none⟩ u) none:=by
 have h1:=h.lW;have h2:=h.lG;exact ⟨h.res.other h.pW.symm _ _,(h.box.store i u).congr hu,h.src.set (by omega) _ _,gsr h.grown ⟨W,i,none⟩ h.lW u⟩

theorem Sn.row_set {T:TypeId} {b n s:Nat} {v:Value} {xs:List Value} {K:Nat→Value} (hb:Lie x W 30 11 K) (h:x.ownsRow b T s v n xs) (hT:T≠30) (i:Nat) (u:Value):(x.setCell ⟨W,i,none⟩ u).ownsRow b T s v n xs :=
 h.kept (gs0 x W i u) (.inr (Sn.row_off hb h hT.symm))

theorem Sn.Dcd.gold (h:Sn.Dcd w x P W G o F t nC nE nI vC vE vI) (ht:t<4):Sn.Dcd w (x.setCell ⟨W,7+t,none⟩ (.int .i64 (Sn.rg F t))) P W G o F (t+1) nC nE nI vC vE vI:=by
 obtain ⟨a,b,c,d⟩:=h.field (7+t) (.int .i64 (Sn.rg F t)) (t':=t+1) (uC:=vC) (uE:=vE) (uI:=vI) (fun j hj=>by
  unfold Sn.part;by_cases e:j=7+t
  ·subst e;rw [if_pos rfl,if_neg (by omega),if_neg (by omega),if_neg (by omega),if_neg (by omega),show 7+t - 7=t by omega,if_pos (by omega)]
  ·rw [if_neg e];by_cases e4:j<4
   ·rw [if_pos e4,if_pos e4]
   ·rw [if_neg e4,if_neg e4];by_cases e5:j - 7<t
    ·rw [if_pos e5,if_pos (show j - 7<t+1 by omega)]
    ·by_cases e6:7≤j
     ·rw [if_neg e5,if_neg (show ¬j - 7<t+1 by omega)]
     ·rcases (show j=4∨j=5∨j=6 by omega) with rfl|rfl|rfl <;> rfl)
 exact { h with res:=a,box:=b,src:=c,grown:=d,cells:=Sn.row_set h.box h.cells (by decide) _ _,ents:=Sn.row_set h.box h.ents (by decide) _ _,items:=Sn.row_set h.box h.items (by decide) _ _ }

theorem Sn.Dcd.keep {r:Option Nat} (h:Sn.Dcd w x P W G o F t nC nE nI vC vE vI) (hg:x.grownBy z r) (hr:∀k,r=some k→w.heap.size≤k) (hP:r≠some P) (hW:r≠some W):Lie z P 30 11 Sn.voids∧Lie z W 30 11 (Sn.part F t vC vE vI)∧Sn.Src z G o F∧w.grownBy z none:=by
 have h2:=h.lG;exact ⟨h.res.grown hg hP,h.box.grown hg hW,h.src.on hg (fun e=>by have:=hr G e;omega),gow h.grown hg hr⟩

theorem Sn.more {n m:Nat} {K:Nat→Value} {l:List Value} (hl:l.length=m) (h:∀j,j<m→l[j]?=some (K (n*m+j))):Gd.list (n*m) K ++ l=Gd.list ((n+1)*m) K:=by
 refine List.ext_getElem? fun j=>?_;by_cases h1:j<n*m
 ·rw [List.getElem?_append_left (by rw [Gd.list_len];exact h1),Gd.list_at h1,Gd.list_at (by rw [Nat.succ_mul];omega)]
 ·rw [List.getElem?_append_right (by rw [Gd.list_len];omega),Gd.list_len];by_cases h2:j<(n+1)*m
  ·rw [Gd.list_at h2];rw [Nat.succ_mul] at h2;rw [h (j - n*m) (by omega),show n*m+(j - n*m)=j by omega]
  ·rw [Nat.succ_mul] at h2;rw [List.getElem?_eq_none (by omega),List.getElem?_eq_none (by rw [Gd.list_len,Nat.succ_mul];omega)]

theorem Sn.Dcd.ent {v':Value} {l:List Value} (h:Sn.Dcd w x P W G o F t nC nE nI vC vE vI) (hxy:x.grownBy y none) (hown:z.ownsRow w.heap.size 70 11 v' (nE+1) (Gd.list (nE*11) (En.flat (Sn.rE F)) ++ l)) (hl:Gd.list (nE*11) (En.flat (Sn.rE F)) ++ l=Gd.list ((nE+1)*11) (En.flat (Sn.rE F))) (hg:y.grownBy z vE.ownBlock) :
  Sn.Dcd w (z.setCell ⟨W,5,none⟩ v') P W G o F t nC (nE+1) nI vC v' vI:=by
 have hy:=h.on hxy;rw [hl] at hown;obtain ⟨a,b,c,d⟩:=hy.keep hg (fun k e=>(hy.ents.lt k e).1) (Sn.row_off hy.res hy.ents (by decide)) (Sn.row_off hy.box hy.ents (by decide));have h1:=h.lW;have h2:=h.lG;refine { h with res:=a.other h.pW.symm _ _,box:=(b.store 5 v').congr (fun j hj=>?_),src:=c.set (by omega) _ _,grown:=gsr d ⟨W,5,none⟩ h.lW v',cells:=?_,ents:=?_,items:=?_ }
 ·unfold Sn.part;by_cases e:j=5
  ·subst e;rfl
  ·rw [if_neg e,if_neg e,if_neg e]
 ·exact Sn.row_set b (hy.cells.kept hg (Sn.rows_off hy.cells hy.ents (by decide))) (by decide) _ _
 ·exact Sn.row_set b hown (by decide) _ _
 ·exact Sn.row_set b (hy.items.kept hg (Sn.rows_off hy.items hy.ents (by decide))) (by decide) _ _

theorem Sn.Dcd.item {v':Value} {l:List Value} (h:Sn.Dcd w x P W G o F t nC nE nI vC vE vI) (hxy:x.grownBy y none) (hown:z.ownsRow w.heap.size 72 4 v' (nI+1) (Gd.list (nI*4) (Gd.flat (Sn.rI F)) ++ l)) (hl:Gd.list (nI*4) (Gd.flat (Sn.rI F)) ++ l=Gd.list ((nI+1)*4) (Gd.flat (Sn.rI F))) (hg:y.grownBy z vI.ownBlock) :
  Sn.Dcd w (z.setCell ⟨W,6,none⟩ v') P W G o F t nC nE (nI+1) vC vE v':=by
 have hy:=h.on hxy;rw [hl] at hown;obtain ⟨a,b,c,d⟩:=hy.keep hg (fun k e=>(hy.items.lt k e).1) (Sn.row_off hy.res hy.items (by decide)) (Sn.row_off hy.box hy.items (by decide));have h1:=h.lW;have h2:=h.lG;refine { h with res:=a.other h.pW.symm _ _,box:=(b.store 6 v').congr (fun j hj=>?_),src:=c.set (by omega) _ _,grown:=gsr d ⟨W,6,none⟩ h.lW v',cells:=?_,ents:=?_,items:=?_ }
 ·unfold Sn.part;by_cases e:j=6
  ·subst e;rfl
  ·rw [if_neg e,if_neg e,if_neg e]
 ·exact Sn.row_set b (hy.cells.kept hg (Sn.rows_off hy.cells hy.items (by decide))) (by decide) _ _
 ·exact Sn.row_set b (hy.ents.kept hg (Sn.rows_off hy.ents hy.items (by decide))) (by decide) _ _
 ·exact Sn.row_set b hown (by decide) _ _

theorem Sn.Dcd.cell {v':Value} (h:Sn.Dcd w x P W G o F t 0 nE nI vC vE vI) (hxy:x.grownBy y none) (hown:z.ownsRow w.heap.size 5 1 v' 384 (Gd.list (384*1) (Byts (Sn.rc F)))) {u:Value} (hu:y.ownsRow w.heap.size 5 1 u 0 []) (hg:y.grownBy z u.ownBlock) :
  Sn.Dcd w (z.setCell ⟨W,4,none⟩ v') P W G o F t 384 nE nI v' vE vI:=by
 have hy:=h.on hxy;obtain ⟨a,b,c,d⟩:=hy.keep hg (fun k e=>(hu.lt k e).1) (Sn.row_off hy.res hu (by decide)) (Sn.row_off hy.box hu (by decide));have h1:=h.lW;have h2:=h.lG;refine { h with res:=a.other h.pW.symm _ _,box:=(b.store 4 v').congr (fun j hj=>?_),src:=c.set (by omega) _ _,grown:=gsr d ⟨W,4,none⟩ h.lW v',cells:=?_,ents:=?_,items:=?_ }
 ·unfold Sn.part;by_cases e:j=4
  ·subst e;rfl
  ·rw [if_neg e,if_neg e,if_neg e]
 ·exact Sn.row_set b hown (by decide) _ _
 ·exact Sn.row_set b (hy.ents.kept hg (Sn.rows_off hy.ents hu (by decide))) (by decide) _ _
 ·exact Sn.row_set b (hy.items.kept hg (Sn.rows_off hy.items hu (by decide))) (by decide) _ _

end

end Go.Proofs.YtldgbkjceildfaaGreat

namespace Go.Proofs.YtldgbkjceildfaaGreat

def YieldsCall (P:Program) (ops:Array Oper) (S:World→Prop) (o:Oper) (v:Value) (a:Act):Prop :=
 Region.wanted o (yielded ops a.tmps)=true∧∀w,S w→∃f args,(execOp a.eval o).run P w=.ok (.enter f args) w∧Calls P f args w fun e w'=>e=.returned v∧w'=w

theorem YieldsCall.of_same {P:Program} {ops:Array Oper} {S:World→Prop} {o:Oper} {v:Value} {a a':Act} (hy:YieldsCall P ops S o v a) (he:execOp a'.eval o=execOp a.eval o)
  (hw:Region.wanted o (yielded ops a'.tmps)=Region.wanted o (yielded ops a.tmps)):YieldsCall P ops S o v a':=by
 unfold YieldsCall at *
 rw [he,hw];exact hy

theorem YieldsCall.wpOp {P:Program} {ops:Array Oper} {Q:Exit→Act→World→Prop} {S:World→Prop} {i:Nat} {o:Oper} {v:Value} {a:Act} (hi:ops[i]?=some o) (hy:YieldsCall P ops S o v a)
  {K:Act→World→Prop} {w:World} (hS:S w) (h:K (a.put o.dst v) w):wpOp P ops Q i K a w:=by
 obtain ⟨hw,hv⟩:=hy;obtain ⟨f,args,hr,hc⟩:=hv w hS;unfold Go.wpOp;simp only [hi,hw,if_true];refine .inl ?_;unfold Oper.wp;rw [hr];refine Calls.mono hc fun e w' he=>?_;obtain ⟨rfl,rfl⟩:=he;exact h

theorem wpOp_frame {P:Program} {ops:Array Oper} {Q:Exit→Act→World→Prop} {j:Nat} {oj:Oper} (hj:ops[j]?=some oj) {K:Act→World→Prop} {a:Act} {w:World} (h:wpOp P ops Q j K a w) :
  wpOp P ops Q j (fun b x=>(∃ds u,b=({ a with defers:=ds }:Act).put oj.dst u)∧K b x) a w:=by
 have one:∀u,∃ds u',a.put oj.dst u=({ a with defers:=ds }:Act).put oj.dst u':=fun u=>⟨a.defers,u,rfl⟩;unfold wpOp at h ⊢;simp only [hj] at h ⊢;by_cases hw:Region.wanted oj (yielded ops a.tmps)=true
 ·rw [if_pos hw] at h ⊢;refine h.imp (fun h=>?_) id;unfold Oper.wp at h ⊢;cases hr:(execOp a.eval oj).run P w with
  | halt x y =>
   rw [hr] at h;cases x <;> exact h
  | ok n y =>
   rw [hr] at h;cases n with
   | value u=>exact ⟨one u,h⟩
   | skip=>exact ⟨one _,h⟩
   | defer d=>exact ⟨⟨d :: a.defers,undef,rfl⟩,h⟩
   | enter f args=>exact Calls.mono h fun e z he=>by cases e <;> first | exact ⟨one _,he⟩ | exact he
   | row r args=>exact Rows.mono h fun u z he=>⟨one u,he⟩
   | _=>exact h
 ·rw [if_neg hw] at h ⊢;exact ⟨one _,h⟩

theorem wpOp_putCall {P:Program} {ops:Array Oper} {Q:Exit→Act→World→Prop} {S:World→Prop} {j:Nat} {oi oj:Oper} {v:Value} (hj:ops[j]?=some oj) (hap:oi.apart ops oj=true)
  (hsi:∀cs b,oi.op≠.select cs b) (hsj:∀cs b,oj.op≠.select cs b)
  (hQ:∀c a w,Q (.panic c) (a.put oi.dst v) w→Q (.panic c) a w) {K:Act→World→Prop} {a:Act} {w:World}
  (hy:YieldsCall P ops S oi v a) (h:wpOp P ops Q j K (a.put oi.dst v) w) :
  wpOp P ops Q j (fun b x=>YieldsCall P ops S oi v b∧K (b.put oi.dst v) x) a w:=by
 have h0:YieldsIf P ops (fun _=>False) oi v a:=.inl ⟨hy.1,fun _ q=>q.elim⟩;refine wpOp_mono (fun b x q=>?_) (wpOp_frame hj (wpOp_putIf hj hap hsi hsj hQ h0 h));obtain ⟨⟨ds,u,rfl⟩,_,hK⟩:=q;have h3:=(Oper.apart_spec hap).2.2;have hd:YieldsCall P ops S oi v { a with defers:=ds }:=hy.of_same rfl rfl;exact ⟨hd.of_same (execOp_put oi hsi _ oj.dst u h3) (wanted_put oi _ oj.dst u h3),hK⟩

theorem wpTill_firstCall {P:Program} {ops:Array Oper} {Q:Exit→Act→World→Prop} {md:Region.Mode} {S:World→Prop} {i h:Nat} {oi:Oper} {v:Value} {ch:List Nat} (hi:ops[i]?=some oi) (hsel:∀(j:Nat) (o:Oper) cs b,ops[j]?=some o→o.op≠.select cs b)
    (hQ:∀c a w,Q (.panic c) (a.put oi.dst v) w→Q (.panic c) a w) (hh:h∈ch)
    (hch:∀c∈ch,∀o,ops[c]?=some o→∃e∈o.after,Region.binds md e=true∧(e.on=i∨e.on∈ch)) :
    ∀(n:Nat) (up:Array Bool) (a:Act) (w:World),
      (∀j oj,ops[j]?=some oj→j≠i→up.getD j true=false→(∀e∈oj.after,Region.binds md e=true→e.on≠i)→oi.apart ops oj=true) →
      i∈Region.ready md ops up→(∀c∈ch,up.getD c true=false)→YieldsCall P ops S oi v a→S w →
      wpTill P md ops Q S h n (up.setIfInBounds i true) (a.put oi.dst v) w→wpTill P md ops Q S h (n+1) up a w:=by
  have key:∀(up:Array Bool) (j:Nat),i∈Region.ready md ops up→(∀c∈ch,up.getD c true=false)→j∈Region.ready md ops up→j ∉ ch:=by
    intro up j hr hc hj hm
    obtain ⟨_,oj,hoj,hall⟩:=mem_ready.1 hj
    obtain ⟨e,he,hb,hon⟩:=hch j hm oj hoj
    have h1:=hall e he hb
    have h0:up.getD e.on true=false:=by
      rcases hon with hon|hon
      · rw [hon];exact (mem_ready.1 hr).1
      · exact hc _ hon
    rcases Nat.lt_or_ge e.on up.size with h'|h'
    · simp [h'] at h0 h1;rw [h0] at h1;cases h1
    · simp [Array.getElem?_eq_none h'] at h1
  intro n
  induction n with
  | zero =>
    intro up a w _ hr hc hy hS H
    refine ⟨fun g=>(by rw [g] at hr;cases hr),fun j hj=>?_⟩
    by_cases hji:j=i
    · subst hji;exact hy.wpOp hi hS ⟨fun _=>hS,H⟩
    · have:=ready_mono hj hji
      rw [H.1] at this
      cases this
  | succ n ih =>
    intro up a w hfree hr hc hy hS H
    refine ⟨fun g=>(by rw [g] at hr;cases hr),fun j hj=>?_⟩
    by_cases hji:j=i
    · subst hji;exact hy.wpOp hi hS ⟨fun _=>hS,H⟩
    · have h1:=H.2 j (ready_mono hj hji)
      have hjc:=key up j hr hc hj
      have hic:=key up i hr hc hr
      obtain ⟨hjun,oj,hoj,hall⟩:=mem_ready.1 hj
      have hnot:∀e∈oj.after,Region.binds md e=true→e.on≠i:=fun e he hb heq=>by
        have h1:=hall e he hb
        have h0:=(mem_ready.1 hr).1
        rw [heq] at h1
        rcases Nat.lt_or_ge i up.size with h'|h'
        · simp [h'] at h0 h1;rw [h0] at h1;cases h1
        · simp [Array.getElem?_eq_none h'] at h1
      have h2:=wpOp_putCall hoj (hfree j oj hoj hji hjun hnot) (fun cs b=>hsel i oi cs b hi) (fun cs b=>hsel j oj cs b hoj) hQ hy h1
      have hc':∀c∈ch,(up.setIfInBounds j true).getD c true=false:=fun c hm=>by
        rw [getD_set_ne true (show j≠c from fun e=>hjc (e ▸ hm))]
        exact hc c hm
      have hfree' : ∀ k ok, ops[k]? = some ok → k ≠ i → (up.setIfInBounds j true).getD k true = false →
          (∀e∈ok.after,Region.binds md e=true→e.on≠i)→oi.apart ops ok=true:=fun k ok hk hki hun hno=>by
        refine hfree k ok hk hki ?_ hno
        by_cases hjk:j=k
        · subst hjk;exact hjun
        · rw [getD_set_ne true hjk] at hun;exact hun
      refine wpOp_mono (fun b x h3=>?_) h2
      have hS':S x:=h3.2.1 (by
        rw [getD_set_ne true (show j≠h from fun e=>hjc (e ▸ hh)),getD_set_ne true (show i≠h from fun e=>hic (e ▸ hh))]
        exact hc h hh)
      refine ⟨fun _=>hS',ih (up.setIfInBounds j true) b x hfree' (ready_mono hr (Ne.symm hji)) hc' h3.1 hS' ?_⟩
      rw [Array.setIfInBounds_comm _ _ hji]
      exact h3.2.2

theorem wpTill_call {P:Program} {ops:Array Oper} {Q:Exit→Act→World→Prop} {md:Region.Mode} {S:World→Prop} {i h:Nat} {oi:Oper} {v:Value} {n:Nat} {up:Array Bool} {a:Act} {w:World} (ch:List Nat) (hi:ops[i]?=some oi)
  (hs:Region.noSelect ops=true) (hf:Region.free md ops up i=true) (hr:(Region.ready md ops up).contains i=true) (hw:Region.waits md ops up i h ch=true)
  (hQ:∀c a w,Q (.panic c) (a.put oi.dst v) w→Q (.panic c) a w) (hS:S w) (hy:YieldsCall P ops S oi v a)
  (H:wpTill P md ops Q S h n (up.setIfInBounds i true) (a.put oi.dst v) w):wpTill P md ops Q S h (n+1) up a w:=by
 obtain ⟨hh,hc,hch⟩:=Region.waits_spec hw;exact wpTill_firstCall hi (Region.noSelect_spec hs) hQ hh hch n up a w (Region.free_spec hi hf) (by simpa using hr) hc hy hS H

end Go.Proofs.YtldgbkjceildfaaGreat

namespace Go.Proofs.YtldgbkjceildfaaGreat

def Sv.pad (p:List Int):List Int:=p ++ List.replicate (64 - p.length) 0

theorem Sv.pad_len {p:List Int} (h:p.length≤64):(Sv.pad p).length=64:=by
 unfold Sv.pad;rw [List.length_append,List.length_replicate];omega

def Sv.pc (l:List Int) (k:Nat):List Int:=(l.drop (64*k)).take 64

theorem Sv.pc_len (l:List Int) (k:Nat):(Sv.pc l k).length=min 64 (l.length - 64*k):=by
 unfold Sv.pc;rw [List.length_take,List.length_drop]

def Sv.put (cnt:Nat):Dk.St→Int→List (List Int)→Int × Dk.St
 | s,_,[]=>(0,s)
 | s,a,p :: ps=>if (Dk.wr cnt s a p).1=0 then Sv.put cnt (Dk.wr cnt s a p).2 (a+1) ps else Dk.wr cnt s a p

theorem Sv.put_more (cnt:Nat) (q:List Int):∀(ps:List (List Int)) (s:Dk.St) (a:Int),(Sv.put cnt s a ps).1=0→Sv.put cnt s a (ps ++ [q])=Dk.wr cnt (Sv.put cnt s a ps).2 (a+ps.length) q
 | [],s,a,_=>by
  show (if (Dk.wr cnt s a q).1=0 then ((0:Int),(Dk.wr cnt s a q).2) else Dk.wr cnt s a q)=Dk.wr cnt s (a+0) q;rw [Int.add_zero];split
  ·rename_i h;rw [←h]
  ·rfl
 | p :: ps,s,a,h=>by
  unfold Sv.put at h;show (if (Dk.wr cnt s a p).1=0 then Sv.put cnt (Dk.wr cnt s a p).2 (a+1) (ps ++ [q]) else Dk.wr cnt s a p)=_;by_cases h0:(Dk.wr cnt s a p).1=0
  ·rw [if_pos h0] at h ⊢;rw [Sv.put_more cnt q ps _ _ h];show _=Dk.wr cnt (if (Dk.wr cnt s a p).1=0 then Sv.put cnt (Dk.wr cnt s a p).2 (a+1) ps else Dk.wr cnt s a p).2 (a+((ps.length+1:Nat):Int)) q;rw [if_pos h0,show a+1+(ps.length:Int)=a+((ps.length+1:Nat):Int) by omega]
  ·rw [if_neg h0] at h;exact absurd h h0

theorem Sv.put_stop (cnt:Nat) (qs:List (List Int)):∀(ps:List (List Int)) (s:Dk.St) (a:Int),(Sv.put cnt s a ps).1≠0→Sv.put cnt s a (ps ++ qs)=Sv.put cnt s a ps
 | [],s,a,h=>absurd rfl h
 | p :: ps,s,a,h=>by
  unfold Sv.put at h;show (if (Dk.wr cnt s a p).1=0 then Sv.put cnt (Dk.wr cnt s a p).2 (a+1) (ps ++ qs) else Dk.wr cnt s a p)=(if (Dk.wr cnt s a p).1=0 then Sv.put cnt (Dk.wr cnt s a p).2 (a+1) ps else Dk.wr cnt s a p);by_cases h0:(Dk.wr cnt s a p).1=0
  ·rw [if_pos h0] at h;rw [if_pos h0,if_pos h0,Sv.put_stop cnt qs ps _ _ h]
  ·rw [if_neg h0,if_neg h0]

theorem Sv.wr_is (cnt:Nat) (s:Dk.St) (a:Nat) (p:List Int) (hd:s.dead=false) (ha:a<cnt) (hp:p.length=64) :
  (s.left=0∧Dk.wr cnt s a p=(11,⟨s.f,s.done,0,true⟩))∨(s.left≠0∧Dk.wr cnt s a p=(0,⟨Dk.putF s.f a p,s.done+1,if 0<s.left then s.left - 1 else s.left,false⟩)):=by
 unfold Dk.wr;have hh:Dk.has cnt (a:Int)=true:=by unfold Dk.has;simp;omega
 rw [if_neg (by rw [hd];simp),if_neg (by rw [hh];simp [hp])];by_cases h0:s.left=0
 ·exact .inl ⟨h0,by rw [if_pos h0]⟩
 ·exact .inr ⟨h0,by rw [if_neg h0]⟩

structure Sv.Puts (s:Dk.St) (a:Nat) (ps:List (List Int)) (r:Int × Dk.St):Prop where
 else_:∀m:Int,(m<a∨(a:Int)+ps.length≤m)→r.2.f m=s.f m
 low:s.done≤r.2.done
 high:r.2.done≤s.done+ps.length
 left:r.2.left≤9223372036854775807
 way:(r.1=0∧r.2.dead=false∧(∀i:Nat,i<ps.length→ps[i]?=some (r.2.f ((a:Int)+i)))∧(s.left<0→r.2.left<0))∨(r.1=11∧r.2.dead=true∧0≤s.left)

theorem Sv.puts (cnt:Nat):∀(ps:List (List Int)) (s:Dk.St) (a:Nat),s.dead=false→s.left≤9223372036854775807→a+ps.length≤cnt→(∀p∈ps,p.length=64)→Sv.Puts s a ps (Sv.put cnt s a ps)
 | [],s,a,hd,hl,_,_=>⟨fun _ _=>rfl,Nat.le_refl _,Nat.le_refl _,hl,.inl ⟨rfl,hd,fun i hi=>absurd hi (Nat.not_lt_zero _),fun h=>h⟩⟩
 | p :: ps,s,a,hd,hl,hc,hp=>by
  have hcl:a+(ps.length+1)≤cnt:=hc;unfold Sv.put;rcases Sv.wr_is cnt s a p hd (by omega) (hp p (List.mem_cons_self ..)) with ⟨h0,e⟩|⟨h0,e⟩
  ·rw [e,if_neg (by simp)];exact ⟨fun _ _=>rfl,Nat.le_refl _,Nat.le_add_right _ _,by simp,.inr ⟨rfl,rfl,by rw [h0];exact Int.le_refl _⟩⟩
  ·rw [e,if_pos rfl];simp only;have hl1:(if 0<s.left then s.left - 1 else s.left)≤9223372036854775807:=by split <;> omega
   have h:=Sv.puts cnt ps ⟨Dk.putF s.f a p,s.done+1,if 0<s.left then s.left - 1 else s.left,false⟩ (a+1) rfl hl1 (by omega) (fun q hq=>hp q (List.mem_cons_of_mem _ hq));rw [show (a:Int)+1=((a+1:Nat):Int) by omega];obtain ⟨r,hr⟩:∃r,Sv.put cnt ⟨Dk.putF s.f a p,s.done+1,if 0<s.left then s.left - 1 else s.left,false⟩ ((a+1:Nat):Int) ps=r:=⟨_,rfl⟩;rw [hr] at h ⊢;clear hr;have hlen:((p :: ps).length:Int)=(ps.length:Int)+1:=by simp
   have hlenN:(p :: ps).length=ps.length+1:=rfl;have hlow:s.done+1≤r.2.done:=h.low;have hhigh:r.2.done≤s.done+1+ps.length:=h.high;refine ⟨fun m hm=>?_,by omega,by rw [hlenN];omega,h.left,?_⟩
   ·rw [hlen] at hm;rw [h.else_ m (by omega)];show Dk.putF s.f a p m=s.f m;unfold Dk.putF;rw [if_neg (by omega)]
   ·rcases h.way with ⟨h1,h2,h3,h4⟩|⟨h1,h2,h3⟩
    ·refine .inl ⟨h1,h2,fun i hi=>?_,fun hlt=>h4 (by simp only;rw [if_neg (by omega)];exact hlt)⟩;cases i with
     | zero =>
      rw [h.else_ _ (by omega)];show some p=some (Dk.putF s.f a p (a+((0:Nat):Int)));unfold Dk.putF;rw [if_pos (by omega)]
     | succ i =>
      rw [List.getElem?_cons_succ,h3 i (by omega),show ((a+1:Nat):Int)+(i:Int)=(a:Int)+((i+1:Nat):Int) by omega]
    ·simp only at h3;refine .inr ⟨h1,h2,?_⟩;split at h3 <;> omega

def Sv.cat (f:Int→List Int) (a:Int):Nat→List Int
 | 0=>[]
 | n+1=>Sv.cat f a n ++ f (a+n)

theorem Sv.cat_congr {f g:Int→List Int} {a:Int}:∀{n:Nat},(∀i:Nat,i<n→f (a+i)=g (a+i))→Sv.cat f a n=Sv.cat g a n
 | 0,_=>rfl
 | n+1,h=>by
  unfold Sv.cat;rw [Sv.cat_congr (fun i hi=>h i (by omega)),h n (by omega)]

def Sv.pcs (l:List Int) (c:Nat):List (List Int):=(List.range c).map fun k=>Sv.pad (Sv.pc l k)

theorem Sv.pcs_len (l:List Int) (c:Nat):(Sv.pcs l c).length=c:=by simp [Sv.pcs]

theorem Sv.pcs_each {l:List Int} {c:Nat}:∀p∈Sv.pcs l c,p.length=64:=by
 intro p hp;obtain ⟨k,_,rfl⟩:=List.mem_map.1 hp;exact Sv.pad_len (by rw [Sv.pc_len];omega)

theorem Sv.cat_pcs {l:List Int} {f:Int→List Int} {a:Int}:∀{n c:Nat},n≤c→(∀i:Nat,i<c→(Sv.pcs l c)[i]?=some (f (a+i)))→(Sv.cat f a n).take (min l.length (64*n))=l.take (64*n)
 | 0,c,_,_=>by simp [Sv.cat]
 | n+1,c,hc,h=>by
  have ih:=Sv.cat_pcs (l:=l) (f:=f) (a:=a) (n:=n) (c:=c) (by omega) h;have hf:f (a+n)=Sv.pad (Sv.pc l n):=by
   have q:=h n (by omega);unfold Sv.pcs at q;rw [List.getElem?_map,List.getElem?_range (by omega)] at q;exact (Option.some.inj q).symm
  have h64:∀m,m≤n→(Sv.cat f a m).length=64*m:=by
   intro m;induction m with
   | zero=>intro _;rfl
   | succ m im =>
    intro hm;unfold Sv.cat;have q:=h m (by omega);unfold Sv.pcs at q;rw [List.getElem?_map,List.getElem?_range (by omega)] at q;have q':=(Option.some.inj q).symm;rw [List.length_append,im (by omega),q',Sv.pad_len (by rw [Sv.pc_len];omega)];omega
  have hl:=h64 n (Nat.le_refl _);unfold Sv.cat;rw [hf];by_cases hlt:l.length≤64*n
  ·rw [List.take_append_of_le_length (by omega),Nat.min_eq_left (by omega)];rw [Nat.min_eq_left hlt] at ih;rw [ih,List.take_of_length_le hlt,List.take_of_length_le (by omega)]
  ·rw [List.take_append,hl,List.take_of_length_le (by omega)];rw [Nat.min_eq_right (by omega),List.take_of_length_le (by omega)] at ih;rw [ih];have hp:(Sv.pad (Sv.pc l n)).take (min l.length (64*(n+1)) - 64*n)=Sv.pc l n:=by
    unfold Sv.pad;rw [List.take_append_of_le_length (by rw [Sv.pc_len];omega),List.take_of_length_le (by rw [Sv.pc_len];omega)]
   rw [hp];unfold Sv.pc;rw [Nat.mul_succ,List.take_add]

def Sv.mark (f:Int→List Int):Int:=Sn.fn (f 0) 0
def Sv.at (f:Int→List Int) (a:Int):List Int:=(Sv.cat f a 15).take 919
def Sv.tells (f:Int→List Int):Option (List Int):=if Sv.mark f=1 then some (Sv.at f 1) else if Sv.mark f=20 then some (Sv.at f 20) else none
def Sv.free (f:Int→List Int):Nat:=if Sv.mark f=1 then 20 else 1

theorem Sv.tells_stays {f g:Int→List Int} (h0:g 0=f 0) (h:∀m:Int,(m<Sv.free f∨(Sv.free f:Int)+15≤m)→g m=f m):Sv.tells g=Sv.tells f:=by
 have hm:Sv.mark g=Sv.mark f:=by unfold Sv.mark;rw [h0]
 unfold Sv.tells;rw [hm];unfold Sv.free at h;by_cases h1:Sv.mark f=1
 ·rw [if_pos h1] at h;rw [if_pos h1,if_pos h1];unfold Sv.at;rw [Sv.cat_congr (f:=g) (g:=f) (fun i hi=>h _ (by omega))]
 ·rw [if_neg h1] at h;rw [if_neg h1,if_neg h1];by_cases h2:Sv.mark f=20
  ·rw [if_pos h2,if_pos h2];unfold Sv.at;rw [Sv.cat_congr (f:=g) (g:=f) (fun i hi=>h _ (by omega))]
  ·rw [if_neg h2,if_neg h2]

theorem Sv.tells_new {g:Int→List Int} {l:List Int} {a:Nat} (hl:l.length=919) (ha:a=1∨a=20) (h:∀i:Nat,i<15→(Sv.pcs l 15)[i]?=some (g ((a:Int)+i))) (h0:g 0=Sv.pad [(a:Int)]):Sv.tells g=some l:=by
 have hm:Sv.mark g=(a:Int):=by unfold Sv.mark;rw [h0];rfl
 have hc:Sv.at g a=l:=by
  have q:=Sv.cat_pcs (l:=l) (f:=g) (a:=a) (n:=15) (c:=15) (Nat.le_refl _) h;rw [hl,show min 919 (64*15)=919 by decide,List.take_of_length_le (l:=l) (by omega)] at q;exact q
 unfold Sv.tells;rw [hm];rcases ha with rfl|rfl
 ·rw [if_pos (by omega)];exact congrArg some hc
 ·rw [if_neg (by omega),if_pos (by omega)];exact congrArg some hc

end Go.Proofs.YtldgbkjceildfaaGreat
