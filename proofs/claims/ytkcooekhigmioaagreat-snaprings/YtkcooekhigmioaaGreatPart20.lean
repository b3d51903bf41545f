import Derived.Test.YtkcooekhigmioaaGreatPart18
import Derived.Test.YtkcooekhigmioaaGreatPart15
import Derived.Deep.CutBlock
namespace Go.Proofs.YtkcooekhigmioaaGreat

def Sn.goldB (g:Nat→Int) (t:Nat):Bool:=decide (0≤g t∧g t≤999)
def Sn.numB (s:Nat→Int):Bool:=decide (0≤s 1∧s 1<1073741824∧1≤s 2∧s 2≤3∧0≤s 3∧s 3≤2)
def Sn.goldsB (g:Nat→Int):Nat→Bool
 | 0=>true
 | n+1=>Sn.goldsB g n && Sn.goldB g n
def Sn.headB (s g:Nat→Int):Bool:=Sn.goldsB g 4 && Sn.numB s

theorem Sn.goldsB_of {g:Nat→Int}:∀{n:Nat},(∀t,t<n→Sn.goldB g t=true)→Sn.goldsB g n=true
 | 0,_=>rfl
 | n+1,h=>by
  show (Sn.goldsB g n && Sn.goldB g n)=true
  rw [Sn.goldsB_of (fun t ht=>h t (by omega)),h n (by omega)]
  rfl

theorem Sn.goldsB_no {g:Nat→Int} {t:Nat} (ht:Sn.goldB g t=false):∀{n:Nat},t<n→Sn.goldsB g n=false
 | 0,h=>absurd h (by omega)
 | n+1,h=>by
  show (Sn.goldsB g n && Sn.goldB g n)=false
  by_cases e:t=n
  ·rw [←e,ht,Bool.and_false]
  ·rw [Sn.goldsB_no ht (by omega),Bool.false_and]

def Sn.cnt (c:Nat→Int) (kind:Int):Nat→Int
 | 0=>0
 | n+1=>Sn.cnt c kind n+if c n=kind then 1 else 0

theorem Sn.cnt_bound (c:Nat→Int) (kind:Int):∀n,0≤Sn.cnt c kind n∧Sn.cnt c kind n≤(n:Int)
 | 0=>⟨Int.le_refl _,Int.le_refl _⟩
 | n+1=>by
  have:=Sn.cnt_bound c kind n
  unfold Sn.cnt
  split <;> omega

theorem Sn.cnt_none {c:Nat→Int} {kind:Int}:∀{n:Nat},(∀i,i<n→c i≠kind)→Sn.cnt c kind n=0
 | 0,_=>rfl
 | n+1,h=>by
  unfold Sn.cnt
  rw [Sn.cnt_none (fun i hi=>h i (by omega)),if_neg (h n (by omega))]
  rfl

theorem Sn.cnt_one {c:Nat→Int} {kind:Int} {u:Nat} (hu:c u=kind):∀{n:Nat},u<n→(∀i,i<n→c i=kind→i=u)→Sn.cnt c kind n=1
 | 0,h,_=>absurd h (by omega)
 | n+1,h,h1=>by
  unfold Sn.cnt
  by_cases e:u=n
  ·subst e
   rw [Sn.cnt_none (fun i hi e'=>by have:=h1 i (by omega) e';omega),if_pos hu]
   rfl
  ·rw [Sn.cnt_one hu (by omega) (fun i hi=>h1 i (by omega)),if_neg (fun e'=>e (h1 n (by omega) e').symm)]
   rfl

def Sn.mx (c:Nat→Int):Nat→Int
 | 0=>c 0
 | n+1=>max (Sn.mx c n) (c (n+1))

theorem Sn.mx_le {c:Nat→Int} {m:Int}:∀{n:Nat},Sn.mx c n≤m↔∀i,i≤n→c i≤m
  | 0 => ⟨fun h i hi => by obtain rfl : i = 0 := by omega
                           exact h, fun h => h 0 (by omega)⟩
  | n+1=>by
    unfold Sn.mx
    rw [Int.max_le,Sn.mx_le]
    constructor
    · rintro ⟨h1,h2⟩ i hi
      by_cases e:i=n+1
      · rw [e];exact h2
      · exact h1 i (by omega)
    · intro h
      exact ⟨fun i hi=>h i (by omega),h (n+1) (by omega)⟩

def Sn.freeB (e:Nat→Int):Bool:=decide (e 2=0∧e 3=0∧e 4=0∧e 5=0∧e 6=0∧e 7=0∧e 8=0∧e 9=0∧e 10=0)
def Sn.soundB (e:Nat→Int):Bool:=decide (e 6=En.stats (e 0) 6∧e 7=En.stats (e 0) 7∧e 8=En.stats (e 0) 8∧1≤e 5∧e 5≤e 6∧0≤e 9∧e 9≤9∧0≤e 10∧e 10≤9)
def Sn.aloneB (c:Nat→Int) (E:Nat→Nat→Int) (k:Nat):Bool:=Gr.walkB (Gr.at 384 c (E k 3) (E k 4)) && decide (En.first (En.atQ E (E k 3) (E k 4)) k=-1)
def Sn.seatedB (E:Nat→Nat→Int) (k:Nat):Bool:=if E k 0=1 then decide (0≤E k 2∧E k 2≤3∧En.first (En.heroQ E (E k 2)) k=-1) else decide (E k 2=0)

def Sn.entC (c:Nat→Int) (E:Nat→Nat→Int) (k:Nat):Int :=
 if 0≤E k 0∧E k 0≤4 then
  if 0≤E k 1∧E k 1≤255 then
   if E k 0=0 then (if Sn.freeB (E k)=true then 0 else 9)
   else if Sn.soundB (E k)=true∧Sn.aloneB c E k=true∧Sn.seatedB E k=true then 0 else 9
  else 9
 else 3

def Sn.rowC (c:Nat→Int) (E:Nat→Nat→Int):Nat→Int
 | 0=>0
 | n+1=>if Sn.rowC c E n=0 then Sn.entC c E n else Sn.rowC c E n

theorem Sn.rowC_stays {c:Nat→Int} {E:Nat→Nat→Int} {n:Nat} {v:Int} (h:Sn.rowC c E n=v) (hv:v≠0):∀m,n≤m→Sn.rowC c E m=v:=by
  intro m hm
  induction m with
  | zero => obtain rfl : n = 0 := by omega
            exact h
  | succ m ih =>
    by_cases e:n=m+1
    · rw [←e];exact h
    · have:=ih (by omega)
      unfold Sn.rowC
      rw [this,if_neg hv]

theorem Sn.rowC_zero {c:Nat→Int} {E:Nat→Nat→Int}:∀{n:Nat},(∀k,k<n→Sn.entC c E k=0)→Sn.rowC c E n=0
 | 0,_=>rfl
 | n+1,h=>by
  unfold Sn.rowC
  rw [Sn.rowC_zero (fun k hk=>h k (by omega)),if_pos rfl]
  exact h n (by omega)

def Sn.Chk (s g c:Nat→Int) (E I:Nat→Nat→Int) (v:Int):Prop :=
 if Sn.headB s g=true then
  if Sn.mx c 383≤5 then
   if Sn.cnt c 3 384=1∧Sn.cnt c 4 384=1 then
    if Sn.rowC c E 32=0 then (v=0∧Gd.Ok c 40 I)∨(v=9∧¬Gd.Ok c 40 I)
    else v=Sn.rowC c E 32
   else v=2
  else v=3
 else v=1

theorem Sn.Chk.one {s g c:Nat→Int} {E I:Nat→Nat→Int} {v u:Int} (h:Sn.Chk s g c E I v) (h':Sn.Chk s g c E I u):u=v:=by
 unfold Sn.Chk at h h'
 split at h
 ·rename_i h1
  rw [if_pos h1] at h'
  split at h
  ·rename_i h2
   rw [if_pos h2] at h'
   split at h
   ·rename_i h3
    rw [if_pos h3] at h'
    split at h
    ·rename_i h4
     rw [if_pos h4] at h'
     rcases h with ⟨rfl,a⟩ | ⟨rfl,a⟩ <;> rcases h' with ⟨rfl,b⟩ | ⟨rfl,b⟩
     ·rfl
     ·exact absurd a b
     ·exact absurd b a
     ·rfl
    ·rename_i h4
     rw [if_neg h4] at h'
     rw [h,h']
   ·rename_i h3
    rw [if_neg h3] at h'
    rw [h,h']
  ·rename_i h2
   rw [if_neg h2] at h'
   rw [h,h']
 ·rename_i h1
  rw [if_neg h1] at h'
  rw [h,h']


open Go.RowKit

def Nv.st (E:Nat→Nat→Int) (n:Nat) (c:Nat):Bool:=decide (0≤En.first (En.atQ E ((c % 24:Nat):Int) ((c / 24:Nat):Int)) n)

theorem Nv.num_at {x y:Int} {c:Nat} (h:Nv.num x y=(c:Int)):x=((c % 24:Nat):Int)∧y=((c / 24:Nat):Int)∧c<384:=by
 unfold Nv.num at h
 split at h
 ·rename_i hin
  rw [Gr.inB_iff] at hin
  omega
 ·omega

theorem Nv.num_of {c:Nat} (hc:c<384):Nv.num ((c % 24:Nat):Int) ((c / 24:Nat):Int)=(c:Int):=by
 unfold Nv.num
 rw [if_pos (by rw [Gr.inB_iff];omega)]
 omega

def Nv.Lst (w:World) (a:Option Addr) (n c:Nat) (E:Nat→Nat→Int):Prop:=n≤32∧n≤c∧(n=0∨∃b,a=some ⟨b,0,none⟩∧Ents w b n E)

def Nv.Words (n:Nat) (E:Nat→Nat→Int):Prop:=∀i,i<n→(-9223372036854775808≤E i 3∧E i 3≤9223372036854775807)∧(-9223372036854775808≤E i 4∧E i 4≤9223372036854775807)

theorem info_bools:(Tryz.prog.info? 4).map (fun i=>(i.zero,i.size,i.bytes))=some (some (.bool false),1,1):=by kernel_rfl


open Go.RowKit

def En.hole (g:Int):Nat→Int:=fun j=>if j=1 then g else 0


open Go.RowKit

theorem Gd.ent_box (w:World) (e:Nat→Int):(w.alloc (.cells (En.cells e) 70)).cell? ⟨w.heap.size,3,none⟩=some (.int .i64 (e 3))∧(w.alloc (.cells (En.cells e) 70)).cell? ⟨w.heap.size,4,none⟩=some (.int .i64 (e 4))∧(w.alloc (.cells (En.cells e) 70)).cell? ⟨w.heap.size,5,none⟩=some (.int .i64 (e 5))∧(w.alloc (.cells (En.cells e) 70)).cell? ⟨w.heap.size,6,none⟩=some (.int .i64 (e 6)):=by
 have h:=Arr.lit (heap_alloc_new w (.cells (En.cells e) 70))
 exact ⟨h.cell (i:=3) (by show 3<11;omega),h.cell (i:=4) (by show 4<11;omega),h.cell (i:=5) (by show 5<11;omega),h.cell (i:=6) (by show 6<11;omega)⟩

theorem Gd.ent_far {w x:World} {B gC gE gI cC cE cI:Nat} {s g c:Nat→Int} {E I:Nat→Nat→Int} (h:Gd.Boxed w x B gC gE gI cC cE cI s g c E I):x.heap.size≠gE∧x.heap.size≠gI∧x.heap.size≠B:=by
 have h1:=h.hold.lists.ents.lt
 have h2:=h.hold.lists.items.lt
 have h3:=h.hold.box.lt
 exact ⟨by omega,by omega,by omega⟩

theorem Gd.Boxed.items {w x y:World} {B gC gE gI cC cE cI:Nat} {s g c:Nat→Int} {E I J:Nat→Nat→Int} (h:Gd.Boxed w x B gC gE gI cC cE cI s g c E I) (hg:x.grownBy y (some gI)) (hI:Lie y gI 72 160 (Gd.flat J)):Gd.Boxed w y B gC gE gI cC cE cI s g c E J:=by
 have h1:=h.at_
 have h2:=h.lI
 exact { h with hold:=h.hold.items hg hI,res:=h.res.grown hg (by simp;omega),grown:=gow h.grown hg (fun n e=>by cases e;omega) }

theorem Gd.Boxed.ents {w x y:World} {B gC gE gI cC cE cI:Nat} {s g c:Nat→Int} {E I F:Nat→Nat→Int} (h:Gd.Boxed w x B gC gE gI cC cE cI s g c E I) (hg:x.grownBy y (some gE)) (hE:Lie y gE 70 352 (En.flat F)):Gd.Boxed w y B gC gE gI cC cE cI s g c F I:=by
 have h1:=h.at_
 have h2:=h.lE
 exact { h with hold:=h.hold.ents hg hE,res:=h.res.grown hg (by simp;omega),grown:=gow h.grown hg (fun n e=>by cases e;omega) }

theorem Gd.Boxed.gold {w x:World} {B gC gE gI cC cE cI:Nat} {s g c:Nat→Int} {E I:Nat→Nat→Int} (h:Gd.Boxed w x B gC gE gI cC cE cI s g c E I) (t:Nat) (ht:t<4) (v:Int):Gd.Boxed w (x.setCell ⟨B,7+t,none⟩ (.int .i64 v)) B gC gE gI cC cE cI s (Gd.give g t v) c E I:=by
 have h1:=h.at_
 exact { h with hold:=h.hold.gold t ht v,res:=h.res.other (by omega) _ _,grown:=gsr h.grown ⟨B,7+t,none⟩ (by show w.heap.size≤B;omega) _ }

theorem Gd.Boxed.stat {w x:World} {B gC gE gI cC cE cI:Nat} {s g c:Nat→Int} {E I:Nat→Nat→Int} (h:Gd.Boxed w x B gC gE gI cC cE cI s g c E I) (k j:Nat) (hj:j<11) (v:Int):Gd.Boxed w (x.setCell ⟨gE,k*11+j,none⟩ (.int .i64 v)) B gC gE gI cC cE cI s g c (Gd.set E k j v) I :=
 h.ents (gs0 x gE (k*11+j) (.int .i64 v)) (h.hold.lists.ents.stat k j hj v)

theorem Gd.Boxed.heals {w x:World} {B gC gE gI cC cE cI:Nat} {s g c:Nat→Int} {E I:Nat→Nat→Int} (h:Gd.Boxed w x B gC gE gI cC cE cI s g c E I) (k m:Nat) (v:Int) (hv:v=min (E k 5+6) (E k 6)):Gd.Boxed w ((((((x.setCell ⟨gI,m*4,none⟩ (.int .i64 0)).setCell ⟨gI,m*4+1,none⟩ (.int .i64 0)).setCell ⟨gI,m*4+2,none⟩ (.int .i64 0)).setCell ⟨gI,m*4+3,none⟩ (.int .i64 0)).setCell ⟨gE,k*11+5,none⟩ (.int .i64 v)).setCell ⟨gE,k*11+9,none⟩ (.int .i64 0)) B gC gE gI cC cE cI s g c (Gd.heal E k) (En.put I m Gd.gone):=by
 rw [←Gd.row_gone]
 unfold Gd.heal
 rw [←hv]
 exact ((h.put m 0 0 0 0).stat k 5 (by omega) v).stat k 9 (by omega) 0

theorem Gd.Boxed.move3 {w x:World} {B gC gE gI cC cE cI:Nat} {s g c:Nat→Int} {E I:Nat→Nat→Int} (h:Gd.Boxed w x B gC gE gI cC cE cI s g c E I) (m:Nat) (a b d:Int):Gd.Boxed w (((x.setCell ⟨gI,m*4+1,none⟩ (.int .i64 a)).setCell ⟨gI,m*4+2,none⟩ (.int .i64 b)).setCell ⟨gI,m*4+3,none⟩ (.int .i64 d)) B gC gE gI cC cE cI s g c E (En.put I m (Gd.row (I m 0) a b d)):=by
 refine h.items (gst (gst (gst (World.grownBy.refl _ _) _ _) _ _) _ _) ((((h.hold.lists.items.field m 1 (by omega) a).field m 2 (by omega) b).field m 3 (by omega) d).congr fun q hq=>?_)
 unfold Gd.flat Gd.set
 by_cases e:q / 4=m
 ·rw [e,En.put_same]
  rcases (show q % 4=0∨q % 4=1∨q % 4=2∨q % 4=3 by omega) with e4 | e4 | e4 | e4 <;> rw [e4] <;> simp [Gd.row]
 ·rw [En.put_other e]
  simp [e]

theorem Gd.Boxed.move2 {w x:World} {B gC gE gI cC cE cI:Nat} {s g c:Nat→Int} {E I:Nat→Nat→Int} (h:Gd.Boxed w x B gC gE gI cC cE cI s g c E I) (m:Nat) (a d:Int):Gd.Boxed w ((x.setCell ⟨gI,m*4+1,none⟩ (.int .i64 a)).setCell ⟨gI,m*4+3,none⟩ (.int .i64 d)) B gC gE gI cC cE cI s g c E (En.put I m (Gd.row (I m 0) a (I m 2) d)):=by
 refine h.items (gst (gst (World.grownBy.refl _ _) _ _) _ _) (((h.hold.lists.items.field m 1 (by omega) a).field m 3 (by omega) d).congr fun q hq=>?_)
 unfold Gd.flat Gd.set
 by_cases e:q / 4=m
 ·rw [e,En.put_same]
  rcases (show q % 4=0∨q % 4=1∨q % 4=2∨q % 4=3 by omega) with e4 | e4 | e4 | e4 <;> rw [e4] <;> simp [Gd.row]
 ·rw [En.put_other e]
  simp [e]

end Go.Proofs.YtkcooekhigmioaaGreat
