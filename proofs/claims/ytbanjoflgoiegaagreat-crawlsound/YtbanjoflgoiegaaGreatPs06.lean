import Derived.Test.YtbanjoflgoiegaaGreatPs05
import Derived.Deep.RegionLaw
import Derived.Lib.SliceRun
namespace Go.Proofs.YtbanjoflgoiegaaGreat
open Go.RowKit

theorem Lst.form {w:World} {base:Nat} {v:Value} {l:List Nat} (h:Lst w base v l) :
  (v=.slice none 0 0∧l=[])∨∃g cap F,v=.slice (some ⟨g,0,none⟩) l.length cap∧base≤g∧Arr w g 3 cap F∧l.length≤cap∧cap≤maxLen∧∀i,i<l.length→F i=.int .i64 ((l[i]?.getD 0:Nat):Int):=by
 rcases h.2 with ⟨rfl,h0⟩ | ⟨g,cap,cur,rfl,hb,hg,hn,hm,hs,ht⟩
 ·exact .inl ⟨rfl,List.eq_nil_of_length_eq_zero h0⟩
 ·refine .inr ⟨g,cap,fun i=>cur[i]?.getD undef,rfl,hb,⟨cur,hg,by omega,fun i hi=>?_⟩,hn,hm,fun i hi=>?_⟩
  ·show cur[i]?=some (cur[i]?.getD undef)
   rw [Array.getElem?_eq_getElem (by omega)]
   rfl
  ·show cur[i]?.getD undef=_
   have e:(cur.toList.take (l.length*1))[i]?=((natInts l).map (Value.int .i64))[i]?:=by rw [ht]
   rw [List.getElem?_take,if_pos (by omega),Array.getElem?_toList,List.getElem?_map] at e
   rw [e,←natInts_at,List.getElem?_eq_getElem (by rw [natInts_len];exact hi)]
   rfl

theorem Lst.back {w:World} {base g cap:Nat} {l:List Nat} {F:Nat→Value} (hb:base≤g) (hA:Arr w g 3 cap F) (hn:l.length≤cap) (hm:cap≤maxLen) (hF:∀i,i<l.length→F i=.int .i64 ((l[i]?.getD 0:Nat):Int)) :
  Lst w base (.slice (some ⟨g,0,none⟩) l.length cap) l:=by
 obtain ⟨cur,hg,hs,hc⟩:=hA
 refine ⟨by simp [natInts],.inr ⟨g,cap,cur,rfl,hb,hg,hn,hm,by omega,?_⟩⟩
 apply List.ext_getElem?
 intro i
 rw [List.getElem?_take,List.getElem?_map,Array.getElem?_toList]
 by_cases hi:i<l.length
 ·rw [if_pos (by omega),hc i (by omega),hF i hi,←natInts_at,List.getElem?_eq_getElem (by rw [natInts_len];exact hi)]
  rfl
 ·rw [if_neg (by omega),List.getElem?_eq_none (by rw [natInts_len];omega)]
  rfl

theorem Arr.stores {g n:Nat} {T:TypeId}:∀(vs:List Value) (o:Nat) (w:World) (F:Nat→Value),Arr w g T n F→Arr (w.setCells g o vs) g T n (fun j=>if o≤j∧j<o+vs.length then vs[j - o]?.getD undef else F j)
  | [], o, w, F, h => h.congr fun j _ => by
      show F j=if o≤j∧j<o+0 then _ else F j
      rw [if_neg (by omega)]
  | v :: vs, o, w, F, h => by
      have h1:=Arr.stores vs (o+1) (w.setCell ⟨g,o,none⟩ v) _ (h.store o v)
      refine Arr.congr h1 fun j _=>?_
      show (if o+1≤j∧j<o+1+vs.length then vs[j - (o+1)]?.getD undef else if j=o then v else F j)=if o≤j∧j<o+(vs.length+1) then (v :: vs)[j - o]?.getD undef else F j
      by_cases e:j=o
      · rw [if_neg (by omega),if_pos e,if_pos (by omega),e,Nat.sub_self]
        rfl
      · by_cases e2:o+1≤j∧j<o+1+vs.length
        · rw [if_pos e2,if_pos (by omega),show j - o=(j - (o+1))+1 by omega]
          rfl
        · rw [if_neg e2,if_neg e,if_neg (by omega)]

theorem gss {a:World} {g:Nat}:∀(vs:List Value) (o:Nat) (b:World),a.grownBy b (some g)→a.grownBy (b.setCells g o vs) (some g)
 | [],_,_,h=>h
 | v :: vs,o,b,h=>gss vs (o+1) (b.setCell ⟨g,o,none⟩ v) (gst h o v)

def Gn.afar (F:Nat→Int) (c:Nat):Bool:=!(decide (F c<4))

theorem del_any (F:Nat→Int) (gF Bx c:Nat) (w:World) (hx:w.cell? ⟨Bx,0,none⟩=some (.slice (some ⟨gF,0,none⟩) 384 384)) (hF:Arr w gF 3 384 (Ints F)) (hc:c<384) :
  Calls Tryz.prog 136 #[.int .i64 (c:Int),.pointer (some ⟨Bx,0,none⟩)] w fun e w'=>e=.returned (.bool (decide (F c<4)))∧w'=w:=by
 have q:w.cell? ⟨gF,c,none⟩=some (.int .i64 (F c)):=hF.cell hc
 have hc':(c:Int)<384:=by omega
 clear hF
 go_enter Tryz.func136,Tryz.ntmps136
 go_wp2
 go_ret
 exact ⟨rfl,rfl⟩

set_option maxHeartbeats 800000 in
theorem indexFunc_any (F:Nat→Int) (gF Bx g cap:Nat) (l:List Nat) (w:World) (H:Nat→Value) (hx:w.cell? ⟨Bx,0,none⟩=some (.slice (some ⟨gF,0,none⟩) 384 384)) (hF:Arr w gF 3 384 (Ints F))
  (hA:Arr w g 3 cap H) (hl:l.length≤cap) (hn:l.length≤384) (hH:∀i,i<l.length→H i=.int .i64 ((l[i]?.getD 0:Nat):Int)) (hc:∀i,i<l.length→l[i]?.getD 0<384) (r:Int)
  (hr:(r=-1∧∀i,i<l.length→Gn.afar F (l[i]?.getD 0)=true)∨∃m:Nat,r=(m:Int)∧m<l.length∧Gn.afar F (l[m]?.getD 0)=false∧∀i,i<m→Gn.afar F (l[i]?.getD 0)=true) :
  Calls Tryz.prog 164 #[.slice (some ⟨g,0,none⟩) l.length cap,.func (.func 136) #[] #[.pointer (some ⟨Bx,0,none⟩)]] w fun e w'=>e=.returned (.int .i64 r)∧w'=w:=by
 have cd:Hid (∀c:Nat,c<384→Calls Tryz.prog 136 #[.int .i64 (c:Int),.pointer (some ⟨Bx,0,none⟩)] w fun e w'=>e=.returned (.bool (decide (F c<4)))∧w'=w):=fun c h=>del_any F gF Bx c w hx hF h
 have hA':=hide hA
 have hH':=hide hH
 have hc':=hide hc
 have hr':=hide hr
 obtain ⟨n,hnn⟩:∃n,n=l.length:=⟨_,rfl⟩
 rw [←hnn] at hl hn ⊢
 have hn':=hide hnn
 clear hA hH hc hx hF hnn hr
 go_enter Tryz.func164,Tryz.ntmps164
 go_wp2_with fail
 go_loop [8] (fun i=>∃k:Nat,k≤n∧i=.int .i64 (k:Int)∧∀j,j<k→Gn.afar F (l[j]?.getD 0)=true) (fun i=>400 - (intOf i).toNat)
 case atStart=>exact ⟨0,by omega,rfl,fun j hj=>by omega⟩
 case round =>
  obtain ⟨k,hk,rfl,hno⟩:=hrel
  have hno':=hide hno
  clear hno
  by_cases hlt:k<n
  ·have hkl:k<l.length:=by have:=uh hn';omega
   obtain ⟨c,hcd⟩:∃c,c=l[k]?.getD 0:=⟨_,rfl⟩
   have q:w.cell? ⟨g,k,none⟩=some (.int .i64 (c:Int)):=by rw [(uh hA').cell (by omega),uh hH' k hkl,hcd]
   have hc384:c<384:=by rw [hcd];exact uh hc' k hkl
   have hlt':(k:Int)<(n:Int):=by omega
   have hcd':=hide hcd
   have HL:=hide hlt
   have HK:=hide hkl
   clear hcd hlt hkl
   go_wp2_with fail
   refine (uh cd c hc384).mono ?_
   rintro e w' ⟨rfl,hw⟩
   subst w'
   by_cases hF4:F c<4
   ·have he:Hid (r=(k:Int)):=by
     have ha:Gn.afar F (l[k]?.getD 0)=false:=by rw [←uh hcd'];simp [Gn.afar,hF4]
     rcases uh hr' with ⟨_,h⟩ | ⟨m,hm,hml,hmf,hma⟩
     ·have:=h k (uh HK);rw [ha] at this;cases this
     ·rcases Nat.lt_trichotomy k m with g | g | g
      ·have:=hma k g;rw [ha] at this;cases this
      ·show r=_
       rw [hm,g]
      ·have:=uh hno' m g;rw [hmf] at this;cases this
    go_wp2
    go_ret
    exact ⟨rti (uh he).symm,rfl⟩
   ·have ha:Hid (Gn.afar F (l[k]?.getD 0)=true):=by show Gn.afar F (l[k]?.getD 0)=true;rw [←uh hcd'];simp [Gn.afar];omega
    go_wp2
    go_round
    case rel =>
     refine ⟨k+1,by have:=uh HL;omega,by go_num,fun j hj=>?_⟩
     by_cases hjk:j=k
     ·subst hjk;exact uh ha
     ·exact uh hno' j (by omega)
    case measure=>simp [intOf];omega
  ·have hge:¬(k:Int)<(n:Int):=by omega
   have hkn:k=l.length:=by have:=uh hn';omega
   have he:Hid (r=-1):=by
    rcases uh hr' with ⟨h,_⟩ | ⟨m,hm,hml,hmf,hma⟩
    ·exact h
    ·have:=uh hno' m (by omega);rw [hmf] at this;cases this
   clear hkn
   go_wp2
   go_ret
   exact ⟨rti (uh he).symm,rfl⟩


open Go.RowKit

theorem indexFunc_nil (fv:Value) (w:World):Calls Tryz.prog 164 #[.slice none 0 0,fv] w fun e w'=>e=.returned (.int .i64 (-1))∧w'=w:=by
 go_enter Tryz.func164,Tryz.ntmps164
 go_wp2_with fail
 refine wp_loop_rounds 1 ?_
 rw [rounds_succ]
 go_wp2
 go_ret
 exact ⟨rfl,rfl⟩

def Gn.kept (F:Nat→Int) (l:List Nat) (j:Nat):List Nat:=(l.take j).filter (Gn.afar F)

theorem Gn.kept_len (F:Nat→Int) (l:List Nat) (j:Nat):(Gn.kept F l j).length≤j:=by
 have h:=List.length_filter_le (Gn.afar F) (l.take j)
 rw [List.length_take] at h
 unfold Gn.kept
 omega

theorem Gn.take_more (l:List Nat) (j:Nat) (h:j<l.length):l.take (j+1)=l.take j ++ [l[j]?.getD 0]:=by
 rw [List.take_add_one,List.getElem?_eq_getElem h]
 rfl

theorem Gn.kept_yes {F:Nat→Int} {l:List Nat} {j:Nat} (h:j<l.length) (ha:Gn.afar F (l[j]?.getD 0)=true):Gn.kept F l (j+1)=Gn.kept F l j ++ [l[j]?.getD 0]:=by
 unfold Gn.kept
 rw [Gn.take_more l j h,List.filter_append,List.filter_cons_of_pos ha,List.filter_nil]

theorem Gn.kept_no {F:Nat→Int} {l:List Nat} {j:Nat} (h:j<l.length) (ha:Gn.afar F (l[j]?.getD 0)=false):Gn.kept F l (j+1)=Gn.kept F l j:=by
 unfold Gn.kept
 rw [Gn.take_more l j h,List.filter_append,List.filter_cons_of_neg (by simp [ha]),List.filter_nil,List.append_nil]

theorem Gn.kept_all {F:Nat→Int} {l:List Nat} {m:Nat} (hm:m≤l.length) (ha:∀i,i<m→Gn.afar F (l[i]?.getD 0)=true):Gn.kept F l m=l.take m:=by
 unfold Gn.kept
 rw [List.filter_eq_self]
 intro a hmem
 obtain ⟨i,hi,rfl⟩:=List.getElem_of_mem hmem
 rw [List.length_take] at hi
 have:=ha i (by omega)
 rw [List.getElem?_eq_getElem (by omega)] at this
 rw [List.getElem_take]
 exact this

theorem Gn.first_go (F:Nat→Int) (l:List Nat):(∀i,i<l.length→Gn.afar F (l[i]?.getD 0)=true)∨∃m,m<l.length∧Gn.afar F (l[m]?.getD 0)=false∧∀i,i<m→Gn.afar F (l[i]?.getD 0)=true:=by
 by_cases h:∃m,m<l.length∧Gn.afar F (l[m]?.getD 0)=false
 ·obtain ⟨m0,h0⟩:=h
  right
  induction m0 using Nat.strongRecOn with
  | _ m ih =>
   by_cases hc:∃i,i<m∧Gn.afar F (l[i]?.getD 0)=false
   ·obtain ⟨i,hi,hf⟩:=hc
    exact ih i hi ⟨by omega,hf⟩
   ·refine ⟨m,h0.1,h0.2,fun i hi=>?_⟩
    cases hh:Gn.afar F (l[i]?.getD 0) with
    | true=>rfl
    | false=>exact absurd ⟨i,hi,hh⟩ hc
 ·left
  intro i hi
  cases hh:Gn.afar F (l[i]?.getD 0) with
  | true=>rfl
  | false=>exact absurd ⟨i,hi,hh⟩ h

theorem zero_int:∀w,(zeroValue 3).run Tryz.prog w=.ok (.int .i64 0) w:=by
 intro w
 kernel_rfl

structure DelHold (w:World) (base g cap gF Bx:Nat) (F:Nat→Int) (l:List Nat) (j:Nat) (wr:World) (H:Nat→Value):Prop where
 row:Arr wr g 3 cap H
 box:wr.cell? ⟨Bx,0,none⟩=some (.slice (some ⟨gF,0,none⟩) 384 384)
 fld:Arr wr gF 3 384 (Ints F)
 low:∀x,x<(Gn.kept F l j).length→H x=.int .i64 (((Gn.kept F l j)[x]?.getD 0:Nat):Int)
 high:∀x,j≤x→x<l.length→H x=.int .i64 ((l[x]?.getD 0:Nat):Int)
 below:Below base w wr

theorem DelHold.keep {w:World} {base g cap gF Bx:Nat} {F:Nat→Int} {l:List Nat} {j:Nat} {wr:World} {H:Nat→Value} (h:DelHold w base g cap gF Bx F l j wr H) (hb:base≤g) (h1:gF<base) (h2:Bx<base) (hj:j<l.length) (ha:Gn.afar F (l[j]?.getD 0)=true) :
  DelHold w base g cap gF Bx F l (j+1) (wr.setCell ⟨g,(Gn.kept F l j).length,none⟩ (.int .i64 ((l[j]?.getD 0:Nat):Int))) (fun x=>if x=(Gn.kept F l j).length then .int .i64 ((l[j]?.getD 0:Nat):Int) else H x):=by
 have hl:=Gn.kept_len F l j
 refine ⟨h.row.store _ _,?_,h.fld.grown (gst (World.grownBy.refl _ _) _ _) (by simp;omega),fun x hx=>?_,fun x hx hxl=>?_,h.below.setCell hb _⟩
 ·rw [World.cell?_setCell_other _ _ _ _ (by intro e;have h3:g=Bx:=congrArg Addr.block e;omega)]
  exact h.box
 ·rw [Gn.kept_yes hj ha] at hx ⊢
  rw [List.length_append] at hx
  have hx':x<(Gn.kept F l j).length+1:=hx
  show (if x=(Gn.kept F l j).length then Value.int .i64 ((l[j]?.getD 0:Nat):Int) else H x)=_
  by_cases e:x=(Gn.kept F l j).length
  ·rw [if_pos e,e]
   simp
  ·rw [if_neg e,List.getElem?_append_left (by omega)]
   exact h.low x (by omega)
 ·show (if x=(Gn.kept F l j).length then Value.int .i64 ((l[j]?.getD 0:Nat):Int) else H x)=_
  rw [if_neg (by omega)]
  exact h.high x (by omega) hxl

theorem DelHold.pass {w:World} {base g cap gF Bx:Nat} {F:Nat→Int} {l:List Nat} {j:Nat} {wr:World} {H:Nat→Value} (h:DelHold w base g cap gF Bx F l j wr H) (hj:j<l.length) (ha:Gn.afar F (l[j]?.getD 0)=false) :
  DelHold w base g cap gF Bx F l (j+1) wr H:=by
 refine ⟨h.row,h.box,h.fld,fun x hx=>?_,fun x hx hxl=>h.high x (by omega) hxl,h.below⟩
 rw [Gn.kept_no hj ha] at hx ⊢
 exact h.low x hx

set_option maxRecDepth 8000 in
set_option maxHeartbeats 4000000 in
theorem deleteFunc_any (F:Nat→Int) (gF Bx base:Nat) (v:Value) (l:List Nat) (w:World) (hx:w.cell? ⟨Bx,0,none⟩=some (.slice (some ⟨gF,0,none⟩) 384 384)) (hF:Arr w gF 3 384 (Ints F))
  (hL:Lst w base v l) (h1:gF<base) (h2:Bx<base) (hn:l.length≤384) (hc:∀i,i<l.length→l[i]?.getD 0<384) :
  Calls Tryz.prog 135 #[v,.func (.func 136) #[] #[.pointer (some ⟨Bx,0,none⟩)]] w
   fun e w'=>∃v',e=.returned v'∧Lst w' base v' (l.filter (Gn.afar F))∧Below base w w':=by
 rcases hL.form with ⟨rfl,rfl⟩ | ⟨g,cap,H,rfl,hb,hA,hlc,hm,hH⟩
 ·have hL':=hide hL
  clear hL hc hx hF
  go_enter Tryz.func135,Tryz.ntmps135
  go_wp2_with fail
  refine (indexFunc_nil _ _).mono ?_
  rintro e w' ⟨rfl,rfl⟩
  go_wp2
  go_ret
  exact ⟨_,rfl,uh hL',Below.refl _ _⟩
 ·rcases Gn.first_go F l with hall | ⟨m,hml,hmf,hma⟩
  ·have hidx:=hide (indexFunc_any F gF Bx g cap l w H hx hF hA hlc hn hH hc (-1) (.inl ⟨rfl,hall⟩))
   have hfl:Hid (l.filter (Gn.afar F)=l):=by
    have h:=Gn.kept_all (F:=F) (Nat.le_refl l.length) hall
    unfold Gn.kept at h
    rw [List.take_length] at h
    exact h
   have hL':=hide hL
   clear hL hc hx hF hA hH hall
   go_enter Tryz.func135,Tryz.ntmps135
   go_wp2_with fail
   refine (uh hidx).mono ?_
   rintro e w' ⟨rfl,rfl⟩
   go_wp2
   go_ret
   exact ⟨_,rfl,by rw [uh hfl];exact uh hL',Below.refl _ _⟩
  ·have hidx:=hide (indexFunc_any F gF Bx g cap l w H hx hF hA hlc hn hH hc (m:Int) (.inr ⟨m,rfl,hml,hmf,hma⟩))
   have hk1:Gn.kept F l (m+1)=l.take m:=by rw [Gn.kept_no hml hmf,Gn.kept_all (by omega) hma]
   have hk1l:(Gn.kept F l (m+1)).length=m:=by rw [hk1,List.length_take];omega
   have hD0:Hid (DelHold w base g cap gF Bx F l (m+1) w H):=by
    refine ⟨hA,hx,hF,fun x hxl=>?_,fun x _ hxl=>hH x hxl,Below.refl _ _⟩
    rw [hk1l] at hxl
    rw [hH x (by omega),hk1,List.getElem?_take,if_pos hxl]
   have hc':=hide hc
   have hk1':=hide hk1l
   have hml':=hide hml
   obtain ⟨n,hnn⟩:∃n,n=l.length:=⟨_,rfl⟩
   rw [←hnn] at hidx hlc hn ⊢
   have hn':=hide hnn
   have hmn:(m:Int)+1≤(n:Int):=by omega
   have hne:((m:Int) == -1)=false:=by rw [beq_eq_false_iff_ne];omega
   have hm':cap≤9223372036854775807:=hm
   clear hL hc hx hF hA hH hk1 hk1l hmf hma hnn hm
   go_enter Tryz.func135,Tryz.ntmps135
   go_wp2_with fail
   refine (uh hidx).mono ?_
   rintro e w' ⟨rfl,hw⟩
   subst w'
   go_wp2_with fail
   go_loopw [5,6] (fun vi vj wr=>∃(i j:Nat) (H:Nat→Value),j≤n∧m+1≤j∧i<j∧vi=.int .i64 (i:Int)∧vj=.int .i64 (j:Int)∧i=(Gn.kept F l j).length∧DelHold w base g cap gF Bx F l j wr H) (fun _ vj _=>400 - (intOf vj).toNat)
   case atStart=>exact ⟨m,m+1,H,by omega,by omega,by omega,rfl,by go_num,(uh hk1').symm,uh hD0⟩
   case round =>
    obtain ⟨i,j,H,hj,hmj,hij,rfl,rfl,hi,hD⟩:=hrel
    have hD1:=hide hD
    have hi':=hide hi
    clear hD hi hD0 hk1' hidx
    by_cases hlt:j<n
    ·have hjl:j<l.length:=by have:=uh hn';omega
     obtain ⟨c,hcd⟩:∃c,c=l[j]?.getD 0:=⟨_,rfl⟩
     have q:wr.cell? ⟨g,j,none⟩=some (.int .i64 (c:Int)):=by rw [(uh hD1).row.cell (by omega),(uh hD1).high j (Nat.le_refl _) hjl,hcd]
     have hc384:c<384:=by rw [hcd];exact uh hc' j hjl
     have hlt':(j:Int)<(n:Int):=by omega
     have hcd':=hide hcd
     have HJ:=hide hjl
     have hin:(i:Int)<(n:Int):=by omega
     have q2:=(uh hD1).row.cell (i:=i) (by omega)
     have q3:=(uh hD1).row.free i
     have hdel:=hide (del_any F gF Bx c wr (uh hD1).box (uh hD1).fld hc384)
     clear hcd hjl
     go_wp2_with fail
     refine (uh hdel).mono ?_
     rintro e w' ⟨rfl,hw⟩
     subst w'
     by_cases hF4:F c<4
     ·have ha:Gn.afar F (l[j]?.getD 0)=false:=by rw [←uh hcd'];simp [Gn.afar,hF4]
      have hD2:=hide ((uh hD1).pass (uh HJ) ha)
      have hi2:Hid (i=(Gn.kept F l (j+1)).length):=by show i=_;rw [Gn.kept_no (uh HJ) ha];exact uh hi'
      clear ha hdel
      go_wp2
      go_roundw
      case rel=>exact ⟨i,j+1,H,by omega,by omega,by omega,rfl,by go_num,uh hi2,uh hD2⟩
      case measure=>simp [intOf];omega
     ·have ha:Gn.afar F (l[j]?.getD 0)=true:=by rw [←uh hcd'];simp [Gn.afar];omega
      have hD2:=(uh hD1).keep hb h1 h2 (uh HJ) ha
      rw [←uh hcd',←uh hi'] at hD2
      have hD3:=hide hD2
      have hi2:Hid (i+1=(Gn.kept F l (j+1)).length):=by show i+1=_;rw [Gn.kept_yes (uh HJ) ha,List.length_append,←uh hi'];rfl
      have hdec:decide (F c<4)=false:=by simpa using hF4
      clear ha hdel hD2 hF4
      go_wp2
      go_roundw
      case rel=>exact ⟨i+1,j+1,_,by omega,by omega,by omega,by go_num,by go_num,uh hi2,uh hD3⟩
      case measure=>simp [intOf];omega
    ·have hge:¬(j:Int)<(n:Int):=by omega
     have hjn:j=l.length:=by have:=uh hn';omega
     have hkl:Gn.kept F l l.length=l.filter (Gn.afar F):=by unfold Gn.kept;rw [List.take_length]
     have hil:i=(l.filter (Gn.afar F)).length:=by rw [←hkl,←hjn];exact uh hi'
     have hin:(i:Int)<(n:Int):=by omega
     have hfin:Hid (Lst (wr.setCells g i (List.replicate (n - i) (.int .i64 0))) base (.slice (some ⟨g,0,none⟩) i cap) (l.filter (Gn.afar F))):=by
      have hA2:=Arr.stores (List.replicate (n - i) (Value.int .i64 0)) i wr H (uh hD1).row
      have h:=Lst.back (l:=l.filter (Gn.afar F)) hb hA2 (by omega) hm' (fun x hx=>by
       show (if i≤x∧x < _ then _ else H x)=_
       rw [if_neg (by omega),(uh hD1).low x (by rw [hjn,hkl];exact hx),hjn,hkl])
      rw [←hil] at h
      exact h
     have hbel:Hid (Below base w (wr.setCells g i (List.replicate (n - i) (.int .i64 0)))):=by
      have hgr:=gss (List.replicate (n - i) (Value.int .i64 0)) i wr (World.grownBy.refl wr (some g))
      exact (uh hD1).below.grown hgr (by have:=(uh hD1).row.lt;omega) (fun k hk=>by cases hk;omega)
     have hcl:∀ty,(Builtin.clear_ #[38] ty #[.slice (some ⟨g,i,none⟩) (n - i) (cap - i)]).run Tryz.prog wr=.ok (.tuple #[]) (wr.setCells g i (List.replicate (n - i) (.int .i64 0))) :=
      fun ty=>Lib.run_clear_slice wr _ _ ty _ Tryz.underlying38 zero_int rfl rfl g i _ _ (by omega) (fun t ht=>by rw [(uh hD1).row.cell (by omega)];rfl) (fun t ht=>(uh hD1).row.free _)
     have hicap:i≠cap:=by omega
     clear hjn hkl hil
     go_wp2
     go_ret
     exact ⟨_,rfl,uh hfin,uh hbel⟩

theorem Gn.erase_at (l:List Nat) (i x:Nat):(l.eraseIdx i)[x]?.getD 0=if x<i then l[x]?.getD 0 else l[x+1]?.getD 0:=by
 rw [List.getElem?_eraseIdx]
 split <;> rfl

set_option maxRecDepth 8000 in
set_option maxHeartbeats 4000000 in
theorem delete_any (base i j:Nat) (v:Value) (l:List Nat) (w:World) (hL:Lst w base v l) (hn:l.length≤384) (hi:i<l.length) (hj:j=i+1) :
  Calls Tryz.prog 139 #[v,.int .i64 (i:Int),.int .i64 (j:Int)] w
   fun e w'=>∃v',e=.returned v'∧Lst w' base v' (l.eraseIdx i)∧v'.ownBlock=v.ownBlock∧w.grownBy w' v.ownBlock:=by
 rcases hL.form with ⟨rfl,rfl⟩ | ⟨g,cap,H,rfl,hb,hA,hlc,hm,hH⟩
 ·simp at hi
 ·obtain ⟨i0,hi0,hz0,hz1,hz2⟩:=info_parts info_int
  have hm':cap≤9223372036854775807:=hm
  obtain ⟨n,hnn⟩:∃n,n=l.length:=⟨_,rfl⟩
  obtain ⟨news,hnews⟩:∃news:List Value,news=(List.range (n - j)).map (fun t=>H (j+t)):=⟨_,rfl⟩
  have hlen:news.length=n - j:=by rw [hnews];simp
  have hget:∀t,t<n - j→news[t]?=some (H (j+t)):=by
   intro t ht
   rw [hnews,List.getElem?_map,List.getElem?_range ht]
   rfl
  obtain ⟨A,hAd,hsrc⟩:∃A:Addr,(if cap=j then some (⟨g,0,none⟩:Addr) else some ⟨g,j,none⟩)=some A∧Hid (∀t u,news[t]?=some u→w.drew.cell? (A.add t)=some u):=by
   by_cases h:cap=j
   ·refine ⟨⟨g,0,none⟩,by simp [h],fun t u hu=>?_⟩
    have h0:news.length=0:=by rw [hlen];omega
    rw [List.length_eq_zero_iff.1 h0] at hu
    simp at hu
   ·refine ⟨⟨g,j,none⟩,by simp [h],fun t u hu=>?_⟩
    have ht:t<n - j:=by
     have:=(List.getElem?_eq_some_iff.1 hu).1
     rwa [hlen] at this
    rw [hget t ht] at hu
    rw [Addr.add_lit]
    exact (hA.cell (i:=j+t) (by omega)).trans hu
  have s1:Hid (news.length=(n - j)*1):=by rw [Nat.mul_one];exact hlen
  have s2:Hid (∀u∈news,u.oneCell'=true):=by
   intro u hu
   rw [hnews] at hu
   obtain ⟨x,hx,rfl⟩:=List.mem_map.1 hu
   have hxl:=List.mem_range.1 hx
   rw [hH (j+x) (by omega)]
   rfl
  have s3:Hid (∀t,t<news.length→(w.drew.cell? ⟨g,0+i*1+t,none⟩).isSome=true∧w.drew.frozen? ⟨g,0+i*1+t,none⟩=false):=by
   intro t ht
   rw [hlen] at ht
   rw [Nat.mul_one,Nat.zero_add]
   exact ⟨by show (w.cell? _).isSome=true;rw [hA.cell (i:=i+t) (by omega)];rfl,hA.free (i+t)⟩
  obtain ⟨W1,hW1⟩:∃W1,W1=w.drew.setCells g (0+i*1) news:=⟨_,rfl⟩
  have hAd1:Arr w.drew g 3 cap H:=hA.grown (gd1 (World.grownBy.refl w none)) (by simp)
  have hA1:Arr W1 g 3 cap (fun x=>if i≤x∧x<i+news.length then news[x - i]?.getD undef else H x):=by
   have h:=Arr.stores news (0+i*1) w.drew H hAd1
   rw [←hW1,Nat.zero_add,Nat.mul_one] at h
   exact h
  have hbel1:w.grownBy W1 (some g):=by
   rw [hW1]
   exact gss news (0+i*1) w.drew (gd1 (World.grownBy.refl w (some g)))
  have hcl:∀ty,(Builtin.clear_ #[38] ty #[.slice (some ⟨g,i+(n - j),none⟩) (n - (i+(n - j))) (cap - (i+(n - j)))]).run Tryz.prog W1=.ok (.tuple #[]) (W1.setCells g (i+(n - j)) (List.replicate (n - (i+(n - j))) (.int .i64 0))) :=
   fun ty=>Lib.run_clear_slice W1 _ _ ty _ Tryz.underlying38 zero_int rfl rfl g (i+(n - j)) _ _ (by omega) (fun t ht=>by rw [hA1.cell (by omega)];rfl) (fun t ht=>hA1.free _)
  have hel:(l.eraseIdx i).length=i+(n - j):=by rw [List.length_eraseIdx,if_pos hi];omega
  have hfin:Hid (Lst (W1.setCells g (i+(n - j)) (List.replicate (n - (i+(n - j))) (.int .i64 0))) base (.slice (some ⟨g,0,none⟩) (i+(n - j)) cap) (l.eraseIdx i)):=by
   have hA2:=Arr.stores (List.replicate (n - (i+(n - j))) (Value.int .i64 0)) (i+(n - j)) W1 _ hA1
   have h:=Lst.back (l:=l.eraseIdx i) hb hA2 (by omega) hm (fun x hx=>by
    show (if i+(n - j)≤x∧x < _ then _ else if i≤x∧x<i+news.length then news[x - i]?.getD undef else H x)=_
    rw [hel] at hx
    rw [if_neg (by omega),Gn.erase_at l i x]
    by_cases hxi:x<i
    ·rw [if_neg (by omega),if_pos hxi]
     exact hH x (by omega)
    ·rw [if_pos (by omega),if_neg hxi,hget (x - i) (by omega),show j+(x - i)=x+1 by omega,hH (x+1) (by omega)]
     rfl)
   rw [hel] at h
   exact h
  have hbel:Hid (w.grownBy (W1.setCells g (i+(n - j)) (List.replicate (n - (i+(n - j))) (.int .i64 0))) (some g)) :=
   gss (List.replicate (n - (i+(n - j))) (Value.int .i64 0)) (i+(n - j)) W1 hbel1
  have hW:Hid (W1=w.drew.setCells g (0+i*1) news):=hW1
  have hic:i≤cap:=by omega
  have hjc:j≤cap:=by omega
  have hij:i<j:=by omega
  have hjn:j≤n:=by omega
  have hnc:n≤cap:=by omega
  have hn3:n≤384:=by omega
  rw [←hnn]
  clear hL hA hH hj hnews hlen hget hW1 hAd1 hA1 hbel1 hel hlc hi hn hnn
  go_enter Tryz.func139,Tryz.ntmps139
  go_wp2_with fail
  go_region_law (refine step_append_room rfl (.tmp 22) (.tmp 25) 38 rfl 3 i0 1 Tryz.underlying38 hi0 hz1 g 0 i cap (by simp [Act.eval,Act.put]) A (n - j) (cap - j) news (by simp [Act.eval,Act.put]) s1.out hsrc.out s2.out (by omega) s3.out ?_;rw [←hW.out])
  go_wp2
  go_ret
  exact ⟨_,rfl,uh hfin,rfl,uh hbel⟩

end Go.Proofs.YtbanjoflgoiegaaGreat
