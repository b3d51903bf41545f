import Derived.Test.YtldgbkjceildfaaGreatBy06
import Derived.Deep.RegionWith
import Derived.Deep.Cut
namespace Go.Proofs.YtldgbkjceildfaaGreat
open Go.RowKit

theorem Gn.upd_upd (c:Nat→Int) (k:Nat) (u v:Int):Gr.upd (Gr.upd c k u) k v=Gr.upd c k v:=by
 funext i;unfold Gr.upd;split <;> rfl

set_option maxHeartbeats 800000 in
theorem refDig_any (G:Nat) (st:(Nat→Int) × Bool) (x y:Int) (k:Nat) (w:World) (hA:Arr w G 5 384 (Byts st.1)) (h5:∀i,0≤st.1 i∧st.1 i≤5) (hx:(1≤x∧x≤22)∧1≤y∧y≤14) (hk:y*24+x=(k:Int)) :
  Calls Tryz.prog 62 #[.slice (some ⟨G,0,none⟩) 384 384,.int .i64 x,.int .i64 y,.bool st.2] w
   fun e w'=>e=.returned (.bool (Gn.digAt st k).2)∧Arr w' G 5 384 (Byts (Gn.digAt st k).1)∧w.grownBy w' (some G):=by
 have hkl:k<384:=by omega
 have hk':(k:Int)<384:=by omega
 have q1:w.cell? ⟨G,k,none⟩=some (.int .u8 (st.1 k)):=hA.cell hkl;have q2:=hA.free k;have h5k:=h5 k;obtain ⟨v,hv⟩:∃v,v=st.1 k:=⟨_,rfl⟩;rw [←hv] at q1 h5k;obtain ⟨⟨x1,x2⟩,x3,x4⟩:=hx;by_cases hz:v=0
 ·have hat:=Gn.at_wall (st:=st) (c:=k) (by rw [←hv];exact hz);have hz':(v != 0)=false:=by simpa using hz
  have hA1:=hA.byte k 1;cases hb:st.2 with
  | true =>
   have hfin:Hid (Arr (w.setCell ⟨G,k,none⟩ (.int .u8 1)) G 5 384 (Byts (Gn.digAt st k).1)):=by rw [hat,hb];exact hA1
   have hb2:Hid ((Gn.digAt st k).2=true):=by rw [hat];exact (rfl:true=true)
   have hg:=hide (gpt w G k (.int .u8 1));clear hA1 hat hA hz hv;go_enter Tryz.func62,Tryz.ntmps62;go_wp2;go_ret;exact ⟨ret_bool (uh hb2).symm,uh hfin,uh hg⟩
  | false =>
   have hA2:=hA1.byte k 2;have q3:=hA1.cell hkl;have q4:=hA1.free k;obtain ⟨w1,hw1⟩:∃w1,w.setCell ⟨G,k,none⟩ (.int .u8 1)=w1:=⟨_,rfl⟩;rw [hw1] at hA2 q3 q4;have hfin:Hid (Arr (w1.setCell ⟨G,k,none⟩ (.int .u8 2)) G 5 384 (Byts (Gn.digAt st k).1)):=by
    rw [hat,hb];rw [Gn.upd_upd] at hA2;exact hA2
   have hb2:Hid ((Gn.digAt st k).2=true):=by rw [hat];exact (rfl:true=true)
   have hg:Hid (w.grownBy (w1.setCell ⟨G,k,none⟩ (.int .u8 2)) (some G)):=by rw [←hw1];exact gst (gpt w G k (.int .u8 1)) k _
   clear hA1 hA2 hat hA hz hv;go_enter Tryz.func62,Tryz.ntmps62;go_wp2;go_ret;exact ⟨ret_bool (uh hb2).symm,uh hfin,uh hg⟩
 ·have hat:=Gn.at_free (st:=st) (c:=k) (by rw [←hv];exact hz);have hz':(v != 0)=true:=by simpa using hz
  have hfin:Hid (Arr w G 5 384 (Byts (Gn.digAt st k).1)):=by rw [hat];exact hA
  have hb2:Hid ((Gn.digAt st k).2=st.2):=by rw [hat];exact (rfl:st.2=st.2)
  obtain ⟨b,hb⟩:∃b,b=st.2:=⟨_,rfl⟩;rw [←hb] at hb2 ⊢;clear hat hA hz hv hb;go_enter Tryz.func62,Tryz.ntmps62;go_wp2;go_ret;exact ⟨ret_bool (uh hb2).symm,uh hfin,World.grownBy.refl _ _⟩

def Gn.free (c F:Nat→Int) (far:Int) (U:Nat→Bool) (i:Nat):Bool:=c i == 1 && decide (far≤F i) && !U i

def Gn.picked (d:Gn.Dice) (a:Int) (l:List Nat):Int:=if l.length=0 then -1 else ((l[(d a 0 (l.length:Int)).toNat]?.getD 0:Nat):Int)

set_option maxRecDepth 8000 in
set_option maxHeartbeats 1600000 in
theorem pick_any (s f:Int) (d:Gn.Dice) (hd:∀a b n,Gn.D s f a b n=d a b n) (hFr:Gn.Fair d) (G gF gU:Nat) (c F:Nat→Int) (far a:Int) (U:Nat→Bool) (w:World) (hA:Arr w G 5 384 (Byts c)) (hF:Arr w gF 3 384 (Ints F)) (hU:Arr w gU 4 384 (Bols U)) :
  Calls Tryz.prog 65 #[.slice (some ⟨G,0,none⟩) 384 384,.slice (some ⟨gF,0,none⟩) 384 384,.int .i64 far,.slice (some ⟨gU,0,none⟩) 384 384,.int .i64 s,.int .i64 f,.int .i64 a] w
   (Says w (.int .i64 (Gn.picked d a (Gn.those (Gn.free c F far U) 384)))):=by
 have hA':=hide hA;have hF':=hide hF;have hU':=hide hU;have hd':=hide hd;have hFr':=hide hFr;obtain ⟨i0,hi,hz0,hz1,hz2⟩:=info_parts info_int;clear hA hF hU hd hFr;go_enter Tryz.func65,Tryz.ntmps65;go_wp2_with fail
 go_loopw [15,16] (fun v i wr=>∃k:Nat,k≤384∧i=.int .i64 (k:Int)∧Lst wr w.heap.size v (Gn.those (Gn.free c F far U) k)∧w.grownBy wr none) (fun _ i _=>400 - (intOf i).toNat)
 case atStart=>exact ⟨0,by omega,rfl,World.ownsRow_nil _ _ _ _,World.grownBy.refl _ _⟩
 case round =>
  obtain ⟨k,hk,rfl,hown,hg⟩:=hrel;have hown1:=hide hown;have hg1:=hide hg;have hsz:=hg.size;have hln:=Gn.those_len (Gn.free c F far U) k;clear hown hg;by_cases hlt:k<384
  ·have q1:wr.cell? ⟨G,k,none⟩=some (.int .u8 (c k)):=((uh hA').grown (uh hg1) (by simp)).cell hlt;have q2:wr.cell? ⟨gF,k,none⟩=some (.int .i64 (F k)):=((uh hF').grown (uh hg1) (by simp)).cell hlt;have q3:wr.cell? ⟨gU,k,none⟩=some (.bool (U k)):=((uh hU').grown (uh hg1) (by simp)).cell hlt;have hlt':(k:Int)<384:=by omega
   have HL:=hide hlt;clear hlt hk;by_cases hq:Gn.free c F far U k=true
   ·have hyes:=hide (Gn.those_yes hq);have hq2:=hq;unfold Gn.free at hq2;simp only [Bool.and_eq_true,decide_eq_true_eq,Bool.not_eq_true'] at hq2;obtain ⟨⟨r1,r2⟩,r3⟩:=hq2;obtain ⟨l,hl⟩:∃l,l=Gn.those (Gn.free c F far U) k:=⟨_,rfl⟩;rw [←hl] at hown1 hln hyes;clear hl hq;go_wp2_with (at_builtin;refine wpList_append_own _ rfl _ _ 23 rfl w.heap.size 3 i0 (.int .i64 0) 1 8 Tryz.underlying23 hi hz0 hz1 hz2 rfl (by decide) _ _ _ rfl ((uh hown1).alloc _) ⟨wr.heap.size,0,none⟩ 1 1 [.int .i64 (k:Int)] rfl rfl ?_ ?_ ?_ ?_ ?_ ?_)
    ·exact one_at _ _ _ _ rfl
    ·intro u hu;simp at hu;subst hu;rfl
    ·unfold maxLen;omega
    ·omega
    ·simp;omega
    intro v' w1 hown' hgrow _;rw [natInts_more] at hown';have hown2:Hid (Lst w1 w.heap.size v' (Gn.those (Gn.free c F far U) (k+1))):=by
     rw [uh hyes];show w1.ownsRow _ _ _ _ _ _;rw [List.length_append];exact hown'
    have hg2:=hide (gow (gal (uh hg1) _) hgrow (fun n e=>((uh hown1).lt n e).1));clear hown' hgrow hown1 hg1;go_wp2;go_roundw;case rel=>exact ⟨k+1,by have:=uh HL;omega,by go_num,uh hown2,uh hg2⟩
    case measure=>simp [intOf];omega
   ·have hq':Gn.free c F far U k=false:=by simpa using hq
    have hno:=hide (Gn.those_no hq');have hcs:(c k == 1)=false∨((c k == 1)=true∧¬far≤F k)∨((c k == 1)=true∧far≤F k∧U k=true):=by
     unfold Gn.free at hq';cases h1:(c k == 1) with
     | false=>exact .inl rfl
     | true =>
      rw [h1] at hq';by_cases h2:far≤F k
      ·right;right;refine ⟨rfl,h2,?_⟩;simpa [h2] using hq'
      ·exact .inr (.inl ⟨rfl,h2⟩)
    clear hq hq';rcases hcs with r1|⟨r1,r2⟩|⟨r1,r2,r3⟩
    ·go_wp2;go_roundw;case rel=>exact ⟨k+1,by have:=uh HL;omega,by go_num,by rw [uh hno];exact uh hown1,uh hg1⟩
     case measure=>simp [intOf];omega
    ·have r2':decide (far≤F k)=false:=by simpa using r2
     clear r2;go_wp2;go_roundw;case rel=>exact ⟨k+1,by have:=uh HL;omega,by go_num,by rw [uh hno];exact uh hown1,uh hg1⟩
     case measure=>simp [intOf];omega
    ·go_wp2;go_roundw;case rel=>exact ⟨k+1,by have:=uh HL;omega,by go_num,by rw [uh hno];exact uh hown1,uh hg1⟩
     case measure=>simp [intOf];omega
  ·have hge:¬(k:Int)<384:=by omega
   obtain rfl:k=384:=by omega
   obtain ⟨l,hl⟩:∃l,l=Gn.those (Gn.free c F far U) 384:=⟨_,rfl⟩;rw [←hl] at hown1 hln;have hl':=hide hl;clear hlt hk hl;rcases (uh hown1).form with ⟨rfl,h0⟩|⟨g,cap,H,rfl,hb,hAr,hlc,hm,hH⟩
   ·have hres:Hid (Gn.picked d a (Gn.those (Gn.free c F far U) 384)=-1):=by
     show Gn.picked d a (Gn.those (Gn.free c F far U) 384)=-1;rw [←uh hl',h0];rfl
    clear h0;go_wp2;go_ret;exact ⟨rti (uh hres).symm,uh hg1⟩
   ·by_cases h0:l.length=0
    ·have hres:Hid (Gn.picked d a (Gn.those (Gn.free c F far U) 384)=-1):=by
      show Gn.picked d a (Gn.those (Gn.free c F far U) 384)=-1;rw [←uh hl'];unfold Gn.picked;rw [if_pos h0]
     rw [h0];clear hAr hH;go_wp2;go_ret;exact ⟨rti (uh hres).symm,uh hg1⟩
    ·obtain ⟨N,hN⟩:∃x,x=d a 0 (l.length:Int):=⟨_,rfl⟩;obtain ⟨n1,n2⟩:0≤N∧N<(l.length:Int):=by rw [hN];exact uh hFr' _ _ _ (by omega)
     obtain ⟨n,hn⟩:∃n:Nat,N=(n:Int):=⟨N.toNat,by omega⟩;have hnl:n<l.length:=by omega
     have hnl':(n:Int)<(l.length:Int):=by omega
     have hdN:=refD_any s f a 0 (l.length:Int) wr (by omega);rw [uh hd',←hN,hn] at hdN;obtain ⟨cl,hcl⟩:∃cl,cl=l[n]?.getD 0:=⟨_,rfl⟩;have hres:Hid (Gn.picked d a (Gn.those (Gn.free c F far U) 384)=(cl:Int)):=by
      show Gn.picked d a (Gn.those (Gn.free c F far U) 384)=(cl:Int);rw [←uh hl'];unfold Gn.picked;rw [if_neg h0,←hN,hn,Int.toNat_natCast,hcl]
     have hAr':=hide hAr;have hq:Hid (H n=.int .i64 (cl:Int)):=by show H n=_;rw [hH n hnl,hcl]
     have hz:((l.length:Int) == 0)=false:=by rw [beq_eq_false_iff_ne];omega
     clear hAr hH hN hn hcl h0 n1 n2;go_wp2_with fail;refine hdN.mono ?_;rintro e wd ⟨rfl,hgd⟩;have hc2:wd.cell? ⟨g,n,none⟩=some (.int .i64 (cl:Int)):=by rw [((uh hAr').grown hgd (by simp)).cell (by omega),uh hq]
     have hg2:=hide (grown_none (uh hg1) hgd);clear hgd;go_wp2;go_ret;exact ⟨rti (uh hres).symm,uh hg2⟩

end Go.Proofs.YtldgbkjceildfaaGreat

namespace Go.Proofs.YtldgbkjceildfaaGreat

namespace Gn

theorem paintTo_2 {c:Nat→Int} {x y w h r q:Int} (hc:∀i,0≤c i∧c i≤2) (i:Nat):0≤paintTo c x y w h r q i∧paintTo c x y w h r q i≤2:=by
 unfold paintTo;split
 ·omega
 ·exact hc i

theorem digAt_2 {st:(Nat→Int) × Bool} {k:Nat} (hc:∀i,0≤st.1 i∧st.1 i≤2) (i:Nat):0≤(digAt st k).1 i∧(digAt st k).1 i≤2:=by
 unfold digAt Gr.upd;split
 ·show 0≤(if i=k then _ else st.1 i)∧(if i=k then _ else st.1 i)≤2;split
  ·split <;> omega
  ·exact hc i
 ·exact hc i

theorem digRun_2 (tx ty:Int) (first:Bool):∀(n:Nat) (st:(Nat→Int) × Bool) (x y:Int),(∀i,0≤st.1 i∧st.1 i≤2)→∀i,0≤(digRun tx ty first n st x y).1 i∧(digRun tx ty first n st x y).1 i≤2
 | 0,_,_,_,h=>digAt_2 h
 | n+1,_,_,_,h=>digRun_2 tx ty first n _ _ _ (digAt_2 h)

theorem roomed_2 (d:Dice):∀(n i:Nat),0≤roomed d n i∧roomed d n i≤2
 | 0,_=>by simp [roomed]
 | n+1,i=>paintTo_2 (roomed_2 d n) i

theorem dug_2 (d:Dice):∀(n i:Nat),0≤dug d n i∧dug d n i≤2
 | 0,i=>roomed_2 d 6 i
 | n+1,i=>by
  have h:=digRun_2 (mx d (n+1)) (my d (n+1)) (d ((n+1:Nat):Int) 4 2 == 0) (steps (mx d n) (my d n) (mx d (n+1)) (my d (n+1))) (dug d n,false) (mx d n) (my d n) (dug_2 d n) i;rw [dug];exact h

def onPath (tx ty:Int) (first:Bool):Nat→Int→Int→Nat→Prop
 | 0,x,y,k=>k=(y*24+x).toNat
 | n+1,x,y,k=>k=(y*24+x).toNat∨onPath tx ty first n (stepX x y tx ty first) (stepY x y tx ty first) k

theorem digAt_nz (st:(Nat→Int) × Bool) (k i:Nat):(digAt st k).1 i≠0↔st.1 i≠0∨i=k:=by
 unfold digAt;split
 ·rename_i h0;show Gr.upd st.1 k _ i≠0↔_;by_cases e:i=k
  ·rw [e,Gr.upd_at];simp only [or_true,iff_true];split <;> omega
  ·rw [Gr.upd_ne _ _ e];simp [e]
 ·rename_i h0;constructor
  ·exact fun h=>.inl h
  ·rintro (h|rfl)
   ·exact h
   ·exact h0

theorem digRun_nz (tx ty:Int) (first:Bool):∀(n:Nat) (st:(Nat→Int) × Bool) (x y:Int) (i:Nat),(digRun tx ty first n st x y).1 i≠0↔st.1 i≠0∨onPath tx ty first n x y i
 | 0,st,x,y,i=>digAt_nz st _ i
 | n+1,st,x,y,i=>by
  rw [digRun,digRun_nz tx ty first n,digAt_nz,onPath,or_assoc]

def inRoom (d:Dice) (k i:Nat):Prop:=rx d k≤(i % 24:Nat)∧((i % 24:Nat):Int)<rx d k+rw d k∧ry d k≤(i / 24:Nat)∧((i / 24:Nat):Int)<ry d k+rh d k

theorem paint_nz (c:Nat→Int) (x y w h:Int) (i:Nat):paint c x y w h i≠0↔c i≠0∨(x≤(i % 24:Nat)∧((i % 24:Nat):Int)<x+w∧y≤(i / 24:Nat)∧((i / 24:Nat):Int)<y+h):=by
 unfold paint paintTo;by_cases hc:(x≤(i % 24:Nat)∧((i % 24:Nat):Int)<x+w∧y≤(i / 24:Nat)∧((i / 24:Nat):Int)<y+h)
 ·rw [if_pos ⟨hc,by omega⟩];exact ⟨fun _=>.inr hc,fun _=>by omega⟩
 ·rw [if_neg (fun h=>hc h.1)];constructor
  ·exact fun h=>.inl h
  ·rintro (h|h)
   ·exact h
   ·exact absurd h hc

theorem roomed_nz (d:Dice):∀(n i:Nat),roomed d n i≠0↔∃k,k<n∧inRoom d k i
 | 0,i=>by simp [roomed]
 | n+1,i=>by
  rw [roomed,paint_nz,roomed_nz d n i];constructor
  ·rintro (⟨k,hk,h⟩|h)
   ·exact ⟨k,by omega,h⟩
   ·exact ⟨n,by omega,h⟩
  ·rintro ⟨k,hk,h⟩;by_cases e:k=n
   ·subst e;exact .inr h
   ·exact .inl ⟨k,by omega,h⟩

def path (d:Dice) (n i:Nat):Prop:=onPath (mx d (n+1)) (my d (n+1)) (d ((n+1:Nat):Int) 4 2 == 0) (steps (mx d n) (my d n) (mx d (n+1)) (my d (n+1))) (mx d n) (my d n) i

theorem dug_nz (d:Dice):∀(n i:Nat),dug d n i≠0↔(∃k,k<6∧inRoom d k i)∨∃k,k<n∧path d k i
 | 0,i=>by
  have h:dug d 0=roomed d 6:=rfl;rw [h,roomed_nz];constructor
  ·exact fun h=>.inl h
  ·rintro (h|⟨k,hk,_⟩)
   ·exact h
   ·omega
 | n+1,i=>by
  rw [dug,digRun_nz,dug_nz d n i];constructor
  ·rintro ((h|⟨k,hk,h⟩)|h)
   ·exact .inl h
   ·exact .inr ⟨k,by omega,h⟩
   ·exact .inr ⟨n,by omega,h⟩
  ·rintro (h|⟨k,hk,h⟩)
   ·exact .inl (.inl h)
   ·by_cases e:k=n
    ·subst e;exact .inr h
    ·exact .inl (.inr ⟨k,by omega,h⟩)

def Closed (c:Nat→Int) (P:Nat→Prop):Prop:=∀j e,j<384→e<4→P j→Gr.nbIn j e→c (Gr.nbOf j e)≠0→P (Gr.nbOf j e)

theorem Closed.step {c:Nat→Int} {P:Nat→Prop} (h:Closed c P) {a b:Nat} (ha:a<384) (hb:b<384) (hP:P a) (hc:c b≠0)
  (hn:(b=a+1∧a / 24=b / 24)∨(a=b+1∧a / 24=b / 24)∨b=a+24∨a=b+24):P b:=by
 have key:∃e,e<4∧Gr.nbIn a e∧((a / 24:Nat)+Gr.dyOf e)*24+((a % 24:Nat)+Gr.dxOf e)=(b:Int):=by
  rcases hn with ⟨h1,h2⟩|⟨h1,h2⟩|h1|h1
  ·exact ⟨1,by omega,by unfold Gr.nbIn;simp only [Gr.dxOf,Gr.dyOf];omega,by simp only [Gr.dxOf,Gr.dyOf];omega⟩
  ·exact ⟨3,by omega,by unfold Gr.nbIn;simp only [Gr.dxOf,Gr.dyOf];omega,by simp only [Gr.dxOf,Gr.dyOf];omega⟩
  ·exact ⟨2,by omega,by unfold Gr.nbIn;simp only [Gr.dxOf,Gr.dyOf];omega,by simp only [Gr.dxOf,Gr.dyOf];omega⟩
  ·exact ⟨0,by omega,by unfold Gr.nbIn;simp only [Gr.dxOf,Gr.dyOf];omega,by simp only [Gr.dxOf,Gr.dyOf];omega⟩
 obtain ⟨e,he,hin,hv⟩:=key;have hb2:Gr.nbOf a e=b:=by have:=Gr.nb_eq hin;omega
 have:=h a e ha he hP hin (by rw [hb2];exact hc)
 rwa [hb2] at this

theorem step_near (x y tx ty:Int) (first:Bool) (h:¬(x=tx∧y=ty)) :
  (stepX x y tx ty first=x+1∧stepY x y tx ty first=y)∨(stepX x y tx ty first=x - 1∧stepY x y tx ty first=y)∨(stepX x y tx ty first=x∧stepY x y tx ty first=y+1)∨(stepX x y tx ty first=x∧stepY x y tx ty first=y - 1):=by
 unfold stepX stepY to1;by_cases hw:way x y tx ty first=true
 ·rw [if_pos hw,if_pos hw];have hx:x≠tx:=by
   unfold way at hw;intro e;simp only [Bool.or_eq_true,beq_iff_eq,Bool.and_eq_true,bne_iff_ne,ne_eq] at hw;rcases hw with hw|⟨_,hw⟩
   ·exact h ⟨e,hw⟩
   ·exact hw e
  split
  ·exact .inl ⟨rfl,rfl⟩
  ·split
   ·exact .inr (.inl ⟨rfl,rfl⟩)
   ·omega
 ·rw [if_neg hw,if_neg hw];have hy:y≠ty:=by
   unfold way at hw;intro e;simp [e] at hw
  split
  ·exact .inr (.inr (.inl ⟨rfl,rfl⟩))
  ·split
   ·exact .inr (.inr (.inr ⟨rfl,rfl⟩))
   ·omega

theorem Closed.along {c:Nat→Int} {P:Nat→Prop} (h:Closed c P) (tx ty:Int) (first:Bool) (ht:(1≤tx∧tx≤22)∧1≤ty∧ty≤14):∀(n:Nat) (x y:Int),n=steps x y tx ty→(1≤x∧x≤22)∧1≤y∧y≤14→P (y*24+x).toNat→(∀i,onPath tx ty first n x y i→c i≠0) →
  (∀i,onPath tx ty first n x y i→P i)∧onPath tx ty first n x y (ty*24+tx).toNat
 | 0,x,y,hn,hb,hP,hc=>by
  have e:x=tx∧y=ty:=by unfold steps at hn;omega
  refine ⟨fun i hi=>?_,?_⟩
  ·have hi':i=(y*24+x).toNat:=hi;rw [hi'];exact hP
  ·show (ty*24+tx).toNat=(y*24+x).toNat;rw [e.1,e.2]
 | n+1,x,y,hn,hb,hP,hc=>by
  have hne:¬(x=tx∧y=ty):=by
   rintro ⟨rfl,rfl⟩;unfold steps at hn;omega
  have hl:=step_less x y tx ty first hne;have hb':=step_bd x y tx ty first hb ht;have hsn:=step_near x y tx ty first hne;have hPn:P (stepY x y tx ty first*24+stepX x y tx ty first).toNat:=by
   refine h.step (a:=(y*24+x).toNat) (by omega) (by omega) hP (hc _ (.inr ?_)) (by omega);cases n with
   | zero=>rfl
   | succ m=>exact .inl rfl
  obtain ⟨h1,h2⟩:=Closed.along h tx ty first ht n (stepX x y tx ty first) (stepY x y tx ty first) (by omega) hb' hPn (fun i hi=>hc i (.inr hi));refine ⟨fun i hi=>?_,.inr h2⟩;rcases hi with rfl|hi
  ·exact hP
  ·exact h1 i hi

theorem Closed.rowTo {c:Nat→Int} {P:Nat→Prop} (h:Closed c P) (x0 y0 w0 h0:Int) (hb:1≤x0∧x0+w0≤23∧1≤y0∧y0+h0≤15) (hc:∀x y,x0≤x→x<x0+w0→y0≤y→y<y0+h0→c (y*24+x).toNat≠0) :
  ∀(n:Nat) (x y x':Int),n=(x' - x).natAbs→x0≤x→x<x0+w0→x0≤x'→x'<x0+w0→y0≤y→y<y0+h0→P (y*24+x).toNat→P (y*24+x').toNat
 | 0,x,y,x',hn,_,_,_,_,_,_,hP=>by
  have:x'=x:=by omega
  rw [this];exact hP
 | n+1,x,y,x',hn,h1,h2,h3,h4,h5,h6,hP=>by
  by_cases hlt:x<x'
  ·refine Closed.rowTo h x0 y0 w0 h0 hb hc n (x+1) y x' (by omega) (by omega) (by omega) h3 h4 h5 h6 ?_;exact h.step (a:=(y*24+x).toNat) (by omega) (by omega) hP (hc _ _ (by omega) (by omega) h5 h6) (by omega)
  ·refine Closed.rowTo h x0 y0 w0 h0 hb hc n (x - 1) y x' (by omega) (by omega) (by omega) h3 h4 h5 h6 ?_;exact h.step (a:=(y*24+x).toNat) (by omega) (by omega) hP (hc _ _ (by omega) (by omega) h5 h6) (by omega)

theorem Closed.colTo {c:Nat→Int} {P:Nat→Prop} (h:Closed c P) (x0 y0 w0 h0:Int) (hb:1≤x0∧x0+w0≤23∧1≤y0∧y0+h0≤15) (hc:∀x y,x0≤x→x<x0+w0→y0≤y→y<y0+h0→c (y*24+x).toNat≠0) :
  ∀(n:Nat) (x y y':Int),n=(y' - y).natAbs→x0≤x→x<x0+w0→y0≤y→y<y0+h0→y0≤y'→y'<y0+h0→P (y*24+x).toNat→P (y'*24+x).toNat
 | 0,x,y,y',hn,_,_,_,_,_,_,hP=>by
  have:y'=y:=by omega
  rw [this];exact hP
 | n+1,x,y,y',hn,h1,h2,h3,h4,h5,h6,hP=>by
  by_cases hlt:y<y'
  ·refine Closed.colTo h x0 y0 w0 h0 hb hc n x (y+1) y' (by omega) h1 h2 (by omega) (by omega) h5 h6 ?_;exact h.step (a:=(y*24+x).toNat) (by omega) (by omega) hP (hc _ _ h1 h2 (by omega) (by omega)) (by omega)
  ·refine Closed.colTo h x0 y0 w0 h0 hb hc n x (y - 1) y' (by omega) h1 h2 (by omega) (by omega) h5 h6 ?_;exact h.step (a:=(y*24+x).toNat) (by omega) (by omega) hP (hc _ _ h1 h2 (by omega) (by omega)) (by omega)

theorem inRoom_at {d:Dice} (hd:Fair d) {k:Nat} {x y:Int} (h1:rx d k≤x) (h2:x<rx d k+rw d k) (h3:ry d k≤y) (h4:y<ry d k+rh d k):inRoom d k (y*24+x).toNat:=by
 have:=room_bd hd k;unfold inRoom;omega

theorem mid_in {d:Dice} (hd:Fair d) (k:Nat):rx d k≤mx d k∧mx d k<rx d k+rw d k∧ry d k≤my d k∧my d k<ry d k+rh d k:=by
 have:=room_bd hd k;unfold mx my;omega

theorem hangs {d:Dice} (hd:Fair d) {c:Nat→Int} (hz:∀i,i<384→(c i≠0↔dug d 5 i≠0)) {P:Nat→Prop} (hC:Closed c P) (hP:P (up d)) (i:Nat) (hi:i<384) (hc:c i≠0):P i:=by
 have hroomc:∀k,k<6→∀x y,rx d k≤x→x<rx d k+rw d k→ry d k≤y→y<ry d k+rh d k→c (y*24+x).toNat≠0:=by
  intro k hk x y h1 h2 h3 h4;have hb:=room_bd hd k;exact (hz _ (by omega)).2 ((dug_nz d 5 _).2 (.inl ⟨k,hk,inRoom_at hd h1 h2 h3 h4⟩))
 have hpathlt:∀k,∀i,path d k i→i<384:=by
  intro k;have key:∀(n:Nat) (x y:Int),(1≤x∧x≤22)∧1≤y∧y≤14→∀i,onPath (mx d (k+1)) (my d (k+1)) (d ((k+1:Nat):Int) 4 2 == 0) n x y i→i<384:=by
   have ht:=mid_bd hd (k+1);intro n;induction n with
   | zero =>
    intro x y hb i hi;have hi':i=(y*24+x).toNat:=hi;omega
   | succ n ih =>
    intro x y hb i hi;rcases hi with rfl|hi
    ·omega
    ·exact ih _ _ (step_bd x y _ _ _ hb (by omega)) i hi
  have hb:=mid_bd hd k;exact key _ _ _ (by omega)
 have hmids:∀k,k<6→P (my d k*24+mx d k).toNat∧(k<5→∀i,path d k i→P i):=by
  intro k;induction k with
  | zero =>
   intro _;have hb:=mid_bd hd 0;have hb1:=mid_bd hd 1;refine ⟨hP,fun h5 i hi=>?_⟩;exact (Closed.along hC (mx d 1) (my d 1) (d ((1:Nat):Int) 4 2 == 0) (by omega) _ (mx d 0) (my d 0) rfl (by omega) hP (fun j hj=>(hz j (hpathlt 0 j hj)).2 ((dug_nz d 5 j).2 (.inr ⟨0,by omega,hj⟩)))).1 i hi
  | succ k ih =>
   intro hk;obtain ⟨ih1,_⟩:=ih (by omega);have hb:=mid_bd hd k;have hb1:=mid_bd hd (k+1);have hb2:=mid_bd hd (k+1+1);have hal:=Closed.along hC (mx d (k+1)) (my d (k+1)) (d ((k+1:Nat):Int) 4 2 == 0) (by omega) _ (mx d k) (my d k) rfl (by omega) ih1 (fun j hj=>(hz j (hpathlt k j hj)).2 ((dug_nz d 5 j).2 (.inr ⟨k,by omega,hj⟩)));have hPm:=hal.1 _ hal.2;refine ⟨hPm,fun h5 i hi=>?_⟩;exact (Closed.along hC (mx d (k+1+1)) (my d (k+1+1)) (d ((k+1+1:Nat):Int) 4 2 == 0) (by omega) _ (mx d (k+1)) (my d (k+1)) rfl (by omega) hPm (fun j hj=>(hz j (hpathlt (k+1) j hj)).2 ((dug_nz d 5 j).2 (.inr ⟨k+1,by omega,hj⟩)))).1 i hi
 rcases (dug_nz d 5 i).1 ((hz i hi).1 hc) with ⟨k,hk,hin⟩|⟨k,hk,hpa⟩
 ·have hb:=room_bd hd k;have hm:=mid_in hd k;have h0:=(hmids k hk).1;unfold inRoom at hin;have h1:=Closed.rowTo hC (rx d k) (ry d k) (rw d k) (rh d k) (by omega) (hroomc k hk) _ (mx d k) (my d k) ((i % 24:Nat):Int) rfl hm.1 hm.2.1 hin.1 hin.2.1 hm.2.2.1 hm.2.2.2 h0;have h2:=Closed.colTo hC (rx d k) (ry d k) (rw d k) (rh d k) (by omega) (hroomc k hk) _ ((i % 24:Nat):Int) (my d k) ((i / 24:Nat):Int) rfl hin.1 hin.2.1 hm.2.2.1 hm.2.2.2 hin.2.2.1 hin.2.2.2 h1
  rwa [show (((i / 24:Nat):Int)*24+((i % 24:Nat):Int)).toNat=i by omega] at h2
 ·exact (hmids k (by omega)).2 hk i hpa

end Gn

end Go.Proofs.YtldgbkjceildfaaGreat

namespace Go.Proofs.YtldgbkjceildfaaGreat

namespace Gn

theorem path_in {d:Dice} (hd:Fair d) (k i:Nat) (h:path d k i):i<384∧1≤i % 24∧i % 24≤22∧1≤i / 24∧i / 24≤14:=by
 have key:∀(n:Nat) (x y:Int),(1≤x∧x≤22)∧1≤y∧y≤14→∀i,onPath (mx d (k+1)) (my d (k+1)) (d ((k+1:Nat):Int) 4 2 == 0) n x y i→i<384∧1≤i % 24∧i % 24≤22∧1≤i / 24∧i / 24≤14:=by
  have ht:=mid_bd hd (k+1);intro n;induction n with
  | zero =>
   intro x y hb i hi;have hi':i=(y*24+x).toNat:=hi;omega
  | succ n ih =>
   intro x y hb i hi;rcases hi with rfl|hi
   ·omega
   ·exact ih _ _ (step_bd x y _ _ _ hb (by omega)) i hi
 have hb:=mid_bd hd k;exact key _ _ _ (by omega) i h

theorem dug_in {d:Dice} (hd:Fair d) (i:Nat) (h:dug d 5 i≠0):1≤i % 24∧i % 24≤22∧1≤i / 24∧i / 24≤14:=by
 rcases (dug_nz d 5 i).1 h with ⟨k,_,hin⟩|⟨k,_,hp⟩
 ·have hb:=room_bd hd k;unfold inRoom at hin;omega
 ·exact (path_in hd k i hp).2

theorem up_lt {d:Dice} (hd:Fair d):up d<384:=by
 have:=mid_bd hd 0;unfold up;omega

theorem beside_up {d:Dice} (hd:Fair d):dug d 5 (up d - 1)≠0∧dug d 5 (up d)≠0∧1≤up d∧(up d - 1) / 24=up d / 24:=by
 have hb:=room_bd hd 0;have hm:=mid_in hd 0;have hu:=up_eq hd;have hmb:=mid_bd hd 0;have hx:rx d 0≤mx d 0 - 1:=by unfold mx;omega
 refine ⟨(dug_nz d 5 _).2 (.inl ⟨0,by omega,?_⟩),(dug_nz d 5 _).2 (.inl ⟨0,by omega,?_⟩),by omega,by omega⟩
 ·have h:=inRoom_at hd (k:=0) (x:=mx d 0 - 1) (y:=my d 0) hx (by omega) hm.2.2.1 hm.2.2.2
  rwa [show (my d 0*24+(mx d 0 - 1)).toNat=up d - 1 by omega] at h
 ·have h:=inRoom_at hd (k:=0) (x:=mx d 0) (y:=my d 0) hm.1 hm.2.1 hm.2.2.1 hm.2.2.2
  rwa [show (my d 0*24+mx d 0).toNat=up d by omega] at h

theorem base_up (d:Dice):base d (up d)=3:=Gr.upd_at _ _ _
theorem base_ne (d:Dice) {i:Nat} (h:i≠up d):base d i=dug d 5 i:=Gr.upd_ne _ _ h

theorem base_nz {d:Dice} (hd:Fair d) (i:Nat):base d i≠0↔dug d 5 i≠0:=by
 by_cases e:i=up d
 ·rw [e,base_up];have:=(beside_up hd).2.1;constructor
  ·exact fun _=>this
  ·exact fun _=>by omega
 ·rw [base_ne d e]

theorem walk_nz {c:Int} (h:0≤c∧c≤5):Gr.walkB c=true↔c≠0:=by
 rw [Gr.walkB_iff];omega

structure Facts (d:Dice) (c F:Nat→Int) (far:Nat):Prop where
 five:∀i,0≤c i∧c i≤5
 nz:∀i,c i≠0↔dug d 5 i≠0
 upl:up d<384
 farl:far<384
 is3:∀i,c i=3↔i=up d
 is4:∀i,c i=4↔i=far
 door:∀i,c i=2→dug d 5 i=2
 fld:Gr.IsField (fun i=>Gr.walkB (c i)=true) (fun i=>i=up d) F
 pos:0<F far
 five1:(∀i,c i≠5)∨∃k,k<384∧∀i,c i=5↔i=k

theorem IsLevel.facts {d:Dice} (hd:Fair d) {c F:Nat→Int} (h:IsLevel d c F):∃far,Facts d c F far:=by
 have h5:=h.five;obtain ⟨far,hF,hfar,hc⟩:=h;refine ⟨far,?_⟩;have hul:=up_lt hd;obtain ⟨b1,b2,b3,b4⟩:=beside_up hd;have hF0:F (up d)=0:=(hF.is.zero _ hul).2 rfl
 -- the cell left of it is one step away
 have hleft:0<F (up d - 1):=by
  have hin:Gr.nbIn (up d) 3∧((up d / 24:Nat)+Gr.dyOf 3)*24+((up d % 24:Nat)+Gr.dxOf 3)=((up d - 1:Nat):Int):=by
   have hdi:=dug_in hd _ b2;unfold Gr.nbIn;simp only [Gr.dxOf,Gr.dyOf];omega
  have hnb:Gr.nbOf (up d) 3=up d - 1:=by have:=Gr.nb_eq hin.1;omega
  have hfw:=hF.is.fwd (up d) hul (by omega) 3 (by omega) hin.1 (by rw [hnb];exact (walk_nz (base_5 d _)).2 ((base_nz hd _).2 b1));rw [hnb] at hfw;have hne:F (up d - 1)≠0:=fun e=>by have:=(hF.is.zero (up d - 1) (by omega)).1 e;omega
  omega
 have hpos:0<F far:=by have:=hfar.top (up d - 1) (by omega);omega
 have hfu:far≠up d:=fun e=>by rw [e] at hpos;omega
 -- the furthest cell is no wall
 have hfn:base d far≠0:=(walk_nz (base_5 d far)).1 ((hF.is.back far hfar.lt hpos).1);obtain ⟨c2,hc2⟩:∃c2,c2=Gr.upd (base d) far 4:=⟨_,rfl⟩;have c2far:c2 far=4:=by rw [hc2];exact Gr.upd_at _ _ _
 have c2ne:∀i,i≠far→c2 i=base d i:=fun i hi=>by rw [hc2];exact Gr.upd_ne _ _ hi
 have c2up:c2 (up d)=3:=by rw [c2ne _ (fun e=>hfu e.symm),base_up]
 have c2old:∀i,i≠far→i≠up d→c2 i=dug d 5 i:=fun i h1 h2=>by rw [c2ne i h1,base_ne d h2]
 -- what the shop does
 have hshop:(∀i,c i=c2 i)∨∃k,k<384∧c2 k=1∧∀i,c i=if i=k then 5 else c2 i:=by
  rw [hc];unfold stocked;rw [←hc2];split
  ·cases hs:shop c2 F (F far / 2) with
   | none=>exact .inl fun i=>rfl
   | some k =>
    right;unfold shop at hs;rw [List.find?_range_eq_some] at hs;obtain ⟨hp,hk,_⟩:=hs;rw [Bool.and_eq_true] at hp;exact ⟨k,List.mem_range.1 hk,by simpa using hp.2,fun i=>rfl⟩
  ·exact .inl fun i=>rfl
 have h2all:∀i,0≤dug d 5 i∧dug d 5 i≤2:=dug_2 d 5;have c2nz:∀i,c2 i≠0↔dug d 5 i≠0:=by
  intro i;by_cases e1:i=far
  ·rw [e1,c2far];exact ⟨fun _=>(base_nz hd far).1 hfn,fun _=>by omega⟩
  ·rw [c2ne i e1];exact base_nz hd i
 have c3:∀i,c2 i=3↔i=up d:=by
  intro i;constructor
  ·intro h;by_cases e2:i=up d
   ·exact e2
   ·by_cases e1:i=far
    ·rw [e1,c2far] at h;omega
    ·rw [c2old i e1 e2] at h;have:=h2all i;omega
  ·intro e;rw [e];exact c2up
 have c4:∀i,c2 i=4↔i=far:=by
  intro i;constructor
  ·intro h;by_cases e1:i=far
   ·exact e1
   ·by_cases e2:i=up d
    ·rw [e2,c2up] at h;omega
    ·rw [c2old i e1 e2] at h;have:=h2all i;omega
  ·intro e;rw [e];exact c2far
 have c5:∀i,c2 i≠5:=by
  intro i;by_cases e1:i=far
  ·rw [e1,c2far];omega
  ·by_cases e2:i=up d
   ·rw [e2,c2up];omega
   ·rw [c2old i e1 e2];have:=h2all i;omega
 have cdoor:∀i,c2 i=2→dug d 5 i=2:=by
  intro i h;by_cases e1:i=far
  ·rw [e1,c2far] at h;omega
  ·by_cases e2:i=up d
   ·rw [e2,c2up] at h;omega
   ·rw [c2old i e1 e2] at h;exact h
 have hnz:∀i,c i≠0↔dug d 5 i≠0:=by
  intro i;rcases hshop with hs|⟨k,hk,hk1,hs⟩
  ·rw [hs i];exact c2nz i
  ·rw [hs i];by_cases e:i=k
   ·rw [if_pos e];have:=(c2nz k).1 (by omega);rw [e];exact ⟨fun _=>this,fun _=>by omega⟩
   ·rw [if_neg e];exact c2nz i
 refine ⟨h5,hnz,hul,hfar.lt,?_,?_,?_,?_,hpos,?_⟩
 ·intro i;rcases hshop with hs|⟨k,hk,hk1,hs⟩
  ·rw [hs i];exact c3 i
  ·rw [hs i];by_cases e:i=k
   ·rw [if_pos e];constructor
    ·intro h;omega
    ·intro e2;rw [←e,e2,c2up] at hk1;omega
   ·rw [if_neg e];exact c3 i
 ·intro i;rcases hshop with hs|⟨k,hk,hk1,hs⟩
  ·rw [hs i];exact c4 i
  ·rw [hs i];by_cases e:i=k
   ·rw [if_pos e];constructor
    ·intro h;omega
    ·intro e2;rw [←e,e2,c2far] at hk1;omega
   ·rw [if_neg e];exact c4 i
 ·intro i hi;rcases hshop with hs|⟨k,hk,hk1,hs⟩
  ·rw [hs i] at hi;exact cdoor i hi
  ·rw [hs i] at hi;by_cases e:i=k
   ·rw [if_pos e] at hi;omega
   ·rw [if_neg e] at hi;exact cdoor i hi
 ·refine isField_congr hF.is (fun i _=>?_) (fun _ _=>Iff.rfl) (fun _ _=>rfl);rw [walk_nz (base_5 d i),walk_nz (h5 i),base_nz hd i,hnz i]
 ·rcases hshop with hs|⟨k,hk,hk1,hs⟩
  ·left;intro i;rw [hs i];exact c5 i
  ·right;refine ⟨k,hk,fun i=>?_⟩;rw [hs i];by_cases e:i=k
   ·rw [if_pos e];simp [e]
   ·rw [if_neg e];constructor
    ·intro h;exact absurd h (c5 i)
    ·intro h;exact absurd h e

theorem Facts.reach {d:Dice} (hd:Fair d) {c F:Nat→Int} {far:Nat} (h:Facts d c F far) (i:Nat) (hi:i<384):0≤F i↔c i≠0:=by
 constructor
 ·intro h0;by_cases e:F i=0
  ·have:=(h.fld.zero i hi).1 e;rw [this,(h.is3 _).2 rfl];omega
  ·exact (walk_nz (h.five i)).1 (h.fld.back i hi (by omega)).1
 ·intro hc;refine hangs hd (c:=c) (fun j _=>h.nz j) (P:=fun j=>0≤F j) ?_ ?_ i hi hc
  ·intro j e hj he hP hin hcn;exact (h.fld.fwd j hj hP e he hin ((walk_nz (h.five _)).2 hcn)).1
  ·have:=(h.fld.zero _ h.upl).2 rfl;omega

theorem findFrom_at (c:Nat→Int) (v:Int) (k:Nat) (hk:c k=v) (hn:∀i,i<k→c i≠v):∀(n m:Nat),m≤k→k<m+n→Gr.findFrom c v n m=(k:Int)
 | 0,m,h1,h2=>by omega
 | n+1,m,h1,h2=>by
  unfold Gr.findFrom;by_cases e:m=k
  ·rw [e,if_pos hk]
  ·rw [if_neg (hn m (by omega))];exact findFrom_at c v k hk hn n (m+1) (by omega) (by omega)

theorem findFrom_no (c:Nat→Int) (v:Int) (hn:∀i,c i≠v):∀(n m:Nat),Gr.findFrom c v n m=-1
 | 0,m=>rfl
 | n+1,m=>by
  unfold Gr.findFrom;rw [if_neg (hn m)];exact findFrom_no c v hn n (m+1)

theorem find_at {c:Nat→Int} {v:Int} {k:Nat} (hk:k<384) (h:∀i,c i=v↔i=k):Gr.find 384 c v=(k:Int):=by
 unfold Gr.find;rw [show min 384 384=384 by omega];exact findFrom_at c v k ((h k).2 rfl) (fun i hi e=>by have:=(h i).1 e;omega) 384 0 (by omega) (by omega)

theorem find_no {c:Nat→Int} {v:Int} (h:∀i,c i≠v):Gr.find 384 c v=-1:=findFrom_no c v h _ _

end Gn


open Go.RowKit

def cdrop:Nat→Code→Code
 | 0,c=>c
 | n+1,.seq _ b=>cdrop n b
 | _+1,c=>c

namespace Gn

def mark (U:Nat→Bool) (k i:Nat):Bool:=if i=k then true else U i

theorem filter_erase:∀(l:List Nat) (n:Nat) (h:n<l.length),l.Nodup→l.filter (fun i=>decide (i≠l[n]))=l.eraseIdx n
 | x :: l,0,_,hn=>by
  have hx:x ∉ l:=(List.nodup_cons.1 hn).1;show (x :: l).filter (fun i=>decide (i≠x))=l;rw [List.filter_cons_of_neg (by simp)];refine List.filter_eq_self.2 fun a ha=>?_;simp only [decide_eq_true_eq];rintro rfl;exact hx ha
 | x :: l,n+1,h,hn=>by
  have hx:=List.nodup_cons.1 hn;have hl:n<l.length:=by simpa using h
  show (x :: l).filter (fun i=>decide (i≠l[n]))=x :: l.eraseIdx n;rw [List.filter_cons_of_pos,filter_erase l n hl hx.2];simp only [decide_eq_true_eq];intro e;exact hx.1 (e ▸ List.getElem_mem hl)

theorem those_nodup (p:Nat→Bool) (n:Nat):(those p n).Nodup:=List.Pairwise.filter _ List.nodup_range

theorem free_mark (c F:Nat→Int) (far:Int) (U:Nat→Bool) (n:Nat) (hn:n<(those (free c F far U) 384).length) :
  those (free c F far (mark U ((those (free c F far U) 384)[n]?.getD 0))) 384=(those (free c F far U) 384).eraseIdx n:=by
 rw [←filter_erase _ n hn (those_nodup _ _),List.getElem?_eq_getElem hn,Option.getD_some];generalize (those (free c F far U) 384)[n]=x;unfold those;rw [List.filter_filter];congr 1;funext i;unfold free mark;by_cases e:i=x
 ·subst e;simp
 ·simp [e]

theorem free_start4 (c F:Nat→Int):those (free c F 4 (fun _=>false)) 384=(those (fun i=>c i == 1) 384).filter (afar F):=by
 unfold those;rw [List.filter_filter];congr 1;funext i;unfold free afar;have h:decide (4≤F i)=!decide (F i<4):=by
  by_cases h:F i<4
  ·rw [decide_eq_true h,decide_eq_false (by omega)];rfl
  ·rw [decide_eq_false h,decide_eq_true (by omega)];rfl
 rw [h];cases (c i == 1) <;> simp

theorem free_start0 {c F:Nat→Int} (h:∀i,i<384→c i=1→0≤F i):those (free c F 0 (fun _=>false)) 384=those (fun i=>c i == 1) 384:=by
 unfold those;refine List.filter_congr fun i hi=>?_;have hi':=List.mem_range.1 hi;unfold free;by_cases e:c i=1
 ·rw [decide_eq_true (h i hi' e),e];rfl
 ·rw [show (c i == 1)=false by simpa using e];rfl

theorem those_lt {p:Nat→Bool} {m n:Nat} (hn:n<(those p m).length):(those p m)[n]?.getD 0<m:=by
 rw [List.getElem?_eq_getElem hn];exact List.mem_range.1 (List.mem_filter.1 (List.getElem_mem hn)).1

theorem picked_none {d:Dice} {a:Int} {l:List Nat} (h:l.length=0):picked d a l=-1:=if_pos h

theorem picked_some {d:Dice} {a:Int} {l:List Nat} {n:Nat} (h:l.length≠0) (hn:d a 0 (l.length:Int)=(n:Int)):picked d a l=((l[n]?.getD 0:Nat):Int):=by
 unfold picked;rw [if_neg h,hn,Int.toNat_natCast]

theorem lie_nil {d:Dice} {l:List Nat} (h:l.length=0) (m k:Nat):lie d m k l=[]:=by
 cases m with
 | zero=>rfl
 | succ m=>unfold lie;rw [if_pos h]

theorem mons_nil {d:Dice} {f:Int} {l:List Nat} (h:l.length=0) (m k:Nat):mons d f m k l=[]:=by
 cases m with
 | zero=>rfl
 | succ m=>unfold mons;rw [if_pos h]

end Gn

theorem Arr.mark {w:World} {g n:Nat} {T:TypeId} {U:Nat→Bool} (h:Arr w g T n (Bols U)) (i:Nat):Arr (w.setCell ⟨g,i,none⟩ (.bool true)) g T n (Bols (Gn.mark U i)):=by
 refine (h.store i (.bool true)).congr fun j _=>?_;unfold Bols Gn.mark;by_cases e:j=i
 ·rw [if_pos e,if_pos e]
 ·rw [if_neg e,if_neg e]

theorem info_bool:(Tryz.prog.info? 4).map (fun i=>(i.zero,i.size,i.bytes))=some (some (.bool false),1,1):=by kernel_rfl

def RefDone (w:World) (d:Gn.Dice) (f:Int) (e:Ending) (w':World):Prop :=
 ∃(c F:Nat→Int) (G nE nI cE cI:Nat) (aE aI:Option Addr),Gn.IsLevel d c F∧e=.returned (.agg #[.slice (some ⟨G,0,none⟩) 384 384,.slice aE nE cE,.slice aI nI cI])∧w.heap.size≤G∧Arr w' G 5 384 (Byts c) ∧
  nE=(Gn.ents d f c F).length∧nI=(Gn.items d c).length∧w'.ownsRow w.heap.size 70 11 (.slice aE nE cE) nE (Gn.flat (Gn.ents d f c F))∧w'.ownsRow w.heap.size 72 4 (.slice aI nI cI) nI (Gn.flatI (Gn.items d c))∧w.grownBy w' none

structure RefBase (w:World) (B G gF L:Nat) (c F:Nat→Int) (vE:Value) (nE:Nat) (xs:List Value) (vI:Value) (wr:World):Prop where
 cells:Arr wr G 5 384 (Byts c)
 fld:Arr wr gF 3 384 (Ints F)
 res:Arr wr B 85 3 (fun _=>.slice none 0 0)
 box:Arr wr L 85 3 (fun j=>if j=0 then .slice (some ⟨G,0,none⟩) 384 384 else if j=1 then vE else vI)
 ents:wr.ownsRow (L+1) 70 11 vE nE xs
 grown:w.grownBy wr none
 o0:w.heap.size≤B
 o1:B<G
 o2:G<gF
 o3:gF<L

theorem RefBase.own {w:World} {B G gF L:Nat} {c F:Nat→Int} {vE:Value} {nE:Nat} {xs:List Value} {vI:Value} {wr wx:World} {r:Option Nat} (h:RefBase w B G gF L c F vE nE xs vI wr) (hg:wr.grownBy wx r) (hr:∀n,r=some n→L<n∧vE.ownBlock≠some n):RefBase w B G gF L c F vE nE xs vI wx:=by
 have h0:=h.o0;have h1:=h.o1;have h2:=h.o2;have h3:=h.o3;refine ⟨h.cells.grown hg (fun e=>?_),h.fld.grown hg (fun e=>?_),h.res.grown hg (fun e=>?_),h.box.grown hg (fun e=>?_),h.ents.kept hg ?_,gow h.grown hg (fun n e=>?_),h0,h1,h2,h3⟩
 ·have:=(hr _ e).1;omega
 ·have:=(hr _ e).1;omega
 ·have:=(hr _ e).1;omega
 ·have:=(hr _ e).1;omega
 ·cases hv:vE.ownBlock with
  | none=>exact .inl rfl
  | some n=>exact .inr fun e=>(hr n e.symm).2 hv
 ·have:=(hr _ e).1;omega

theorem RefBase.on {w:World} {B G gF L:Nat} {c F:Nat→Int} {vE:Value} {nE:Nat} {xs:List Value} {vI:Value} {wr wx:World} (h:RefBase w B G gF L c F vE nE xs vI wr) (hg:wr.grownBy wx none):RefBase w B G gF L c F vE nE xs vI wx :=
 h.own hg (fun n e=>by cases e)

theorem RefBase.setI {w:World} {B G gF L:Nat} {c F:Nat→Int} {vE:Value} {nE:Nat} {xs:List Value} {vI:Value} {wr:World} (h:RefBase w B G gF L c F vE nE xs vI wr) (vN:Value):RefBase w B G gF L c F vE nE xs vN (wr.setCell ⟨L,2,none⟩ vN):=by
 have h0:=h.o0;have h1:=h.o1;have h2:=h.o2;have h3:=h.o3;have hg:=gpt wr L 2 vN;refine ⟨h.cells.grown hg (by simp;omega),h.fld.grown hg (by simp;omega),h.res.grown hg (by simp;omega),(h.box.store 2 vN).congr fun j hj=>?_,h.ents.kept hg ?_,gow h.grown hg (fun n e=>by cases e;omega),h0,h1,h2,h3⟩
 ·rcases (show j=0∨j=1∨j=2 by omega) with rfl|rfl|rfl <;> rfl
 ·cases hv:vE.ownBlock with
  | none=>exact .inl rfl
  | some n=>exact .inr fun e=>by have:=(h.ents.lt n hv).1;cases e;omega

theorem RefBase.setE {w:World} {B G gF L:Nat} {c F:Nat→Int} {vE:Value} {nE:Nat} {xs:List Value} {vI:Value} {wr wx:World} (h:RefBase w B G gF L c F vE nE xs vI wr) (hg:wr.grownBy wx vE.ownBlock) {vN:Value} {n':Nat} {xs':List Value} (hN:wx.ownsRow (L+1) 70 11 vN n' xs'):RefBase w B G gF L c F vN n' xs' vI (wx.setCell ⟨L,1,none⟩ vN):=by
 have h0:=h.o0;have h1:=h.o1;have h2:=h.o2;have h3:=h.o3;have hp:=gpt wx L 1 vN;have hL:∀n,vE.ownBlock=some n→L<n:=fun n e=>(h.ents.lt n e).1;refine ⟨(h.cells.grown hg (fun e=>?_)).grown hp (by simp;omega),(h.fld.grown hg (fun e=>?_)).grown hp (by simp;omega),(h.res.grown hg (fun e=>?_)).grown hp (by simp;omega),((h.box.grown hg (fun e=>?_)).store 1 vN).congr fun j hj=>?_,hN.kept hp ?_,gow (gow h.grown hg (fun n e=>?_)) hp (fun n e=>by cases e;omega),h0,h1,h2,h3⟩
 ·have:=hL _ e;omega
 ·have:=hL _ e;omega
 ·have:=hL _ e;omega
 ·have:=hL _ e;omega
 ·rcases (show j=0∨j=1∨j=2 by omega) with rfl|rfl|rfl <;> rfl
 ·cases hv:vN.ownBlock with
  | none=>exact .inl rfl
  | some n=>exact .inr fun e=>by have:=(hN.lt n hv).1;cases e;omega
 ·have:=hL _ e;omega

structure RefItm (w:World) (B G gF L U bI:Nat) (c F:Nat→Int) (vE:Value) (nE:Nat) (xs:List Value) (vI:Value) (M:Nat→Bool) (acc:List Gn.Itm) (wr:World):Prop where
 base:RefBase w B G gF L c F vE nE xs vI wr
 used:Arr wr U 4 384 (Bols M)
 items:wr.ownsRow bI 72 4 vI acc.length (Gn.flatI acc)
 sep:∀n,vE.ownBlock=some n→n<U
 o4:L<U
 o5:U<bI
 o6:bI≤wr.heap.size

theorem RefItm.on {w:World} {B G gF L U bI:Nat} {c F:Nat→Int} {vE:Value} {nE:Nat} {xs:List Value} {vI:Value} {M:Nat→Bool} {acc:List Gn.Itm} {wr wx:World} (h:RefItm w B G gF L U bI c F vE nE xs vI M acc wr) (hg:wr.grownBy wx none):RefItm w B G gF L U bI c F vE nE xs vI M acc wx :=
 ⟨h.base.on hg,h.used.grown hg (by simp),h.items.kept hg (by cases vI.ownBlock <;> simp),h.sep,h.o4,h.o5,Nat.le_trans h.o6 hg.size⟩

theorem RefItm.mark {w:World} {B G gF L U bI:Nat} {c F:Nat→Int} {vE:Value} {nE:Nat} {xs:List Value} {vI:Value} {M:Nat→Bool} {acc:List Gn.Itm} {wr:World} (h:RefItm w B G gF L U bI c F vE nE xs vI M acc wr) (k:Nat):RefItm w B G gF L U bI c F vE nE xs vI (Gn.mark M k) acc (wr.setCell ⟨U,k,none⟩ (.bool true)):=by
 have hg:=gpt wr U k (.bool true);have h5:=h.o5;refine ⟨h.base.own hg (fun n e=>?_),h.used.mark k,h.items.kept hg ?_,h.sep,h.o4,h.o5,Nat.le_trans h.o6 hg.size⟩
 ·cases e
  exact ⟨h.o4,fun e=>by have:=h.sep _ e;omega⟩
 ·cases hv:vI.ownBlock with
  | none=>exact .inl rfl
  | some n=>exact .inr fun e=>by have:=(h.items.lt n hv).1;cases e;omega

theorem RefItm.add {w:World} {B G gF L U bI:Nat} {c F:Nat→Int} {vE:Value} {nE:Nat} {xs:List Value} {vI vN:Value} {M:Nat→Bool} {acc:List Gn.Itm} {p:Gn.Itm} {wr wx:World} (h:RefItm w B G gF L U bI c F vE nE xs vI M acc wr) (hN:wx.ownsRow bI 72 4 vN (acc.length+1) (Gn.flatI acc ++ Gn.itemCells p)) (hg:wr.grownBy wx vI.ownBlock) :
  RefItm w B G gF L U bI c F vE nE xs vN M (acc ++ [p]) (wx.setCell ⟨L,2,none⟩ vN):=by
 have h4:=h.o4;have h5:=h.o5;have hp:=gpt wx L 2 vN;have hb:RefBase w B G gF L c F vE nE xs vI wx:=h.base.own hg (fun n e=>by
  have:=(h.items.lt n e).1;refine ⟨by omega,fun e'=>?_⟩;have:=h.sep n e';omega)
 refine ⟨hb.setI vN,(h.used.grown hg (fun e=>?_)).grown hp (by simp;omega),?_,h.sep,h.o4,h.o5,Nat.le_trans h.o6 (Nat.le_trans hg.size hp.size)⟩
 ·have:=(h.items.lt _ e).1;omega
 ·rw [Gn.flatI_more,List.length_append];refine hN.kept hp ?_;cases hv:vN.ownBlock with
  | none=>exact .inl rfl
  | some n=>exact .inr fun e=>by have:=(hN.lt n hv).1;cases e;omega

structure RefMon (w:World) (B G gF L U bE:Nat) (c F:Nat→Int) (vE:Value) (M:Nat→Bool) (acc:List (Int × Nat)) (wr:World):Prop where
 base:RefBase w B G gF L c F vE acc.length (Gn.flat acc) (.slice none 0 0) wr
 used:Arr wr U 4 384 (Bols M)
 ents:wr.ownsRow bE 70 11 vE acc.length (Gn.flat acc)
 o4:L<U
 o5:U<bE
 o6:bE≤wr.heap.size

theorem RefMon.own {w:World} {B G gF L U bE:Nat} {c F:Nat→Int} {vE:Value} {M:Nat→Bool} {acc:List (Int × Nat)} {wr wx:World} {r:Option Nat} (h:RefMon w B G gF L U bE c F vE M acc wr) (hg:wr.grownBy wx r) (hr:∀n,r=some n→U<n∧vE.ownBlock≠some n):RefMon w B G gF L U bE c F vE M acc wx:=by
 have h4:=h.o4;refine ⟨h.base.own hg (fun n e=>⟨by have:=(hr n e).1;omega,(hr n e).2⟩),h.used.grown hg (fun e=>?_),h.ents.kept hg ?_,h.o4,h.o5,Nat.le_trans h.o6 hg.size⟩
 ·have:=(hr _ e).1;omega
 ·cases hv:vE.ownBlock with
  | none=>exact .inl rfl
  | some n=>exact .inr fun e=>(hr n e.symm).2 hv

theorem RefMon.on {w:World} {B G gF L U bE:Nat} {c F:Nat→Int} {vE:Value} {M:Nat→Bool} {acc:List (Int × Nat)} {wr wx:World} (h:RefMon w B G gF L U bE c F vE M acc wr) (hg:wr.grownBy wx none):RefMon w B G gF L U bE c F vE M acc wx :=
 h.own hg (fun n e=>by cases e)

theorem RefMon.mark {w:World} {B G gF L U bE:Nat} {c F:Nat→Int} {vE:Value} {M:Nat→Bool} {acc:List (Int × Nat)} {wr:World} (h:RefMon w B G gF L U bE c F vE M acc wr) (k:Nat):RefMon w B G gF L U bE c F vE (Gn.mark M k) acc (wr.setCell ⟨U,k,none⟩ (.bool true)):=by
 have hg:=gpt wr U k (.bool true);have h5:=h.o5;have hE:∀n,vE.ownBlock=some n→U<n:=fun n e=>by have:=(h.ents.lt n e).1;omega
 refine ⟨h.base.own hg (fun n e=>?_),h.used.mark k,h.ents.kept hg ?_,h.o4,h.o5,Nat.le_trans h.o6 hg.size⟩
 ·cases e
  exact ⟨h.o4,fun e=>by have:=hE _ e;omega⟩
 ·cases hv:vE.ownBlock with
  | none=>exact .inl rfl
  | some n=>exact .inr fun e=>by have:=hE n hv;cases e;omega

theorem RefMon.add {w:World} {B G gF L U bE:Nat} {c F:Nat→Int} {vE vN:Value} {M:Nat→Bool} {acc:List (Int × Nat)} {p:Int × Nat} {wr wx:World} (h:RefMon w B G gF L U bE c F vE M acc wr) (hN:wx.ownsRow bE 70 11 vN (acc.length+1) (Gn.flat acc ++ Gn.entCells p)) (hg:wr.grownBy wx vE.ownBlock) :
  RefMon w B G gF L U bE c F vN M (acc ++ [p]) (wx.setCell ⟨L,1,none⟩ vN):=by
 have h4:=h.o4;have h5:=h.o5;have hp:=gpt wx L 1 vN;have hN':wx.ownsRow bE 70 11 vN (acc ++ [p]).length (Gn.flat (acc ++ [p])):=by
  rw [Gn.flat_more,List.length_append];exact hN
 refine ⟨h.base.setE hg (owns_mono hN' (by omega)),(h.used.grown hg (fun e=>?_)).grown hp (by simp;omega),hN'.kept hp ?_,h.o4,h.o5,Nat.le_trans h.o6 (Nat.le_trans hg.size hp.size)⟩
 ·have:=(h.ents.lt _ e).1;omega
 ·cases hv:vN.ownBlock with
  | none=>exact .inl rfl
  | some n=>exact .inr fun e=>by have:=(hN.lt n hv).1;cases e;omega


open Go.RowKit

set_option maxRecDepth 100000 in
set_option maxHeartbeats 8000000 in
theorem ref_items (s f:Int) (d:Gn.Dice) (hd:∀a b n,Gn.D s f a b n=d a b n) (hFr:Gn.Fair d) (w:World) (B G gF L:Nat) (c F:Nat→Int) (vE:Value) (sh:Bool) (hlev:Gn.IsLevel d c F) (hsh:sh=decide (¬Gr.find 384 c 5<0)) (wr:World)
  (hB:RefBase w B G gF L c F vE (Gn.ents d f c F).length (Gn.flat (Gn.ents d f c F)) (.slice none 0 0) wr) {t2 t3 t6 t7 t8 t9 Aa Ab Ac Ad Ae Af Ag Ah Ai Aj Ak Al Am Ao Ap Aq Ar As Au Av Aw Ax Ay Az AA AB AC AD AE AF AG AH AI AJ AK AL AM AN AO AP AQ AR AS AT AU AV AW AX AY AZ A0 A1 A2 A3 A4 A5 A6 A7 A8 A9 Ba Bb Bc Bd Be Bf Bg Bh Bi Bj Bk Bl Bm Bn Bo Bp Bq Br Bs Bt Bu Bv Bw Bx Bz BA BB BC BD BE BF BG BH BI BJ BK BL BM BN BO BP BQ BR BS BT BU BV BW BX BY BZ B0 B1 B2 B3 B4 B5 B6 B7 B8 B9 Ca Cb Cc Cd Ce Cf Cg Ch Ci Cj Ck Cl Cm Cn Co Cp Cq Cs Ct Cu Cv Cw Cx Cy Cz CA CB CC CD CE CF CG CH CI CJ CK CL CM CN CO CP CQ CR CS CT CU CV CW CX CY CZ C0 C1 C2 C3 C4 C5 C6 C7 C8 C9 Da Db Dc Dd De Df Dg Dh Di Dj Dk Dl Dm Dn Dp Dq Dr Ds Dt Du Dv Dw Dx Dy Dz DA DB DC DD DE DF DG DH DI DJ DK DL DM DN DO DP DQ DR DS DT DU DV DW DX DY DZ D0 D1 D2 D3 D4 D5 D6 D7 D8 D9 Ea Eb Ec Ed Ee Ef Eg Eh Ei Ej Ek El Em Eo Ep Er Es Et Eu Ev Ew Ex Ey Ez EA EB EC ED EE EF EG EH EI EJ EK EL EM EN EO EP EQ ER ES ET EU EV EW EX EY EZ E0 E1 E2 E3 E4 E5 E6 E7 E8 E9 Fa Fb Fc Fd Fe Ff Fg Fh Fi Fj:Value} :
  Code.wp Tryz.prog ((Tryz.f35.body.map (cdrop 16)).getD .skip) (bodyPost Tryz.prog Tryz.f35 (RefDone w d f)) ⟨#[.int .i64 s,.int .i64 f,t2,t3,.pointer (some ⟨B,0,none⟩),.slice (some ⟨G,0,none⟩) 384 384,t6,t7,t8,t9,Aa,Ab,Ac,Ad,Ae,Af,Ag,Ah,Ai,Aj,Ak,.slice (some ⟨gF,0,none⟩) 384 384,Al,Am,.bool sh,Ao,.pointer (some ⟨L,0,none⟩),Ap,Aq,Ar,As,Au,Av,Aw,Ax,Ay,Az,AA,AB,AC,AD,AE,AF,AG,AH,AI,AJ,AK,AL,AM,AN,AO,AP,AQ,AR,AS,AT,AU,AV,AW,AX,AY,AZ,A0,A1,A2,A3,A4,A5,A6,A7,A8,A9,Ba,Bb,Bc,Bd,Be,Bf,Bg,Bh,Bi,Bj,Bk,Bl,Bm,Bn,Bo,Bp,Bq,Br,Bs,Bt,Bu,Bv,Bw,Bx,Bz,BA,BB,BC,BD,BE,BF,BG,BH,BI,BJ,BK,BL,BM,BN,BO,BP,BQ,BR,BS,BT,BU,BV,BW,BX,BY,BZ,B0,B1,B2,B3,B4,B5,B6,B7,B8,B9,Ca,Cb,Cc,Cd,Ce,Cf,Cg,Ch,Ci,Cj,Ck,Cl,Cm,Cn,Co,Cp,Cq,Cs,Ct,Cu,Cv,Cw,Cx,Cy,Cz,CA,CB,CC,CD,CE,CF,CG,CH,CI,CJ,CK,CL,CM,CN,CO,CP,CQ,CR,CS,CT,CU,CV,CW,CX,CY,CZ,C0,C1,C2,C3,C4,C5,C6,C7,C8,C9,Da,Db,Dc,Dd,De,Df,Dg,Dh,Di,Dj,Dk,Dl,Dm,Dn,Dp,Dq,Dr,Ds,Dt,Du,Dv,Dw,Dx,Dy,Dz,DA,DB,DC,DD,DE,DF,DG,DH,DI,DJ,DK,DL,DM,DN,DO,DP,DQ,DR,DS,DT,DU,DV,DW,DX,DY,DZ,D0,D1,D2,D3,D4,D5,D6,D7,D8,D9,Ea,Eb,Ec,Ed,Ee,Ef,Eg,Eh,Ei,Ej,Ek,El,Em,Eo,Ep,Er,Es,Et,Eu,Ev,Ew,Ex,Ey,Ez,EA,EB,EC,ED,EE,EF,EG,EH,EI,EJ,EK,EL,EM,EN,EO,EP,EQ,ER,ES,ET,EU,EV,EW,EX,EY,EZ,E0,E1,E2,E3,E4,E5,E6,E7,E8,E9,Fa,Fb,Fc,Fd,Fe,Ff,Fg,Fh,Fi,Fj],[]⟩ wr:=by
 conv=>arg 2;whnf
 obtain ⟨i0,hi,hz0,hz1,hz2⟩:=info_parts info_bool;obtain ⟨i1,hi1,hy0,hy1,hy2⟩:=info_parts info_item;obtain ⟨nE,hnE⟩:∃n,n=(Gn.ents d f c F).length:=⟨_,rfl⟩;obtain ⟨xs,hxs⟩:∃n,n=Gn.flat (Gn.ents d f c F):=⟨_,rfl⟩;rw [←hnE,←hxs] at hB;have hnE':=hide hnE;have hxs':=hide hxs;have hd':=hide hd;have hFr':=hide hFr;have hlev':=hide hlev;have hsh':=hide hsh;have hB':=hide hB;have hst0:Hid (Gn.those (Gn.free c F 0 (fun _=>false)) 384=Gn.those (fun i=>c i == 1) 384):=by
  obtain ⟨far,hfc⟩:=hlev.facts hFr;exact Gn.free_start0 fun i hi h1=>(hfc.reach hFr i hi).2 (by omega)
 obtain ⟨fin,hfin⟩:∃fin,fin=Gn.lie d 4 0 (Gn.those (fun i=>c i == 1) 384):=⟨_,rfl⟩;have hfin':=hide hfin;have hfl:fin.length≤4:=by rw [hfin];exact Gn.lie_len d 4 0 _
 clear hnE hxs hd hFr hlev hsh hB hfin;go_wp2_with (at_make;refine wpList_make_full _ rfl _ _ 116 rfl wr.heap.size 4 i0 (.bool false) 1 Tryz.underlying116 hi hz0 hz1 .i64 .i64 _ _ 384 rfl rfl rfl rfl ?q3 ?q4 ?q5 ?_);case q4=>decide
 intro w2 hown hgrow;have hU:Arr w2 wr.heap.size 4 384 (Bols fun _=>false):=Arr.zero hown;have hI0:Hid (RefItm w B G gF L wr.heap.size (wr.heap.size+1) c F vE nE xs (.slice none 0 0) (fun _=>false) [] w2) :=
  ⟨(uh hB').on hgrow,hU,World.ownsRow_nil _ _ _ _,fun n hn=>((uh hB').ents.lt n hn).2,(uh hB').box.lt,Nat.lt_succ_self _,hU.lt⟩
 obtain ⟨U,hUe⟩:∃U,U=wr.heap.size:=⟨_,rfl⟩;rw [←hUe] at hI0 ⊢;clear hown hgrow hU hUe hi hz0 hz1 hz2 hB';clear i0;clear wr;go_wp2_with fail
 go_loopw [31] (fun vk wr=>∃(k:Nat) (M:Nat→Bool) (vI:Value) (acc:List Gn.Itm),k≤4∧vk=.int .i64 (k:Int)∧acc ++ Gn.lie d (4 - k) k (Gn.those (Gn.free c F 0 M) 384)=fin∧RefItm w B G gF L U (U+1) c F vE nE xs vI M acc wr) (fun vk _=>10 - (intOf vk).toNat)
 case atStart=>exact ⟨0,_,_,[],by omega,rfl,by rw [uh hst0];exact (uh hfin').symm,uh hI0⟩
 case round =>
  clear hI0;clear w2;obtain ⟨k,M,vI,acc,hk,rfl,hacc,hH⟩:=hrel;have hH1:=hide hH;have hacc':=hide hacc;clear hH hacc;by_cases hlt:k<4
  ·have hlt':(k:Int)<4:=by omega
   have hpick:=hide (pick_any s f d (uh hd') (uh hFr') G gF U c F 0 (40+(k:Int)) M wr (uh hH1).base.cells (uh hH1).base.fld (uh hH1).used);obtain ⟨l,hl⟩:∃l,l=Gn.those (Gn.free c F 0 M) 384:=⟨_,rfl⟩;rw [←hl] at hpick hacc';have hl':=hide hl;clear hl;go_wp2_with fail;refine (uh hpick).mono ?_;rintro e w3 ⟨rfl,hg3⟩;have hH3:=hide ((uh hH1).on hg3);clear hg3 hpick hH1;by_cases h0:l.length=0
   ·rw [Gn.picked_none h0];have hst:Hid (acc ++ Gn.lie d (4 - (k+1)) (k+1) l=fin):=by
     have h:=uh hacc';rw [Gn.lie_nil h0] at h;show acc ++ Gn.lie d (4 - (k+1)) (k+1) l=fin;rw [Gn.lie_nil h0];exact h
    clear h0;go_wp2;go_roundw;case rel=>exact ⟨k+1,M,vI,acc,by omega,by go_num,by rw [←uh hl'];exact uh hst,uh hH3⟩
    case measure=>simp [intOf];omega
   ·obtain ⟨N,hN⟩:∃x,x=d (40+(k:Int)) 0 (l.length:Int):=⟨_,rfl⟩;obtain ⟨n1,n2⟩:0≤N∧N<(l.length:Int):=by rw [hN];exact uh hFr' _ _ _ (by omega)
    obtain ⟨n,hn⟩:∃n:Nat,N=(n:Int):=⟨N.toNat,by omega⟩;have hnl:n<l.length:=by omega
    rw [Gn.picked_some (n:=n) h0 (by rw [←hN,hn])];obtain ⟨K,hK⟩:∃K,K=d (40+(k:Int)) 1 4:=⟨_,rfl⟩;obtain ⟨k1,k2⟩:0≤K∧K<4:=by rw [hK];exact uh hFr' _ _ _ (by omega)
    have hdK:Hid (∀w',Calls Tryz.prog 61 #[.int .i64 s,.int .i64 f,.int .i64 (40+(k:Int)),.int .i64 1,.int .i64 4] w' (Says w' (.int .i64 K))):=fun w'=>by
     have h:=refD_any s f (40+(k:Int)) 1 4 w' (by omega);rw [uh hd',←hK] at h;exact h
    obtain ⟨cl,hcl⟩:∃cl,cl=l[n]?.getD 0:=⟨_,rfl⟩;have hcl3:cl<384:=by rw [hcl,uh hl'];rw [uh hl'] at hnl;exact Gn.those_lt hnl
    have hers:Hid (Gn.those (Gn.free c F 0 (Gn.mark M cl)) 384=l.eraseIdx n):=by
     show Gn.those (Gn.free c F 0 (Gn.mark M cl)) 384=l.eraseIdx n;rw [hcl,uh hl'];rw [uh hl'] at hnl;exact Gn.free_mark c F 0 M n hnl
    have hstep:Hid ((acc ++ [(1+K,1,(cl:Int) % 24,(cl:Int) / 24)]) ++ Gn.lie d (4 - (k+1)) (k+1) (l.eraseIdx n)=fin):=by
     have h:=uh hacc';obtain ⟨m,hm⟩:∃m,4 - k=m+1:=⟨4 - k - 1,by omega⟩;rw [hm,Gn.lie,if_neg h0,←hN,hn,Int.toNat_natCast,←hK,←hcl] at h;show (acc ++ [(1+K,1,(cl:Int) % 24,(cl:Int) / 24)]) ++ Gn.lie d (4 - (k+1)) (k+1) (l.eraseIdx n)=fin;rw [show 4 - (k+1)=m by omega,List.append_assoc];exact h
    have hal:acc.length≤4:=by
     have h:=congrArg List.length (uh hacc');rw [List.length_append] at h;omega
    rw [←hcl];have hclp:¬(cl:Int)<0:=by omega
    have hcl4:(cl:Int)<384:=by omega
    have u1:=(uh hH3).used.cell hcl3;have u2:=(uh hH3).used.free cl;clear hN hn hK hcl h0 n1 n2 hlt hnl hcl3;go_upto_region 63 with fail;clear u1 u2;have hH4:=hide ((uh hH3).mark cl);obtain ⟨w4,hw4⟩:∃w4,w4=w3.setCell ⟨U,cl,none⟩ (.bool true):=⟨_,rfl⟩;rw [←hw4] at hH4 ⊢;clear hw4 hH3;clear w3;have keep:Hid (∀x,RefItm w B G gF L U (U+1) c F vE nE xs vI (Gn.mark M cl) acc x→(x.cell? ⟨L,2,none⟩=some vI∧L<x.heap.size)) :=
     fun x h=>⟨h.base.box.cell (by omega),h.base.box.lt⟩
    obtain ⟨p1,p2⟩:=uh keep _ (uh hH4);have cdie:Hid (∀x,Hid (RefItm w B G gF L U (U+1) c F vE nE xs vI (Gn.mark M cl) acc x)→Calls Tryz.prog 61 #[.int .i64 s,.int .i64 f,.int .i64 (40+(k:Int)),.int .i64 1,.int .i64 4] x (fun e w'=>e=.returned (.int .i64 K)∧Hid (RefItm w B G gF L U (U+1) c F vE nE xs vI (Gn.mark M cl) acc w')∧U+1≤w'.heap.size)) :=
     fun x hx=>(uh hdK x).mono fun e w' ⟨he,hg⟩=>⟨he,(uh hx).on hg,((uh hx).on hg).o6⟩
    have hH4d:Hid (RefItm w B G gF L U (U+1) c F vE nE xs vI (Gn.mark M cl) acc w4.drew):=(uh hH4).on (gd1 (World.grownBy.refl _ none));have hwr:IntKind.i64.wrap (40+(k:Int))=40+(k:Int):=by rw [IntKind.wrap_i64];omega
    have hwr2:IntKind.i64.wrap (1+K)=1+K:=by rw [IntKind.wrap_i64];omega
    have e1:(cl:Int).tmod 24=(cl:Int) % 24:=Int.tmod_eq_emod_of_nonneg (by omega);have e2:IntKind.i64.wrap ((cl:Int) / 24)=(cl:Int) / 24:=by rw [IntKind.wrap_i64];omega
    have keep2:Hid (∀x y,Hid (RefItm w B G gF L U (U+1) c F vE nE xs vI (Gn.mark M cl) acc x)→(x.alloc (.cells #[.int .i64 (1+K),.int .i64 1,.int .i64 ((cl:Int) % 24),.int .i64 ((cl:Int) / 24)] 72)).grownBy y vI.ownBlock→(y.cell? ⟨L,2,none⟩=some vI∧y.frozen? ⟨L,2,none⟩=false)):=by
     intro x y h1 hg;have hp:=((uh h1).base.box.alloc (.cells #[.int .i64 (1+K),.int .i64 1,.int .i64 ((cl:Int) % 24),.int .i64 ((cl:Int) / 24)] 72)).grown hg (fun e=>by have:=((uh h1).items.lt _ e).1;have:=(uh h1).o4;omega);exact ⟨hp.cell (by omega),hp.free 2⟩
    go_region_law (first | (go_simp;go_at_call 61;refine (uh cdie _ hH4d).mono ?_;rintro e we ⟨rfl,hHe,hte⟩;obtain ⟨z1,z2⟩:=uh keep we (uh hHe)) | (refine step_append_lies _ (by rfl) _ _ _ (by rfl) (U+1) 72 i1 _ 4 32 Tryz.underlying27 hi1 hy0 hy1 hy2 rfl (by omega) vI acc.length (Gn.flatI acc) (by rfl) ((uh hHe).items.alloc _) ⟨we.heap.size,0,none⟩ 1 1 [.int .i64 (1+K),.int .i64 1,.int .i64 ((cl:Int) % 24),.int .i64 ((cl:Int) / 24)] (by rfl) (by rfl) (item_news we _ rfl _ _ _ _ _) (by simp [Value.oneCell']) (by omega) (by unfold maxLen;omega) (by omega) (by simp;omega) (we.heap.size+1) (by simp) ?_;intro gg cap5 w5 hown5 hgrow5 hat5 hlt5;obtain ⟨y1,y2⟩:=uh keep2 _ _ hHe hgrow5))
    all_goals
     have hH5:=hide (((uh hHe).on (World.grownBy_alloc _ _ _)).add (p:=(1+K,1,(cl:Int) % 24,(cl:Int) / 24)) hown5 hgrow5);clear hown5 hgrow5 hat5 hlt5 y1 y2 z1 z2 p1 p2 keep keep2 cdie hH4d hHe hwr hwr2 e1 e2;go_wp2;go_roundw;case rel=>exact ⟨k+1,Gn.mark M cl,_,acc ++ [(1+K,1,(cl:Int) % 24,(cl:Int) / 24)],by omega,by go_num,by rw [uh hers];exact uh hstep,uh hH5⟩
     case measure=>simp [intOf];omega
  ·have hge:¬(k:Int)<4:=by omega
   have hend:acc=fin:=by
    have h:=uh hacc';rw [show 4 - k=0 by omega,Gn.lie,List.append_nil] at h;exact h
   subst hend;have hfinA:Hid (acc=Gn.lie d 4 0 (Gn.those (fun i=>c i == 1) 384)):=hfin';clear hlt hacc' hfin' hst0 hk;go_wp2_with fail
   go_loopw [33] (fun vk wr=>∃(q:Nat) (vI:Value),q≤3∧(q=0∨sh=true)∧vk=.int .i64 (q:Int)∧RefItm w B G gF L U (U+1) c F vE nE xs vI M (acc ++ Gn.wares d q) wr) (fun vk _=>10 - (intOf vk).toNat)
   case atStart=>exact ⟨0,_,by omega,.inl rfl,rfl,by rw [show Gn.wares d 0=[] from rfl,List.append_nil];exact uh hH1⟩
   case round =>
    clear hH1 hge;obtain ⟨q,vI,hq,hor,rfl,hH⟩:=hrel;have hH1:=hide hH;clear hH;by_cases hgo:sh=true∧q<3
    ·obtain ⟨rfl,hq3⟩:=hgo;have hq3':(q:Int)<3:=by omega
     obtain ⟨K,hK⟩:∃K,K=d (50+(q:Int)) 1 3:=⟨_,rfl⟩;obtain ⟨k1,k2⟩:0≤K∧K<3:=by rw [hK];exact uh hFr' _ _ _ (by omega)
     have hdK:Hid (∀w',Calls Tryz.prog 61 #[.int .i64 s,.int .i64 f,.int .i64 (50+(q:Int)),.int .i64 1,.int .i64 3] w' (Says w' (.int .i64 K))):=fun w'=>by
      have h:=refD_any s f (50+(q:Int)) 1 3 w' (by omega);rw [uh hd',←hK] at h;exact h
     have hmore:Hid (acc ++ Gn.wares d (q+1)=(acc ++ Gn.wares d q) ++ [(1+K,4,(q:Int),0)]):=by
      show acc ++ Gn.wares d (q+1)=_;rw [Gn.wares_more,←hK,List.append_assoc]
     have hwl:(acc ++ Gn.wares d q).length≤8:=by
      rw [List.length_append];unfold Gn.wares;rw [List.length_map,List.length_range];omega
     obtain ⟨ac2,hac2⟩:∃ac2,ac2=acc ++ Gn.wares d q:=⟨_,rfl⟩;rw [←hac2] at hH1 hmore hwl;clear hK hac2 hor;go_upto_region 67 with fail;have keep:Hid (∀x,RefItm w B G gF L U (U+1) c F vE nE xs vI M ac2 x→(x.cell? ⟨L,2,none⟩=some vI∧L<x.heap.size)) :=
      fun x h=>⟨h.base.box.cell (by omega),h.base.box.lt⟩
     obtain ⟨p1,p2⟩:=uh keep _ (uh hH1);have cdie:Hid (∀x,Hid (RefItm w B G gF L U (U+1) c F vE nE xs vI M ac2 x)→Calls Tryz.prog 61 #[.int .i64 s,.int .i64 f,.int .i64 (50+(q:Int)),.int .i64 1,.int .i64 3] x (fun e w'=>e=.returned (.int .i64 K)∧Hid (RefItm w B G gF L U (U+1) c F vE nE xs vI M ac2 w')∧U+1≤w'.heap.size)) :=
      fun x hx=>(uh hdK x).mono fun e w' ⟨he,hg⟩=>⟨he,(uh hx).on hg,((uh hx).on hg).o6⟩
     have hH4d:Hid (RefItm w B G gF L U (U+1) c F vE nE xs vI M ac2 wr.drew):=(uh hH1).on (gd1 (World.grownBy.refl _ none));have hwr:IntKind.i64.wrap (50+(q:Int))=50+(q:Int):=by rw [IntKind.wrap_i64];omega
     have hwr2:IntKind.i64.wrap (1+K)=1+K:=by rw [IntKind.wrap_i64];omega
     have keep2:Hid (∀x y,Hid (RefItm w B G gF L U (U+1) c F vE nE xs vI M ac2 x)→(x.alloc (.cells #[.int .i64 (1+K),.int .i64 4,.int .i64 (q:Int),.int .i64 0] 72)).grownBy y vI.ownBlock→(y.cell? ⟨L,2,none⟩=some vI∧y.frozen? ⟨L,2,none⟩=false)):=by
      intro x y h1 hg;have hp:=((uh h1).base.box.alloc (.cells #[.int .i64 (1+K),.int .i64 4,.int .i64 (q:Int),.int .i64 0] 72)).grown hg (fun e=>by have:=((uh h1).items.lt _ e).1;have:=(uh h1).o4;omega);exact ⟨hp.cell (by omega),hp.free 2⟩
     go_region_law (first | (go_simp;go_at_call 61;refine (uh cdie _ hH4d).mono ?_;rintro e we ⟨rfl,hHe,hte⟩;obtain ⟨z1,z2⟩:=uh keep we (uh hHe)) | (refine step_append_lies _ (by rfl) _ _ _ (by rfl) (U+1) 72 i1 _ 4 32 Tryz.underlying27 hi1 hy0 hy1 hy2 rfl (by omega) vI ac2.length (Gn.flatI ac2) (by rfl) ((uh hHe).items.alloc _) ⟨we.heap.size,0,none⟩ 1 1 [.int .i64 (1+K),.int .i64 4,.int .i64 (q:Int),.int .i64 0] (by rfl) (by rfl) (item_news we _ rfl _ _ _ _ _) (by simp [Value.oneCell']) (by omega) (by unfold maxLen;omega) (by omega) (by simp;omega) (we.heap.size+1) (by simp) ?_;intro gg cap5 w5 hown5 hgrow5 hat5 hlt5;obtain ⟨y1,y2⟩:=uh keep2 _ _ hHe hgrow5))
     all_goals
      have hH5:=hide (((uh hHe).on (World.grownBy_alloc _ _ _)).add (p:=(1+K,4,(q:Int),0)) hown5 hgrow5);rw [←uh hmore] at hH5;clear hown5 hgrow5 hat5 hlt5 y1 y2 z1 z2 p1 p2 keep keep2 cdie hH4d hHe hwr hwr2;go_wp2;go_roundw;case rel=>exact ⟨q+1,_,by omega,.inr (by trivial),by go_num,uh hH5⟩
      case measure=>simp [intOf];omega
    ·have hit:Hid (Gn.items d c=acc ++ Gn.wares d q):=by
      show Gn.items d c=acc ++ Gn.wares d q;unfold Gn.items;rw [←uh hfinA];have hs:=uh hsh';by_cases hneg:Gr.find 384 c 5<0
      ·rw [if_pos hneg];have hf0:sh=false:=by rw [hs];exact decide_eq_false (by omega)
       have hq0:q=0:=by
        rcases hor with h|h
        ·exact h
        ·rw [hf0] at h;cases h
       rw [hq0];rfl
      ·rw [if_neg hneg];have hf0:sh=true:=by rw [hs];exact decide_eq_true (by omega)
       have hq0:q=3:=by
        by_cases h3:q<3
        ·exact absurd ⟨hf0,h3⟩ hgo
        ·omega
       rw [hq0]
     have hcs:((q:Int)<3∧sh=false)∨¬(q:Int)<3:=by
      by_cases h3:q<3
      ·left;refine ⟨by omega,?_⟩;cases hs:sh with
       | false=>rfl
       | true=>exact absurd ⟨hs,h3⟩ hgo
      ·right;omega
     obtain ⟨ac2,hac2⟩:∃ac2,ac2=acc ++ Gn.wares d q:=⟨_,rfl⟩;rw [←hac2] at hH1 hit;obtain ⟨nI,hnI⟩:∃n,n=ac2.length:=⟨_,rfl⟩;have hI1:=(uh hH1).items;rw [←hnI] at hI1;obtain ⟨aI,cI,rfl⟩:=owns_form hI1;obtain ⟨aE,cE,rfl⟩:=owns_form (uh hH1).base.ents;have b0:wr.cell? ⟨L,0,none⟩=some (.slice (some ⟨G,0,none⟩) 384 384):=(uh hH1).base.box.cell (by omega);have b1:wr.cell? ⟨L,1,none⟩=some (.slice aE nE cE):=(uh hH1).base.box.cell (by omega);have b2:wr.cell? ⟨L,2,none⟩=some (.slice aI nI cI):=(uh hH1).base.box.cell (by omega);have r0:wr.cell? ⟨B,0,none⟩=some (.slice none 0 0):=(uh hH1).base.res.cell (by omega);have r1:wr.cell? ⟨B,1,none⟩=some (.slice none 0 0):=(uh hH1).base.res.cell (by omega);have r2:wr.cell? ⟨B,2,none⟩=some (.slice none 0 0):=(uh hH1).base.res.cell (by omega);have f0:=(uh hH1).base.res.free 0;have f1:=(uh hH1).base.res.free 1;have f2:=(uh hH1).base.res.free 2;have hg9:=gst (gst (gst (World.grownBy.refl wr (some B)) 0 (.slice (some ⟨G,0,none⟩) 384 384)) 1 (.slice aE nE cE)) 2 (.slice aI nI cI);have hoB:=(uh hH1).base.o0;have hoG:=(uh hH1).base.o1;have hoF:=(uh hH1).base.o2;have hoL:=(uh hH1).base.o3;have hoU:=(uh hH1).o4;have hE9:=hide ((uh hH1).base.ents.kept hg9 (by cases aE with | none=>exact .inl rfl | some x=>exact .inr (fun e=>by have:=((uh hH1).base.ents.lt x.block rfl).1;simp [Value.ownBlock] at e;omega)));have hI9:=hide (hI1.kept hg9 (by cases aI with | none=>exact .inl rfl | some x=>exact .inr (fun e=>by have:=(hI1.lt x.block rfl).1;simp [Value.ownBlock] at e;omega)));have hA9:=hide ((uh hH1).base.cells.grown hg9 (by simp;omega));have hw9:=hide (gow (uh hH1).base.grown hg9 (fun n e=>by cases e;exact hoB));have hnI':=hide hnI;have hac':=hide hac2;clear hg9 hI1 hgo hor hac2 hnI;rcases hcs with ⟨hq3,rfl⟩|hq3;all_goals
      go_wp2;refine bodyPost_ret (v:=.agg #[.slice (some ⟨G,0,none⟩) 384 384,.slice aE nE cE,.slice aI nI cI]) (by simp [results,Tryz.results35,go_sem,r0,r1,r2]) rfl ?_;refine ⟨c,F,G,nE,nI,cE,cI,aE,aI,uh hlev',rfl,by omega,uh hA9,uh hnE',by rw [uh hit];exact uh hnI',?_,?_,uh hw9⟩
      ·have h:=uh hE9;rw [uh hxs'] at h;exact owns_mono h (by omega)
      ·have h:=uh hI9;rw [uh hit];exact owns_mono h (by omega)


open Go.RowKit

set_option maxRecDepth 100000 in
set_option maxHeartbeats 8000000 in
theorem ref_mons (s f:Int) (d:Gn.Dice) (hd:∀a b n,Gn.D s f a b n=d a b n) (hFr:Gn.Fair d) (h1f:1≤f) (h3f:f≤3) (w:World) (B G gF:Nat) (c F:Nat→Int) (sh:Bool) (hlev:Gn.IsLevel d c F) (hsh:sh=decide (0≤Gr.find 384 c 5)) (wr:World)
  (hA:Arr wr G 5 384 (Byts c)) (hF:Arr wr gF 3 384 (Ints F)) (hR:Arr wr B 85 3 (fun _=>.slice none 0 0)) (hg:w.grownBy wr none) (o0:w.heap.size≤B) (o1:B<G) (o2:G<gF) {t2 t3 t6 t7 t8 t9 Aa Ab Ac Ad Ae Af Ag Ah Ai Aj Ak Al Am Ao Ap Aq Ar As Au Av Aw Ax Ay Az AA AB AC AD AE AF AG AH AI AJ AK AL AM AN AO AP AQ AR AS AT AU AV AW AX AY AZ A0 A1 A2 A3 A4 A5 A6 A7 A8 A9 Ba Bb Bc Bd Be Bf Bg Bh Bi Bj Bk Bl Bm Bn Bo Bp Bq Br Bs Bt Bu Bv Bw Bx Bz BA BB BC BD BE BF BG BH BI BJ BK BL BM BN BO BP BQ BR BS BT BU BV BW BX BY BZ B0 B1 B2 B3 B4 B5 B6 B7 B8 B9 Ca Cb Cc Cd Ce Cf Cg Ch Ci Cj Ck Cl Cm Cn Co Cp Cq Cs Ct Cu Cv Cw Cx Cy Cz CA CB CC CD CE CF CG CH CI CJ CK CL CM CN CO CP CQ CR CS CT CU CV CW CX CY CZ C0 C1 C2 C3 C4 C5 C6 C7 C8 C9 Da Db Dc Dd De Df Dg Dh Di Dj Dk Dl Dm Dn Dp Dq Dr Ds Dt Du Dv Dw Dx Dy Dz DA DB DC DD DE DF DG DH DI DJ DK DL DM DN DO DP DQ DR DS DT DU DV DW DX DY DZ D0 D1 D2 D3 D4 D5 D6 D7 D8 D9 Ea Eb Ec Ed Ee Ef Eg Eh Ei Ej Ek El Em Eo Ep Er Es Et Eu Ev Ew Ex Ey Ez EA EB EC ED EE EF EG EH EI EJ EK EL EM EN EO EP EQ ER ES ET EU EV EW EX EY EZ E0 E1 E2 E3 E4 E5 E6 E7 E8 E9 Fa Fb Fc Fd Fe Ff Fg Fh Fi Fj Fk:Value} :
  Code.wp Tryz.prog ((Tryz.f35.body.map (cdrop 13)).getD .skip) (bodyPost Tryz.prog Tryz.f35 (RefDone w d f)) ⟨#[.int .i64 s,.int .i64 f,t2,t3,.pointer (some ⟨B,0,none⟩),.slice (some ⟨G,0,none⟩) 384 384,t6,t7,t8,t9,Aa,Ab,Ac,Ad,Ae,Af,Ag,Ah,Ai,Aj,Ak,.slice (some ⟨gF,0,none⟩) 384 384,Al,Am,.bool sh,Ao,Ap,Aq,Ar,As,Au,Av,Aw,Ax,Ay,Az,AA,AB,AC,AD,AE,AF,AG,AH,AI,AJ,AK,AL,AM,AN,AO,AP,AQ,AR,AS,AT,AU,AV,AW,AX,AY,AZ,A0,A1,A2,A3,A4,A5,A6,A7,A8,A9,Ba,Bb,Bc,Bd,Be,Bf,Bg,Bh,Bi,Bj,Bk,Bl,Bm,Bn,Bo,Bp,Bq,Br,Bs,Bt,Bu,Bv,Bw,Bx,Bz,BA,BB,BC,BD,BE,BF,BG,BH,BI,BJ,BK,BL,BM,BN,BO,BP,BQ,BR,BS,BT,BU,BV,BW,BX,BY,BZ,B0,B1,B2,B3,B4,B5,B6,B7,B8,B9,Ca,Cb,Cc,Cd,Ce,Cf,Cg,Ch,Ci,Cj,Ck,Cl,Cm,Cn,Co,Cp,Cq,Cs,Ct,Cu,Cv,Cw,Cx,Cy,Cz,CA,CB,CC,CD,CE,CF,CG,CH,CI,CJ,CK,CL,CM,CN,CO,CP,CQ,CR,CS,CT,CU,CV,CW,CX,CY,CZ,C0,C1,C2,C3,C4,C5,C6,C7,C8,C9,Da,Db,Dc,Dd,De,Df,Dg,Dh,Di,Dj,Dk,Dl,Dm,Dn,Dp,Dq,Dr,Ds,Dt,Du,Dv,Dw,Dx,Dy,Dz,DA,DB,DC,DD,DE,DF,DG,DH,DI,DJ,DK,DL,DM,DN,DO,DP,DQ,DR,DS,DT,DU,DV,DW,DX,DY,DZ,D0,D1,D2,D3,D4,D5,D6,D7,D8,D9,Ea,Eb,Ec,Ed,Ee,Ef,Eg,Eh,Ei,Ej,Ek,El,Em,Eo,Ep,Er,Es,Et,Eu,Ev,Ew,Ex,Ey,Ez,EA,EB,EC,ED,EE,EF,EG,EH,EI,EJ,EK,EL,EM,EN,EO,EP,EQ,ER,ES,ET,EU,EV,EW,EX,EY,EZ,E0,E1,E2,E3,E4,E5,E6,E7,E8,E9,Fa,Fb,Fc,Fd,Fe,Ff,Fg,Fh,Fi,Fj,Fk],[]⟩ wr:=by
 conv=>arg 2;whnf
 obtain ⟨i0,hi,hz0,hz1,hz2⟩:=info_parts info_bool;obtain ⟨i1,hi1,hy0,hy1,hy2⟩:=info_parts info_ent;have hd':=hide hd;have hFr':=hide hFr;have hlev':=hide hlev;have hsh':=hide hsh;have hst0:=hide (Gn.free_start4 c F);obtain ⟨fin,hfin⟩:∃fin,fin=Gn.ents d f c F:=⟨_,rfl⟩;have hfin':=hide hfin;have hfl:fin.length≤5:=by
  rw [hfin];have:=Gn.mons_len d f (f+2).toNat 0 ((Gn.those (fun i=>c i == 1) 384).filter (Gn.afar F));unfold Gn.ents;omega
 have hB0:Hid (RefBase w B G gF wr.heap.size c F (.slice none 0 0) 0 [] (.slice none 0 0) (wr.alloc (.cells #[.slice (some ⟨G,0,none⟩) 384 384,.slice none 0 0,.slice none 0 0] 85))):=by
  refine ⟨hA.alloc _,hF.alloc _,hR.alloc _,⟨_,heap_alloc_new _ _,rfl,fun j hj=>?_⟩,World.ownsRow_nil _ _ _ _,gal hg _,o0,o1,o2,hF.lt⟩;rcases (show j=0∨j=1∨j=2 by omega) with rfl|rfl|rfl <;> rfl
 clear hd hFr hlev hsh hfin hA hF hR hg;go_upto_region 46 with fail;obtain ⟨L,hL⟩:∃L,L=wr.heap.size:=⟨_,rfl⟩;obtain ⟨w1,hw1⟩:∃w1,w1=wr.alloc (.cells #[.slice (some ⟨G,0,none⟩) 384 384,.slice none 0 0,.slice none 0 0] 85):=⟨_,rfl⟩;rw [←hL,←hw1] at hB0;rw [←hL,←hw1];clear hL hw1;clear wr;go_wp2_with (at_make;refine wpList_make_full _ rfl _ _ 116 rfl w1.heap.size 4 i0 (.bool false) 1 Tryz.underlying116 hi hz0 hz1 .i64 .i64 _ _ 384 rfl rfl rfl rfl ?q3 ?q4 ?q5 ?_)
 any_goals (first | (rw [hz2];decide) | decide | exact Nat.le_refl _)
 intro w2 hown hgrow;have hU:Arr w2 w1.heap.size 4 384 (Bols fun _=>false):=Arr.zero hown;have hI0:Hid (RefMon w B G gF L w1.heap.size (w1.heap.size+1) c F (.slice none 0 0) (fun _=>false) [] w2) :=
  ⟨(uh hB0).on hgrow,hU,World.ownsRow_nil _ _ _ _,(uh hB0).box.lt,Nat.lt_succ_self _,hU.lt⟩
 obtain ⟨U,hUe⟩:∃U,U=w1.heap.size:=⟨_,rfl⟩;rw [←hUe] at hI0 ⊢;clear hown hgrow hU hUe hi hz0 hz1 hz2 hB0;clear i0;clear w1;go_wp2_with fail
 go_loopw [28] (fun vk wr=>∃(k:Nat) (M:Nat→Bool) (vE:Value) (acc:List (Int × Nat)),(k:Int)≤f+2∧vk=.int .i64 (k:Int)∧acc ++ Gn.mons d f ((f+2).toNat - k) k (Gn.those (Gn.free c F 4 M) 384)=fin∧RefMon w B G gF L U (U+1) c F vE M acc wr) (fun vk _=>10 - (intOf vk).toNat)
 case atStart=>exact ⟨0,_,_,[],by omega,rfl,by rw [uh hst0];exact (uh hfin').symm,uh hI0⟩
 case round =>
  clear hI0;clear w2;rename_i hKK;have hK0:=hide hKK;clear hKK;obtain ⟨k,M,vE,acc,hk,rfl,hacc,hH⟩:=hrel;have hH1:=hide hH;have hacc':=hide hacc;clear hH hacc;have hdone:Hid (∀x,acc=fin→RefMon w B G gF L U (U+1) c F vE M acc x→RefBase w B G gF L c F vE (Gn.ents d f c F).length (Gn.flat (Gn.ents d f c F)) (.slice none 0 0) x):=fun x he hx=>by
   have h:=hx.base;rw [he,uh hfin'] at h;exact h
  by_cases hlt:(k:Int)<f+2
  ·have hlt':(k:Int)≤f+1:=by omega
   have hpick:=hide (pick_any s f d (uh hd') (uh hFr') G gF U c F 4 (7+(k:Int)) M wr (uh hH1).base.cells (uh hH1).base.fld (uh hH1).used);obtain ⟨l,hl⟩:∃l,l=Gn.those (Gn.free c F 4 M) 384:=⟨_,rfl⟩;rw [←hl] at hpick hacc';have hl':=hide hl;clear hl;go_wp2_with fail;refine (uh hpick).mono ?_;rintro e w3 ⟨rfl,hg3⟩;have hH3:=hide ((uh hH1).on hg3);clear hg3 hpick hH1;by_cases h0:l.length=0
   ·rw [Gn.picked_none h0];have hst:acc=fin:=by
     have h:=uh hacc';rw [Gn.mons_nil h0,List.append_nil] at h;exact h
    clear h0;go_wp2_with fail;exact uh hK0 _ _ (ref_items s f d (uh hd') (uh hFr') w B G gF L c F vE sh (uh hlev') (by rw [uh hsh'];exact decide_eq_decide.2 (by omega)) w3 (uh hdone w3 hst (uh hH3)))
   ·obtain ⟨N,hN⟩:∃x,x=d (7+(k:Int)) 0 (l.length:Int):=⟨_,rfl⟩;obtain ⟨n1,n2⟩:0≤N∧N<(l.length:Int):=by rw [hN];exact uh hFr' _ _ _ (by omega)
    obtain ⟨n,hn⟩:∃n:Nat,N=(n:Int):=⟨N.toNat,by omega⟩;have hnl:n<l.length:=by omega
    rw [Gn.picked_some (n:=n) h0 (by rw [←hN,hn])];obtain ⟨Mx,hM⟩:∃Mx:Int,Mx=if 3<f+1 then 3 else f+1:=⟨_,rfl⟩
    have hMb:1≤Mx∧Mx≤3:=by rw [hM];split <;> omega
    obtain ⟨K,hK⟩:∃K,K=d (16+(k:Int)) 1 Mx:=⟨_,rfl⟩;obtain ⟨k1,k2⟩:0≤K∧K<Mx:=by rw [hK];exact uh hFr' _ _ _ (by omega)
    have hdK:Hid (∀w',Calls Tryz.prog 61 #[.int .i64 s,.int .i64 f,.int .i64 (16+(k:Int)),.int .i64 1,.int .i64 Mx] w' (Says w' (.int .i64 K))):=fun w'=>by
     have h:=refD_any s f (16+(k:Int)) 1 Mx w' (by omega);rw [uh hd',←hK] at h;exact h
    have hkind:Gn.kind d f k=2+K:=by unfold Gn.kind;rw [←hM,←hK]
    obtain ⟨cl,hcl⟩:∃cl,cl=l[n]?.getD 0:=⟨_,rfl⟩;have hcl3:cl<384:=by rw [hcl,uh hl'];rw [uh hl'] at hnl;exact Gn.those_lt hnl
    have hers:Hid (Gn.those (Gn.free c F 4 (Gn.mark M cl)) 384=l.eraseIdx n):=by
     show Gn.those (Gn.free c F 4 (Gn.mark M cl)) 384=l.eraseIdx n;rw [hcl,uh hl'];rw [uh hl'] at hnl;exact Gn.free_mark c F 4 M n hnl
    have hstep:Hid ((acc ++ [(2+K,cl)]) ++ Gn.mons d f ((f+2).toNat - (k+1)) (k+1) (l.eraseIdx n)=fin):=by
     have h:=uh hacc';obtain ⟨m,hm⟩:∃m,(f+2).toNat - k=m+1:=⟨(f+2).toNat - k - 1,by omega⟩;rw [hm,Gn.mons,if_neg h0,←hN,hn,Int.toNat_natCast,hkind,←hcl] at h;show (acc ++ [(2+K,cl)]) ++ Gn.mons d f ((f+2).toNat - (k+1)) (k+1) (l.eraseIdx n)=fin;rw [show (f+2).toNat - (k+1)=m by omega,List.append_assoc];exact h
    have hal:acc.length≤5:=by
     have h:=congrArg List.length (uh hacc');rw [List.length_append] at h;omega
    obtain ⟨hp,hhp⟩:∃x,x=Gn.hp (2+K):=⟨_,rfl⟩;obtain ⟨at_,hat⟩:∃x,x=Gn.atk (2+K):=⟨_,rfl⟩;obtain ⟨df,hdf⟩:∃x,x=Gn.df (2+K):=⟨_,rfl⟩;have hstats:Hid (∀w',Calls Tryz.prog 40 #[.int .i64 (2+K)] w' (Says w' (.agg #[.int .i64 (2+K),.int .i64 0,.int .i64 0,.int .i64 0,.int .i64 0,.int .i64 hp,.int .i64 hp,.int .i64 at_,.int .i64 df,.int .i64 0,.int .i64 0]))):=fun w'=>by
     have h:=refStats_any (2+K) w' (by omega) (by omega);unfold Gn.ent at h;rw [←hhp,←hat,←hdf] at h;exact h
    have hentc:Hid (Gn.entCells (2+K,cl)=[.int .i64 (2+K),.int .i64 0,.int .i64 0,.int .i64 ((cl:Int) % 24),.int .i64 ((cl:Int) / 24),.int .i64 hp,.int .i64 hp,.int .i64 at_,.int .i64 df,.int .i64 0,.int .i64 0]):=by
     show Gn.entCells (2+K,cl)=_;unfold Gn.entCells Gn.ent;rw [←hhp,←hat,←hdf]
    rw [←hcl];have hclp:¬(cl:Int)<0:=by omega
    have hcl4:(cl:Int)<384:=by omega
    have u1:=(uh hH3).used.cell hcl3;have u2:=(uh hH3).used.free cl;have hM':=hide hM;clear hN hn hK hkind hcl hhp hat hdf h0 hM n1 n2 hnl hcl3;go_upto_region 53 with fail;clear u1 u2;have hHa:=hide ((uh hH3).mark cl);obtain ⟨wa,hwa⟩:∃wa,wa=w3.setCell ⟨U,cl,none⟩ (.bool true):=⟨_,rfl⟩;rw [←hwa] at hHa ⊢;clear hwa hH3;clear w3;by_cases h3:3<f+1
    ·have hMe:Mx=3:=by rw [uh hM',if_pos h3]
     subst hMe;go_wp2_with fail;refine (uh hdK _).mono ?_;rintro e wb ⟨rfl,hgb⟩;have hHb:=hide ((uh hHa).on hgb);clear hgb hHa;go_wp2_with fail;refine (uh hstats _).mono ?_;rintro e wc ⟨rfl,hgc2⟩;have hHc:=hide ((uh hHb).on hgc2);clear hgc2 hHb;have hce:=(uh hHc).base.box.cell (i:=1) (by omega);have hcl2:=(uh hHc).base.box.lt;simp only [Nat.one_ne_zero,ite_false,ite_true] at hce;have hH4:Hid (RefMon w B G gF L U (U+1) c F vE (Gn.mark M cl) acc (wc.alloc (.cells #[.int .i64 (2+K),.int .i64 0,.int .i64 0,.int .i64 ((cl:Int) % 24),.int .i64 ((cl:Int) / 24),.int .i64 hp,.int .i64 hp,.int .i64 at_,.int .i64 df,.int .i64 0,.int .i64 0] 70))):=(uh hHc).on (World.grownBy_alloc _ _ _);have ht4:=(uh hHc).o6;have keep2:Hid (∀y,((wc.alloc (.cells #[.int .i64 (2+K),.int .i64 0,.int .i64 0,.int .i64 ((cl:Int) % 24),.int .i64 ((cl:Int) / 24),.int .i64 hp,.int .i64 hp,.int .i64 at_,.int .i64 df,.int .i64 0,.int .i64 0] 70)).alloc (.cells #[.int .i64 (2+K),.int .i64 0,.int .i64 0,.int .i64 ((cl:Int) % 24),.int .i64 ((cl:Int) / 24),.int .i64 hp,.int .i64 hp,.int .i64 at_,.int .i64 df,.int .i64 0,.int .i64 0] 70)).grownBy y vE.ownBlock→(y.cell? ⟨L,1,none⟩=some vE∧y.frozen? ⟨L,1,none⟩=false)):=by
      intro y hg;have hp:=((uh hH4).base.box.alloc (.cells #[.int .i64 (2+K),.int .i64 0,.int .i64 0,.int .i64 ((cl:Int) % 24),.int .i64 ((cl:Int) / 24),.int .i64 hp,.int .i64 hp,.int .i64 at_,.int .i64 df,.int .i64 0,.int .i64 0] 70)).grown hg (fun e=>by have:=((uh hH4).base.ents.lt _ e).1;omega);exact ⟨hp.cell (by omega),hp.free 1⟩
     go_wp2_with (at_builtin;refine wpList_append_own _ rfl _ _ 26 rfl (U+1) 70 i1 (.agg #[.int .i64 0,.int .i64 0,.int .i64 0,.int .i64 0,.int .i64 0,.int .i64 0,.int .i64 0,.int .i64 0,.int .i64 0,.int .i64 0,.int .i64 0]) 11 88 Tryz.underlying26 hi1 hy0 hy1 hy2 rfl (by decide) _ _ _ rfl ((uh hH4).ents.alloc _) ⟨wc.heap.size+1,0,none⟩ 1 1 [.int .i64 (2+K),.int .i64 0,.int .i64 0,.int .i64 ((cl:Int) % 24),.int .i64 ((cl:Int) / 24),.int .i64 hp,.int .i64 hp,.int .i64 at_,.int .i64 df,.int .i64 0,.int .i64 0] rfl rfl ?_ ?_ ?_ ?_ ?_ ?_)
     ·exact ent_news _ _ (by simp) _ _ _ _ _ _ _ _ _ _ _ _
     ·intro u hu;simp only [List.mem_cons,List.not_mem_nil,or_false] at hu;rcases hu with rfl|rfl|rfl|rfl|rfl|rfl|rfl|rfl|rfl|rfl|rfl <;> rfl
     ·unfold maxLen;omega
     ·omega
     ·simp;omega
     intro v5 w5 hown5 hgrow5 _;obtain ⟨y1,y2⟩:=uh keep2 _ hgrow5;obtain ⟨a5,c5,rfl⟩:=owns_form hown5;rw [←uh hentc] at hown5;have hH5:=hide (((uh hH4).on (World.grownBy_alloc _ _ _)).add hown5 hgrow5);clear hown5 hgrow5 hH4 hHc keep2 hce hcl2;go_wp2;go_roundw;case rel=>exact ⟨k+1,Gn.mark M cl,_,acc ++ [(2+K,cl)],by omega,by go_num,by rw [uh hers];exact uh hstep,uh hH5⟩
     case measure=>simp [intOf];omega
    ·have hMe:f+1=Mx:=by rw [uh hM',if_neg h3]
     go_wp2_with fail;refine (uh hdK _).mono ?_;rintro e wb ⟨rfl,hgb⟩;have hHb:=hide ((uh hHa).on hgb);clear hgb hHa;go_wp2_with fail;refine (uh hstats _).mono ?_;rintro e wc ⟨rfl,hgc2⟩;have hHc:=hide ((uh hHb).on hgc2);clear hgc2 hHb;have hce:=(uh hHc).base.box.cell (i:=1) (by omega);have hcl2:=(uh hHc).base.box.lt;simp only [Nat.one_ne_zero,ite_false,ite_true] at hce;have hH4:Hid (RefMon w B G gF L U (U+1) c F vE (Gn.mark M cl) acc (wc.alloc (.cells #[.int .i64 (2+K),.int .i64 0,.int .i64 0,.int .i64 ((cl:Int) % 24),.int .i64 ((cl:Int) / 24),.int .i64 hp,.int .i64 hp,.int .i64 at_,.int .i64 df,.int .i64 0,.int .i64 0] 70))):=(uh hHc).on (World.grownBy_alloc _ _ _);have ht4:=(uh hHc).o6;have keep2:Hid (∀y,((wc.alloc (.cells #[.int .i64 (2+K),.int .i64 0,.int .i64 0,.int .i64 ((cl:Int) % 24),.int .i64 ((cl:Int) / 24),.int .i64 hp,.int .i64 hp,.int .i64 at_,.int .i64 df,.int .i64 0,.int .i64 0] 70)).alloc (.cells #[.int .i64 (2+K),.int .i64 0,.int .i64 0,.int .i64 ((cl:Int) % 24),.int .i64 ((cl:Int) / 24),.int .i64 hp,.int .i64 hp,.int .i64 at_,.int .i64 df,.int .i64 0,.int .i64 0] 70)).grownBy y vE.ownBlock→(y.cell? ⟨L,1,none⟩=some vE∧y.frozen? ⟨L,1,none⟩=false)):=by
      intro y hg;have hp:=((uh hH4).base.box.alloc (.cells #[.int .i64 (2+K),.int .i64 0,.int .i64 0,.int .i64 ((cl:Int) % 24),.int .i64 ((cl:Int) / 24),.int .i64 hp,.int .i64 hp,.int .i64 at_,.int .i64 df,.int .i64 0,.int .i64 0] 70)).grown hg (fun e=>by have:=((uh hH4).base.ents.lt _ e).1;omega);exact ⟨hp.cell (by omega),hp.free 1⟩
     go_wp2_with (at_builtin;refine wpList_append_own _ rfl _ _ 26 rfl (U+1) 70 i1 (.agg #[.int .i64 0,.int .i64 0,.int .i64 0,.int .i64 0,.int .i64 0,.int .i64 0,.int .i64 0,.int .i64 0,.int .i64 0,.int .i64 0,.int .i64 0]) 11 88 Tryz.underlying26 hi1 hy0 hy1 hy2 rfl (by decide) _ _ _ rfl ((uh hH4).ents.alloc _) ⟨wc.heap.size+1,0,none⟩ 1 1 [.int .i64 (2+K),.int .i64 0,.int .i64 0,.int .i64 ((cl:Int) % 24),.int .i64 ((cl:Int) / 24),.int .i64 hp,.int .i64 hp,.int .i64 at_,.int .i64 df,.int .i64 0,.int .i64 0] rfl rfl ?_ ?_ ?_ ?_ ?_ ?_)
     ·exact ent_news _ _ (by simp) _ _ _ _ _ _ _ _ _ _ _ _
     ·intro u hu;simp only [List.mem_cons,List.not_mem_nil,or_false] at hu;rcases hu with rfl|rfl|rfl|rfl|rfl|rfl|rfl|rfl|rfl|rfl|rfl <;> rfl
     ·unfold maxLen;omega
     ·omega
     ·simp;omega
     intro v5 w5 hown5 hgrow5 _;obtain ⟨y1,y2⟩:=uh keep2 _ hgrow5;obtain ⟨a5,c5,rfl⟩:=owns_form hown5;rw [←uh hentc] at hown5;have hH5:=hide (((uh hH4).on (World.grownBy_alloc _ _ _)).add hown5 hgrow5);clear hown5 hgrow5 hH4 hHc keep2 hce hcl2;go_wp2;go_roundw;case rel=>exact ⟨k+1,Gn.mark M cl,_,acc ++ [(2+K,cl)],by omega,by go_num,by rw [uh hers];exact uh hstep,uh hH5⟩
     case measure=>simp [intOf];omega
  ·have hst:acc=fin:=by
    have h:=uh hacc';rw [show (f+2).toNat - k=0 by omega,Gn.mons,List.append_nil] at h;exact h
   have hge:¬(k:Int)≤f+1:=by omega
   clear hlt;go_wp2_with fail;exact uh hK0 _ _ (ref_items s f d (uh hd') (uh hFr') w B G gF L c F vE sh (uh hlev') (by rw [uh hsh'];exact decide_eq_decide.2 (by omega)) wr (uh hdone wr hst (uh hH1)))


open Go.RowKit

def Gn.scan (F:Nat→Int) (up:Nat):Nat→Nat
 | 0=>up
 | n+1=>if F n > F (Gn.scan F up n) then n else Gn.scan F up n

theorem Gn.scan_is (F:Nat→Int) (up:Nat) (hu:up<384):∀n,n≤384→Gn.scan F up n<384∧F up≤F (Gn.scan F up n)∧(∀i,i<n→F i≤F (Gn.scan F up n))∧(Gn.scan F up n=up∨∀i,i<Gn.scan F up n→F i<F (Gn.scan F up n))
 | 0,_=>⟨hu,Int.le_refl _,fun i hi=>absurd hi (Nat.not_lt_zero _),.inl rfl⟩
 | n+1,hn=>by
  obtain ⟨h1,h2,h3,h4⟩:=Gn.scan_is F up hu n (by omega);unfold Gn.scan;by_cases hc:F n > F (Gn.scan F up n)
  ·rw [if_pos hc];refine ⟨by omega,by omega,fun i hi=>?_,.inr fun i hi=>?_⟩
   ·by_cases e:i=n
    ·rw [e];exact Int.le_refl _
    ·have:=h3 i (by omega);omega
   ·have:=h3 i hi;omega
  ·rw [if_neg hc];refine ⟨h1,h2,fun i hi=>?_,h4⟩;by_cases e:i=n
   ·rw [e];omega
   ·exact h3 i (by omega)

theorem Gn.scan_far {c F:Nat→Int} {up:Nat} (hu:up<384) (h:Gn.Fld c up F):Gn.IsFar F (Gn.scan F up 384):=by
 obtain ⟨h1,h2,h3,h4⟩:=Gn.scan_is F up hu 384 (Nat.le_refl _);refine ⟨h1,h3,fun i hi=>?_⟩;rcases h4 with h4|h4
 ·rw [h4] at hi h3 ⊢;have h0:F up=0:=(h.is.zero up hu).2 rfl;have hle:=h3 i (by omega);have hne:F i≠0:=fun e=>by have:=(h.is.zero i (by omega)).1 e;omega
  omega
 ·exact h4 i hi

theorem Gn.shop_flag {d:Gn.Dice} {c:Nat→Int} (h2:∀i,c i≠5) {F:Nat→Int} {far:Nat} (h0:d 6 0 2=0) :
  (Gn.shop (Gr.upd c far 4) F (F far / 2)=none→Gr.find 384 (Gn.stocked d c F far) 5=-1)∧(∀k,k<384→Gn.shop (Gr.upd c far 4) F (F far / 2)=some k→Gr.find 384 (Gn.stocked d c F far) 5=(k:Int)):=by
 have h4:∀i,Gr.upd c far 4 i≠5:=fun i=>by
  unfold Gr.upd;split
  ·omega
  ·exact h2 i
 constructor
 ·intro hn;unfold Gn.stocked;rw [if_pos h0,hn];exact Gn.find_no h4
 ·intro k hk hs;unfold Gn.stocked;rw [if_pos h0,hs];refine Gn.find_at hk fun i=>?_;show Gr.upd (Gr.upd c far 4) k 5 i=5↔i=k;by_cases e:i=k
  ·rw [e,Gr.upd_at];exact ⟨fun _=>rfl,fun _=>rfl⟩
  ·rw [Gr.upd_ne _ _ e];exact ⟨fun h=>absurd h (h4 i),fun h=>absurd h e⟩

theorem Gn.no_shop {d:Gn.Dice} {c:Nat→Int} (h2:∀i,c i≠5) {F:Nat→Int} {far:Nat} (h0:d 6 0 2≠0):Gr.find 384 (Gn.stocked d c F far) 5=-1:=by
 unfold Gn.stocked;rw [if_neg h0];refine Gn.find_no fun i=>?_;unfold Gr.upd;split
 ·omega
 ·exact h2 i

theorem Gn.base_no5 (d:Gn.Dice) (i:Nat):Gn.base d i≠5:=by
 unfold Gn.base Gr.upd;split
 ·omega
 ·have:=Gn.dug_2 d 5 i;omega

structure RefStr (w:World) (B G gF:Nat) (c F:Nat→Int) (wr:World):Prop where
 cells:Arr wr G 5 384 (Byts c)
 fld:Arr wr gF 3 384 (Ints F)
 res:Arr wr B 85 3 (fun _=>.slice none 0 0)
 grown:w.grownBy wr none
 o0:w.heap.size≤B
 o1:B<G
 o2:G<gF

theorem RefStr.on {w:World} {B G gF:Nat} {c F:Nat→Int} {wr wx:World} (h:RefStr w B G gF c F wr) (hg:wr.grownBy wx none):RefStr w B G gF c F wx :=
 ⟨h.cells.grown hg (by simp),h.fld.grown hg (by simp),h.res.grown hg (by simp),grown_none h.grown hg,h.o0,h.o1,h.o2⟩

theorem RefStr.put {w:World} {B G gF:Nat} {c F:Nat→Int} {wr:World} (h:RefStr w B G gF c F wr) (k:Nat) (v:Int):RefStr w B G gF (Gr.upd c k v) F (wr.setCell ⟨G,k,none⟩ (.int .u8 v)):=by
 have h0:=h.o0;have h1:=h.o1;have h2:=h.o2;have hg:=gpt wr G k (.int .u8 v);exact ⟨h.cells.byte k v,h.fld.grown hg (by simp;omega),h.res.grown hg (by simp;omega),gow h.grown hg (fun n e=>by cases e;omega),h0,h1,h2⟩

set_option maxRecDepth 100000 in
set_option maxHeartbeats 8000000 in
theorem ref_stairs (s f:Int) (d:Gn.Dice) (hd:∀a b n,Gn.D s f a b n=d a b n) (hFr:Gn.Fair d) (h1f:1≤f) (h3f:f≤3) (w:World) (B G X Y:Nat) (wr:World)
  (hA:Arr wr G 5 384 (Byts (Gn.dug d 5))) (hX:Arr wr X 112 6 (fun j=>.int .i64 (Gn.mx d j))) (hY:Arr wr Y 112 6 (fun j=>.int .i64 (Gn.my d j))) (hR:Arr wr B 85 3 (fun _=>.slice none 0 0)) (hg:w.grownBy wr none) (o0:w.heap.size≤B) (o1:B<G) {t2 t3 t8 t9 Aa Ab Ac Ad Ae Af Ag Ah Ai Aj Ak Al Am Ao Ap Aq Ar As Au Av Aw Ax Ay Az AA AB AC AD AE AF AG AH AI AJ AK AL AM AN AO AP AQ AR AS AT AU AV AW AX AY AZ A0 A1 A2 A3 A4 A5 A6 A7 A8 A9 Ba Bb Bc Bd Be Bf Bg Bh Bi Bj Bk Bl Bm Bn Bo Bp Bq Br Bs Bt Bu Bv Bw Bx Bz BA BB BC BD BE BF BG BH BI BJ BK BL BM BN BO BP BQ BR BS BT BU BV BW BX BY BZ B0 B1 B2 B3 B4 B5 B6 B7 B8 B9 Ca Cb Cc Cd Ce Cf Cg Ch Ci Cj Ck Cl Cm Cn Co Cp Cq Cs Ct Cu Cv Cw Cx Cy Cz CA CB CC CD CE CF CG CH CI CJ CK CL CM CN CO CP CQ CR CS CT CU CV CW CX CY CZ C0 C1 C2 C3 C4 C5 C6 C7 C8 C9 Da Db Dc Dd De Df Dg Dh Di Dj Dk Dl Dm Dn Dp Dq Dr Ds Dt Du Dv Dw Dx Dy Dz DA DB DC DD DE DF DG DH DI DJ DK DL DM DN DO DP DQ DR DS DT DU DV DW DX DY DZ D1 D2 D3 D4 D5 D6 D7 D8 D9 Ea Eb Ec Ed Ee Ef Eg Eh Ei Ej Ek El Em Eo Ep Er Es Et Eu Ev Ew Ex Ey Ez EA EB EC ED EE EF EG EH EI EJ EK EL EM EN EO EP EQ ER ES ET EU EV EW EX EY EZ E0 E1 E2 E3 E4 E5 E6 E7 E8 E9 Fa Fb Fc Fd Fe Ff Fg Fh Fi Fj Fk Fm Fn Fo:Value} :
  Code.wp Tryz.prog ((Tryz.f35.body.map (cdrop 5)).getD .skip) (bodyPost Tryz.prog Tryz.f35 (RefDone w d f)) ⟨#[.int .i64 s,.int .i64 f,t2,t3,.pointer (some ⟨B,0,none⟩),.slice (some ⟨G,0,none⟩) 384 384,.pointer (some ⟨X,0,none⟩),.pointer (some ⟨Y,0,none⟩),t8,t9,Aa,Ab,Ac,Ad,Ae,Af,Ag,Ah,Ai,Aj,Ak,Al,Am,Ao,Ap,Aq,Ar,As,Au,Av,Aw,Ax,Ay,Az,AA,AB,AC,AD,AE,AF,AG,AH,AI,AJ,AK,AL,AM,AN,AO,AP,AQ,AR,AS,AT,AU,AV,AW,AX,AY,AZ,A0,A1,A2,A3,A4,A5,A6,A7,A8,A9,Ba,Bb,Bc,Bd,Be,Bf,Bg,Bh,Bi,Bj,Bk,Bl,Bm,Bn,Bo,Bp,Bq,Br,Bs,Bt,Bu,Bv,Bw,Bx,Bz,BA,BB,BC,BD,BE,BF,BG,BH,BI,BJ,BK,BL,BM,BN,BO,BP,BQ,BR,BS,BT,BU,BV,BW,BX,BY,BZ,B0,B1,B2,B3,B4,B5,B6,B7,B8,B9,Ca,Cb,Cc,Cd,Ce,Cf,Cg,Ch,Ci,Cj,Ck,Cl,Cm,Cn,Co,Cp,Cq,Cs,Ct,Cu,Cv,Cw,Cx,Cy,Cz,CA,CB,CC,CD,CE,CF,CG,CH,CI,CJ,CK,CL,CM,CN,CO,CP,CQ,CR,CS,CT,CU,CV,CW,CX,CY,CZ,C0,C1,C2,C3,C4,C5,C6,C7,C8,C9,Da,Db,Dc,Dd,De,Df,Dg,Dh,Di,Dj,Dk,Dl,Dm,Dn,Dp,Dq,Dr,Ds,Dt,Du,Dv,Dw,Dx,Dy,Dz,DA,DB,DC,DD,DE,DF,DG,DH,DI,DJ,DK,DL,DM,DN,DO,DP,DQ,DR,DS,DT,DU,DV,DW,DX,DY,DZ,D1,D2,D3,D4,D5,D6,D7,D8,D9,Ea,Eb,Ec,Ed,Ee,Ef,Eg,Eh,Ei,Ej,Ek,El,Em,Eo,Ep,Er,Es,Et,Eu,Ev,Ew,Ex,Ey,Ez,EA,EB,EC,ED,EE,EF,EG,EH,EI,EJ,EK,EL,EM,EN,EO,EP,EQ,ER,ES,ET,EU,EV,EW,EX,EY,EZ,E0,E1,E2,E3,E4,E5,E6,E7,E8,E9,Fa,Fb,Fc,Fd,Fe,Ff,Fg,Fh,Fi,Fj,Fk,Fm,Fn,Fo],[]⟩ wr:=by
 conv=>arg 2;whnf
 have hd':=hide hd;have hFr':=hide hFr;have hA':=hide hA;have hR':=hide hR;have hg':=hide hg;have q1:=hX.cell (i:=0) (by omega);have q2:=hY.cell (i:=0) (by omega);have hue:=Gn.up_eq hFr;have hul:=Gn.up_lt hFr;have hbd:=Gn.mid_bd hFr 0;have q3:=hA.cell hul;have q4:=hA.free (Gn.up d);have hc5:=hide (Gn.base_5 d);have hbu:=hide (Gn.base_up d);have hAb:Hid (Arr (wr.setCell ⟨G,Gn.up d,none⟩ (.int .u8 3)) G 5 384 (Byts (Gn.base d))):=hA.byte (Gn.up d) 3;obtain ⟨cb,hcb⟩:∃cb,cb=Gn.base d:=⟨_,rfl⟩;rw [←hcb] at hAb hc5 hbu;have hcb':=hide hcb;obtain ⟨up,hup⟩:∃up,up=Gn.up d:=⟨_,rfl⟩;have hup':=hide hup;rw [←hup] at hue hul q3 q4 hAb hbu;obtain ⟨ux,hux⟩:∃ux,ux=Gn.mx d 0:=⟨_,rfl⟩;obtain ⟨uy,huy⟩:∃uy,uy=Gn.my d 0:=⟨_,rfl⟩;rw [←hux,←huy] at hue hbd;rw [←hux] at q1;rw [←huy] at q2;obtain ⟨b1,b2,b3,b4⟩:=hbd;have hul':(up:Int)<384:=by omega
 have hG:G<wr.heap.size:=hA.lt;clear hd hFr hA hX hY hR hg hcb hup hux huy;go_upto_region 29 with fail;have hg1:=gpt wr G up (.int .u8 3);have hR1:Hid (Arr (wr.setCell ⟨G,up,none⟩ (.int .u8 3)) B 85 3 (fun _=>.slice none 0 0)):=(uh hR').grown hg1 (by simp;omega);have hgw:Hid (w.grownBy (wr.setCell ⟨G,up,none⟩ (.int .u8 3)) none):=gow (uh hg') hg1 (fun n e=>by cases e;omega);have hG1:G<(wr.setCell ⟨G,up,none⟩ (.int .u8 3)).heap.size:=Nat.lt_of_lt_of_le hG hg1.size;obtain ⟨w1,hw1⟩:∃w1,w1=wr.setCell ⟨G,up,none⟩ (.int .u8 3):=⟨_,rfl⟩;rw [←hw1] at hAb hR1 hgw hG1 ⊢;clear hg1 hw1 q1 q2 q3 q4 hA' hR' hg' hG;clear wr;go_wp2_with fail;have hA4:=(uh hAb).alloc (.cells #[.int .i64 (up:Int)] 3);have hV:=Vec.one w1 w1.heap.size rfl (.int .i64 (up:Int)) 3 (Ints fun _=>(up:Int)) rfl;refine (refField_any _ _ _ 0 1 _ _ _ cb (fun _=>(up:Int)) (fun _=>false) _ (hA4.vec _ hA4.lt (by decide)) (fun i=>by have:=uh hc5 i;omega) (Vec.none0 _ _ _ _) hV (fun _=>by constructor <;> omega)).mono ?_;rintro e w5 ⟨F0,⟨g,rfl,hgs,hAF,hbel⟩,hfld⟩;have hF:Gn.Fld cb up (fun i=>if i<384 then F0 i else 0):=Gn.Fld.make hfld
  (fun i hi=>by simp [Gr.openB])
  (fun i hi=>by
   constructor
   ·rintro ⟨_,j,_,he⟩;have he':(up:Int)=(i:Int):=he;omega
   ·rintro rfl;exact ⟨by rw [uh hbu];rfl,0,by omega,rfl⟩)
 have hAF2:Arr w5 g 3 384 (Ints fun i=>if i<384 then F0 i else 0):=hAF.congr fun j hj=>by
  show Value.int .i64 (F0 j)=.int .i64 (if j<384 then F0 j else 0);rw [if_pos hj]
 obtain ⟨F,hFF⟩:∃F:Nat→Int,F=fun i=>if i<384 then F0 i else 0:=⟨_,rfl⟩
 rw [←hFF] at hF hAF2;have hgr:=below_grown hbel;have hgg:=grown_none (World.grownBy_alloc w1 (.cells #[.int .i64 (up:Int)] 3) none) hgr;have hS5:Hid (RefStr w B G g cb F w5):=⟨(uh hAb).grown hgg (by simp),hAF2,(uh hR1).grown hgg (by simp),grown_none (uh hgw) hgg,o0,o1,by simp at hgs;omega⟩;have hF':=hide hF;have hsc:=hide (Gn.scan_far hul hF);have hnn:Hid (∀i,i<384→-1≤F i∧F i≤400):=fun i hi=>by
  have h1:=hF.is.lo i hi;refine ⟨h1,?_⟩;by_cases h0:0≤F i
  ·have:=fieldHigh hF.is (F i).toNat i hi (by omega);omega
  ·omega
 have hlt0:=hide (fun n hn=>Gn.scan_is F up hul n hn);clear hfld hAF hbel hgr hgg hV hFF hF hAF2 hAb hR1 hgw hgs hA4 hG1;clear F0;go_wp2_with fail
 go_loopw [22,23] (fun vf vi wr=>∃k:Nat,k≤384∧vi=.int .i64 (k:Int)∧vf=.int .i64 ((Gn.scan F up k:Nat):Int)∧RefStr w B G g cb F wr) (fun _ vi _=>400 - (intOf vi).toNat)
 case atStart=>exact ⟨0,by omega,rfl,rfl,uh hS5⟩
 case round =>
  clear hS5;clear w5;obtain ⟨k,hk,rfl,rfl,hS⟩:=hrel;have hS1:=hide hS;clear hS;obtain ⟨m,hm⟩:∃m,m=Gn.scan F up k:=⟨_,rfl⟩;have hm3:m<384:=by rw [hm];exact (uh hlt0 k hk).1
  have hm3':(m:Int)<384:=by omega
  rw [←hm];by_cases hlt:k<384
  ·have hlt':(k:Int)<384:=by omega
   have q1:wr.cell? ⟨g,k,none⟩=some (.int .i64 (F k)):=(uh hS1).fld.cell hlt;have q2:wr.cell? ⟨g,m,none⟩=some (.int .i64 (F m)):=(uh hS1).fld.cell hm3;have hstep:Hid (Gn.scan F up (k+1)=if F k > F m then k else m):=by
    show Gn.scan F up (k+1)=_;rw [Gn.scan,←hm]
   have hdr:Hid (∀n,RefStr w B G g cb F (wr.drewN n)):=fun n=>(uh hS1).on (gdw (World.grownBy.refl _ none) n);have hm':=hide hm;have HL:=hide hlt;clear hm hlt hk hm3;by_cases hgt:F m<F k
   ·have hst2:Hid (Gn.scan F up (k+1)=k):=by show _=_;rw [uh hstep,if_pos hgt]
    clear hstep;go_wp2_with fail;go_quiet (fail);go_wp2;go_roundw;case rel=>exact ⟨k+1,by have:=uh HL;omega,by go_num,by rw [uh hst2],uh hdr _⟩
    case measure=>simp [intOf];omega
   ·have hst2:Hid (Gn.scan F up (k+1)=m):=by show _=_;rw [uh hstep,if_neg (by omega)]
    clear hstep;go_wp2_with fail;go_quiet (fail);go_wp2;go_roundw;case rel=>exact ⟨k+1,by have:=uh HL;omega,by go_num,by rw [uh hst2],uh hdr _⟩
    case measure=>simp [intOf];omega
  ·have hge:¬(k:Int)<384:=by omega
   obtain rfl:k=384:=by omega
   have hfar:Gn.IsFar F m:=by rw [hm];exact uh hsc
   have hlev:Hid (Gn.IsLevel d (Gn.stocked d cb F m) F):=by
    have h1:=uh hF';rw [uh hup'] at h1;rw [uh hcb'] at h1 ⊢;exact ⟨m,h1,hfar,rfl⟩
   have hno5:Hid (∀i,cb i≠5):=by rw [uh hcb'];exact Gn.base_no5 d
   have hnm:0≤F m:=by
    have h0:=((uh hF').is.zero up hul).2 rfl;have:=hfar.top up hul;omega
   have hnx:F m≤400:=(uh hnn m hm3).2;have hwm:IntKind.i64.wrap (F m / 2)=F m / 2:=by rw [IntKind.wrap_i64];omega
   have q1:=(uh hS1).cells.cell hm3;have q2:=(uh hS1).cells.free m;have hS4:=hide ((uh hS1).put m 4);obtain ⟨c2,hc2⟩:∃c2,c2=Gr.upd cb m 4:=⟨_,rfl⟩;rw [←hc2] at hS4;have hc2':=hide hc2;have HM:=hide hm3;have h25:Hid (∀i,0≤c2 i∧c2 i≤5):=by rw [hc2];exact Gn.upd_5 (uh hc5) (by omega)
   clear hlt hk hm hfar hm3 hc2 hlt0 hsc;go_upto_region 38 with fail;rename_i K1 h1 K2 h2;have hK0:=hide h1;clear h1;obtain ⟨w4,hw4⟩:∃w4,w4=wr.setCell ⟨G,m,none⟩ (.int .u8 4):=⟨_,rfl⟩;rw [←hw4] at hS4 ⊢;clear hw4 q1 q2 hS1 hge;have hdie:=refD_any s f 6 0 2 w4 (by omega);rw [uh hd'] at hdie;obtain ⟨D0,hD0⟩:∃x,x=d 6 0 2:=⟨_,rfl⟩;rw [←hD0] at hdie;have hD0':=hide hD0;clear hD0;go_wp2_with fail;refine hdie.mono ?_;rintro e w7 ⟨rfl,hg7⟩;have hS7:=hide ((uh hS4).on hg7);clear hdie hg7 hS4;by_cases hz:D0=0
   ·have hz':(D0 == 0)=true:=by simpa using hz
    have hzz:=hide (show d 6 0 2=0 by rw [←uh hD0'];exact hz);clear hz;go_wp2_with fail
    go_loopw [24,25] (fun vs vi wr=>∃k:Nat,k≤384∧vi=.int .i64 (k:Int)∧((vs=.bool false∧RefStr w B G g c2 F wr∧∀j,j<k→(F j == F m / 2 && c2 j == 1)=false)∨(vs=.bool true∧∃q,q<384∧Gn.shop c2 F (F m / 2)=some q∧RefStr w B G g (Gr.upd c2 q 5) F wr))) (fun _ vi _=>400 - (intOf vi).toNat)
    case atStart=>exact ⟨0,by omega,rfl,.inl ⟨rfl,uh hS7,fun j hj=>by omega⟩⟩
    case round =>
     clear hS7;clear w7;obtain ⟨k,hk,rfl,hcase⟩:=hrel;rcases hcase with ⟨rfl,hS,hno⟩|⟨rfl,q,hq,hsh,hS⟩
     ·have hS1:=hide hS;have hno':=hide hno;clear hS hno;by_cases hlt:k<384
      ·have hlt':(k:Int)<384:=by omega
       have q1:wr.cell? ⟨g,k,none⟩=some (.int .i64 (F k)):=(uh hS1).fld.cell hlt;have q2:wr.cell? ⟨g,m,none⟩=some (.int .i64 (F m)):=(uh hS1).fld.cell (uh HM);have q3:wr.cell? ⟨G,k,none⟩=some (.int .u8 (c2 k)):=(uh hS1).cells.cell hlt;have hdr:Hid (∀n,RefStr w B G g c2 F (wr.drewN n)):=fun n=>(uh hS1).on (gdw (World.grownBy.refl _ none) n);have HL:=hide hlt;clear hlt hk;by_cases e2:(c2 k == 1)=true
       ·by_cases e1:(F k == F m / 2)=true
        ·have hsh:=hide (Gn.shop_some (c:=c2) (F:=F) (v:=F m / 2) (uh HL) (by rw [e1,e2];rfl) (uh hno'));have hq4:∀n,(wr.drewN n).cell? ⟨G,k,none⟩=some (.int .u8 (c2 k)):=fun n=>(uh hdr n).cells.cell (uh HL);have hq5:∀n,(wr.drewN n).frozen? ⟨G,k,none⟩=false:=fun n=>(uh hdr n).cells.free k;have hput:Hid (∀n,RefStr w B G g (Gr.upd c2 k 5) F ((wr.drewN n).setCell ⟨G,k,none⟩ (.int .u8 5))):=fun n=>(uh hdr n).put k 5;go_wp2_with fail;go_quiet (fail);go_wp2;go_roundw;case rel=>exact ⟨k+1,by have:=uh HL;omega,by go_num,.inr ⟨rfl,k,uh HL,uh hsh,uh hput _⟩⟩
         case measure=>simp [intOf];omega
        ·have e1':(F k == F m / 2)=false:=by simpa using e1
         clear e1;go_wp2_with fail;go_quiet (fail);go_wp2;go_roundw;case rel =>
          refine ⟨k+1,by have:=uh HL;omega,by go_num,.inl ⟨rfl,uh hdr _,fun j hj=>?_⟩⟩;by_cases hjk:j=k
          ·subst hjk;rw [e1'];rfl
          ·exact uh hno' j (by omega)
         case measure=>simp [intOf];omega
       ·have e2':(c2 k == 1)=false:=by simpa using e2
        clear e2;go_wp2_with fail;go_quiet (fail);go_wp2;go_roundw;case rel =>
         refine ⟨k+1,by have:=uh HL;omega,by go_num,.inl ⟨rfl,uh hdr _,fun j hj=>?_⟩⟩;by_cases hjk:j=k
         ·subst hjk;rw [e2',Bool.and_false]
         ·exact uh hno' j (by omega)
        case measure=>simp [intOf];omega
      ·have hge:¬(k:Int)<384:=by omega
       obtain rfl:k=384:=by omega
       have hsh:=Gn.shop_none (c:=c2) (F:=F) (v:=F m / 2) (uh hno');have hst:Hid (Gn.stocked d cb F m=c2):=by
        show Gn.stocked d cb F m=c2;unfold Gn.stocked;rw [if_pos (uh hzz),←uh hc2',hsh];rfl
       have hfl:Hid (false=decide (0≤Gr.find 384 (Gn.stocked d cb F m) 5)):=by
        have h:=(Gn.shop_flag (uh hno5) (F:=F) (far:=m) (uh hzz)).1 (by rw [←uh hc2'];exact hsh);show false=_;rw [h];rfl
       clear hsh hk hlt;go_wp2_with fail;exact uh hK0 _ _ (ref_mons s f d (uh hd') (uh hFr') h1f h3f w B G g (Gn.stocked d cb F m) F false (uh hlev) (uh hfl) wr (by rw [uh hst];exact (uh hS1).cells) (uh hS1).fld (uh hS1).res (uh hS1).grown (uh hS1).o0 (uh hS1).o1 (uh hS1).o2)
     ·have hS1:=hide hS;have hst:Hid (Gn.stocked d cb F m=Gr.upd c2 q 5):=by
       show Gn.stocked d cb F m=Gr.upd c2 q 5;unfold Gn.stocked;rw [if_pos (uh hzz),←uh hc2',hsh];rfl
      have hfl:Hid (true=decide (0≤Gr.find 384 (Gn.stocked d cb F m) 5)):=by
       have h:=(Gn.shop_flag (uh hno5) (F:=F) (far:=m) (uh hzz)).2 q hq (by rw [←uh hc2'];exact hsh);show true=_;rw [h];exact (decide_eq_true (by omega)).symm
      clear hS hsh;by_cases hlt:(k:Int)<384;all_goals
       go_wp2_with fail;exact uh hK0 _ _ (ref_mons s f d (uh hd') (uh hFr') h1f h3f w B G g (Gn.stocked d cb F m) F true (uh hlev) (uh hfl) wr (by rw [uh hst];exact (uh hS1).cells) (uh hS1).fld (uh hS1).res (uh hS1).grown (uh hS1).o0 (uh hS1).o1 (uh hS1).o2)
   ·have hz':(D0 == 0)=false:=by simpa using hz
    have hst:Hid (Gn.stocked d cb F m=c2):=by
     show Gn.stocked d cb F m=c2;unfold Gn.stocked;rw [if_neg (by rw [←uh hD0'];exact hz)];exact (uh hc2').symm
    have hfl:Hid (false=decide (0≤Gr.find 384 (Gn.stocked d cb F m) 5)):=by
     have h:=Gn.no_shop (uh hno5) (F:=F) (far:=m) (d:=d) (by rw [←uh hD0'];exact hz);show false=_;rw [h];rfl
    clear hz;go_wp2_with fail;exact uh hK0 _ _ (ref_mons s f d (uh hd') (uh hFr') h1f h3f w B G g (Gn.stocked d cb F m) F false (uh hlev) (uh hfl) w7 (by rw [uh hst];exact (uh hS7).cells) (uh hS7).fld (uh hS7).res (uh hS7).grown (uh hS7).o0 (uh hS7).o1 (uh hS7).o2)


open Go.RowKit

structure RefCor (w:World) (B G X Y:Nat) (d:Gn.Dice) (c:Nat→Int) (wr:World):Prop where
 cells:Arr wr G 5 384 (Byts c)
 xs:Arr wr X 112 6 (fun j=>.int .i64 (Gn.mx d j))
 ys:Arr wr Y 112 6 (fun j=>.int .i64 (Gn.my d j))
 res:Arr wr B 85 3 (fun _=>.slice none 0 0)
 grown:w.grownBy wr none
 o0:w.heap.size≤B
 o1:B<G
 o2:G<X
 o3:X<Y

theorem RefCor.on {w:World} {B G X Y:Nat} {d:Gn.Dice} {c:Nat→Int} {wr wx:World} (h:RefCor w B G X Y d c wr) (hg:wr.grownBy wx none):RefCor w B G X Y d c wx :=
 ⟨h.cells.grown hg (by simp),h.xs.grown hg (by simp),h.ys.grown hg (by simp),h.res.grown hg (by simp),grown_none h.grown hg,h.o0,h.o1,h.o2,h.o3⟩

theorem RefCor.dig {w:World} {B G X Y:Nat} {d:Gn.Dice} {c c':Nat→Int} {wr wx:World} (h:RefCor w B G X Y d c wr) (hA:Arr wx G 5 384 (Byts c')) (hg:wr.grownBy wx (some G)):RefCor w B G X Y d c' wx:=by
 have h0:=h.o0;have h1:=h.o1;have h2:=h.o2;have h3:=h.o3;exact ⟨hA,h.xs.grown hg (by simp;omega),h.ys.grown hg (by simp;omega),h.res.grown hg (by simp;omega),gow h.grown hg (fun n e=>by cases e;omega),h0,h1,h2,h3⟩

set_option maxRecDepth 100000 in
set_option maxHeartbeats 8000000 in
theorem ref_corr (s f:Int) (d:Gn.Dice) (hd:∀a b n,Gn.D s f a b n=d a b n) (hFr:Gn.Fair d) (h1f:1≤f) (h3f:f≤3) (w:World) (B G X Y:Nat) (wr:World)
  (hC:RefCor w B G X Y d (Gn.dug d 0) wr) {t2 t3 t8 t9 Aa Ab Ac Ad Ae Af Ag Ah Ai Aj Ak Al Am Ao Ap Aq Ar As Au Av Aw Ax Ay Az AA AB AC AD AE AF AG AH AI AJ AK AL AM AN AO AP AQ AR AS AT AU AV AW AX AY AZ A0 A1 A2 A3 A4 A5 A6 A7 A8 A9 Ba Bb Bc Bd Be Bf Bg Bh Bi Bj Bk Bl Bm Bn Bo Bp Bq Br Bs Bt Bu Bv Bw Bx Bz BA BB BC BD BE BF BG BH BI BJ BK BL BM BN BO BP BQ BR BS BT BU BV BW BX BY BZ B0 B1 B2 B3 B4 B5 B6 B7 B8 B9 Ca Cb Cc Cd Ce Cf Cg Ch Ci Cj Ck Cl Cm Cn Co Cp Cq Cs Ct Cu Cv Cw Cx Cy Cz CA CB CC CD CE CF CG CH CI CJ CK CL CM CN CO CP CQ CR CS CT CU CV CW CX CY CZ C0 C1 C2 C3 C4 C5 C6 C7 C8 C9 Da Db Dc Dd De Df Dg Dh Di Dj Dk Dl Dm Dn Dp Dq Dr Ds Dt Du Dv Dw Dx Dy Dz DA DB DC DD DE DF DG DH DI DJ DK DL DM DN DO DP DQ DR DS DT DU DV DW DX DY DZ D1 D2 D3 D4 D5 D6 D7 D8 D9 Ea Eb Ec Ed Ee Ef Eg Eh Ei Ej Ek El Em Eo Ep Er Es Et Eu Ev Ew Ex Ey Ez EA EB EC ED EE EF EG EH EI EJ EK EL EM EN EO EP EQ ER ES ET EU EV EW EX EY EZ E0 E1 E2 E3 E4 E5 E6 E7 E8 E9 Fa Fb Fc Fd Fe Ff Fg Fh Fi Fj Fk Fm Fn Fo:Value} :
  Code.wp Tryz.prog ((Tryz.f35.body.map (cdrop 4)).getD .skip) (bodyPost Tryz.prog Tryz.f35 (RefDone w d f)) ⟨#[.int .i64 s,.int .i64 f,t2,t3,.pointer (some ⟨B,0,none⟩),.slice (some ⟨G,0,none⟩) 384 384,.pointer (some ⟨X,0,none⟩),.pointer (some ⟨Y,0,none⟩),t8,t9,Aa,Ab,Ac,Ad,Ae,Af,Ag,Ah,Ai,Aj,Ak,Al,Am,Ao,Ap,Aq,Ar,As,Au,Av,Aw,Ax,Ay,Az,AA,AB,AC,AD,AE,AF,AG,AH,AI,AJ,AK,AL,AM,AN,AO,AP,AQ,AR,AS,AT,AU,AV,AW,AX,AY,AZ,A0,A1,A2,A3,A4,A5,A6,A7,A8,A9,Ba,Bb,Bc,Bd,Be,Bf,Bg,Bh,Bi,Bj,Bk,Bl,Bm,Bn,Bo,Bp,Bq,Br,Bs,Bt,Bu,Bv,Bw,Bx,Bz,BA,BB,BC,BD,BE,BF,BG,BH,BI,BJ,BK,BL,BM,BN,BO,BP,BQ,BR,BS,BT,BU,BV,BW,BX,BY,BZ,B0,B1,B2,B3,B4,B5,B6,B7,B8,B9,Ca,Cb,Cc,Cd,Ce,Cf,Cg,Ch,Ci,Cj,Ck,Cl,Cm,Cn,Co,Cp,Cq,Cs,Ct,Cu,Cv,Cw,Cx,Cy,Cz,CA,CB,CC,CD,CE,CF,CG,CH,CI,CJ,CK,CL,CM,CN,CO,CP,CQ,CR,CS,CT,CU,CV,CW,CX,CY,CZ,C0,C1,C2,C3,C4,C5,C6,C7,C8,C9,Da,Db,Dc,Dd,De,Df,Dg,Dh,Di,Dj,Dk,Dl,Dm,Dn,Dp,Dq,Dr,Ds,Dt,Du,Dv,Dw,Dx,Dy,Dz,DA,DB,DC,DD,DE,DF,DG,DH,DI,DJ,DK,DL,DM,DN,DO,DP,DQ,DR,DS,DT,DU,DV,DW,DX,DY,DZ,D1,D2,D3,D4,D5,D6,D7,D8,D9,Ea,Eb,Ec,Ed,Ee,Ef,Eg,Eh,Ei,Ej,Ek,El,Em,Eo,Ep,Er,Es,Et,Eu,Ev,Ew,Ex,Ey,Ez,EA,EB,EC,ED,EE,EF,EG,EH,EI,EJ,EK,EL,EM,EN,EO,EP,EQ,ER,ES,ET,EU,EV,EW,EX,EY,EZ,E0,E1,E2,E3,E4,E5,E6,E7,E8,E9,Fa,Fb,Fc,Fd,Fe,Ff,Fg,Fh,Fi,Fj,Fk,Fm,Fn,Fo],[]⟩ wr:=by
 conv=>arg 2;whnf
 have hd':=hide hd;have hFr':=hide hFr;have hC':=hide hC;clear hd hFr hC;go_wp2_with fail
 go_loopw [15] (fun vi wr=>∃j k:Nat,k≤5∧j=k+1∧vi=.int .i64 (j:Int)∧RefCor w B G X Y d (Gn.dug d k) wr) (fun vi _=>6 - (intOf vi).toNat)
 case atStart=>exact ⟨1,0,by omega,rfl,rfl,uh hC'⟩
 case round =>
  clear hC';rename_i hKK;have hK0:=hide hKK;clear hKK;obtain ⟨j,k,hk,hj,rfl,hC⟩:=hrel;have hC1:=hide hC;clear hC;by_cases hlt:k<5
  ·have hlt':(j:Int)<6:=by omega
   have hjk:(j:Int) - 1=(k:Int):=by omega
   have hk2:(k:Int)<6:=by omega
   have hwr:IntKind.i64.wrap ((j:Int) - 1)=(k:Int):=by rw [hjk,IntKind.wrap_i64];omega
   have hwr2:IntKind.i64.wrap (k:Int)=(k:Int):=by rw [IntKind.wrap_i64];omega
   obtain ⟨D0,hD0⟩:∃x,x=d (j:Int) 4 2:=⟨_,rfl⟩;obtain ⟨x0,hx0⟩:∃x,x=Gn.mx d k:=⟨_,rfl⟩;obtain ⟨y0,hy0⟩:∃x,x=Gn.my d k:=⟨_,rfl⟩;obtain ⟨tx,hx1⟩:∃x,x=Gn.mx d j:=⟨_,rfl⟩;obtain ⟨ty,hy1⟩:∃x,x=Gn.my d j:=⟨_,rfl⟩;have b0:=Gn.mid_bd (uh hFr') k;have b1:=Gn.mid_bd (uh hFr') j;rw [←hx0,←hy0] at b0;rw [←hx1,←hy1] at b1;obtain ⟨a1,a2,a3,a4⟩:=b0;obtain ⟨a5,a6,a7,a8⟩:=b1;have keep:Hid (∀x c,RefCor w B G X Y d c x→(x.cell? ⟨X,j,none⟩=some (.int .i64 tx)∧x.cell? ⟨Y,j,none⟩=some (.int .i64 ty))):=fun x c hx=>by
    rw [hx1,hy1];exact ⟨hx.xs.cell (by omega),hx.ys.cell (by omega)⟩
   have p1:wr.cell? ⟨X,k,none⟩=some (.int .i64 x0):=by rw [hx0];exact (uh hC1).xs.cell (by omega)
   have p2:wr.cell? ⟨Y,k,none⟩=some (.int .i64 y0):=by rw [hy0];exact (uh hC1).ys.cell (by omega)
   obtain ⟨c0,hc0⟩:∃c0:Nat,y0*24+x0=(c0:Int):=⟨(y0*24+x0).toNat,by omega⟩;have hdr:Hid (∀n,RefCor w B G X Y d (Gn.dug d k) (wr.drewN n)):=fun n=>(uh hC1).on (gdw (World.grownBy.refl _ none) n);have hdg:Hid (∀n,Calls Tryz.prog 62 #[.slice (some ⟨G,0,none⟩) 384 384,.int .i64 x0,.int .i64 y0,.bool false] (wr.drewN n) fun e w'=>e=.returned (.bool (Gn.digAt (Gn.dug d k,false) c0).2)∧Arr w' G 5 384 (Byts (Gn.digAt (Gn.dug d k,false) c0).1)∧(wr.drewN n).grownBy w' (some G)) :=
    fun n=>refDig_any G (Gn.dug d k,false) x0 y0 c0 (wr.drewN n) (uh hdr n).cells (Gn.dug_5 d k) (by omega) hc0
   obtain ⟨FIN,hFIN⟩:∃F,F=Gn.digRun tx ty (D0 == 0) (Gn.steps x0 y0 tx ty) (Gn.dug d k,false) x0 y0:=⟨_,rfl⟩;have hdug:Hid (Gn.dug d j=FIN.1):=by
    show Gn.dug d j=FIN.1;rw [hFIN,hx0,hy0,hx1,hy1,hD0,hj];rfl
   have hFIN':=hide hFIN;have hdie:=hide (fun x=>refD_any s f (j:Int) 4 2 x (by omega));have hD0':=hide hD0;have hc0':=hide hc0;have h5':Hid (∀i,0≤Gn.dug d k i∧Gn.dug d k i≤5):=Gn.dug_5 d k;have hj':=hide hj;clear hD0 hx0 hy0 hx1 hy1 hFIN hj hlt hk;go_wp2_with fail;go_quiet (fail);go_wp2_with fail;refine (uh hdg _).mono ?_;rintro e wd ⟨rfl,hAd,hgd⟩;have hC2:=hide ((uh hdr _).dig hAd hgd);clear hAd hgd hdg hdr p1 p2;go_wp2_with fail;have hdie2:=uh hdie wd;rw [uh hd',←uh hD0'] at hdie2;refine hdie2.mono ?_;rintro e we ⟨rfl,hge⟩;have hC3:=hide ((uh hC2).on hge);clear hge hC2 hdie2 hdie hC1;clear wd;obtain ⟨first,hfst⟩:∃b,(D0 == 0)=b:=⟨_,rfl⟩;have hFIN2:Hid (Gn.digRun tx ty first (Gn.steps x0 y0 tx ty) (Gn.dug d k,false) x0 y0=FIN):=by
    rw [←hfst];exact (uh hFIN').symm
   clear hFIN';go_wp2_with fail
   go_loopw [16,17,18] (fun vx vy vd wr=>∃(x y:Int) (st:(Nat→Int) × Bool) (c0:Nat),vx=.int .i64 x∧vy=.int .i64 y∧vd=.bool (Gn.digAt st c0).2∧((1≤x∧x≤22)∧1≤y∧y≤14)∧y*24+x=(c0:Int)∧(∀i,0≤st.1 i∧st.1 i≤5)∧Gn.digRun tx ty first (Gn.steps x y tx ty) st x y=FIN∧RefCor w B G X Y d (Gn.digAt st c0).1 wr) (fun vx vy _ _=>Gn.steps (intOf vx) (intOf vy) tx ty)
   case atStart=>exact ⟨x0,y0,(Gn.dug d k,false),c0,rfl,rfl,rfl,⟨⟨a1,a2⟩,a3,a4⟩,uh hc0',uh h5',uh hFIN2,uh hC3⟩
   case round =>
    clear hC3 hFIN2 hfst;obtain ⟨x,y,st,q0,rfl,rfl,rfl,⟨⟨e1,e2⟩,e3,e4⟩,hq0,h5,hrun,hC⟩:=hrel;have hC1:=hide hC;have hrun':=hide hrun;have h5s:=hide h5;have hq0':=hide hq0;obtain ⟨p1,p2⟩:=uh keep _ _ hC;obtain ⟨dr,hdr⟩:∃b,b=(Gn.digAt st q0).2:=⟨_,rfl⟩;rw [←hdr];have hdr':=hide hdr;clear hC hrun h5 hq0 hdr;by_cases hx:x=tx
    ·by_cases hy:y=ty
     ·have hend:Hid (FIN=Gn.digAt st q0):=by
       have h:=uh hrun';rw [Gn.run_end hx hy (uh hq0')] at h;exact h.symm
      have hfin:Hid (RefCor w B G X Y d (Gn.dug d j) wr):=by rw [uh hdug,uh hend];exact uh hC1
      have hx':(x != tx)=false:=by simpa using hx
      have hy':(y != ty)=false:=by simpa using hy
      clear hx hy;go_wp2;go_roundw;case rel=>exact ⟨j+1,j,by omega,rfl,by go_num,uh hfin⟩
      case measure=>simp [intOf];omega
     ·have hne:Hid (¬(x=tx∧y=ty)):=fun h=>hy h.2;have hnt:Hid (y≠ty):=hy;have hx':(x != tx)=false:=by simpa using hx
      have hy':(y != ty)=true:=by simpa using hy
      have hyq:(y == ty)=false:=by simpa using hy
      clear hx hy;cases first with
      | true =>
       have ew:Gn.way x y tx ty true=false:=by unfold Gn.way;rw [hyq,hx'];rfl
       have eX:Gn.stepX x y tx ty true=x:=by unfold Gn.stepX;rw [ew];rfl
       have eY:Gn.stepY x y tx ty true=Gn.to1 y ty:=by unfold Gn.stepY;rw [ew];rfl
       have hrun2:Hid (Gn.digRun tx ty true (Gn.steps (x) (Gn.to1 y ty) tx ty) (Gn.digAt st q0) (x) (Gn.to1 y ty)=FIN):=by
        have h:=uh hrun';rw [Gn.run_on (c:=q0) (uh hne) (uh hq0'),eX,eY] at h;exact h
       have hbd2:(1≤(x)∧(x)≤22)∧1≤(Gn.to1 y ty)∧(Gn.to1 y ty)≤14:=by
        have h:=Gn.step_bd x y tx ty true ⟨⟨e1,e2⟩,e3,e4⟩ ⟨⟨a5,a6⟩,a7,a8⟩;rw [eX,eY] at h;exact h
       have hless:Gn.steps (x) (Gn.to1 y ty) tx ty+1=Gn.steps x y tx ty:=by
        have h:=Gn.step_less x y tx ty true (uh hne);rw [eX,eY] at h;exact h
       obtain ⟨z,hz⟩:∃z,z=Gn.to1 y ty:=⟨_,rfl⟩;rw [←hz] at hrun2 hbd2 hless;have htw:=toward_any y ty wr (uh hnt) (by omega) (by omega);rw [←hz] at htw;have htw':=hide htw;obtain ⟨c1,hc1⟩:∃c1:Nat,z*24+x=(c1:Int):=⟨(z*24+x).toNat,by omega⟩;have hdg:=hide (refDig_any G (Gn.digAt st q0) x z c1 wr (uh hC1).cells (Gn.digAt_5 (uh h5s)) hbd2 hc1);rw [←uh hdr'] at hdg;have hc1':=hide hc1;have hless':=hide hless;obtain ⟨⟨g1,g2⟩,g3,g4⟩:=hbd2;clear eX eY ew hz htw hc1 hless;go_wp2_with fail;refine (uh htw').mono ?_;rintro e w' ⟨rfl,hw⟩;subst w';go_wp2_with fail;refine (uh hdg).mono ?_;rintro e wy ⟨rfl,hAy,hgy⟩;have hC2:=hide ((uh hC1).dig hAy hgy);clear hAy hgy hdg htw' hC1;go_wp2;go_roundw;case rel=>exact ⟨x,z,Gn.digAt st q0,c1,rfl,rfl,rfl,⟨⟨g1,g2⟩,g3,g4⟩,uh hc1',Gn.digAt_5 (uh h5s),uh hrun2,uh hC2⟩
       case measure=>have:=uh hless';simp [intOf];omega
      | false =>
       have ew:Gn.way x y tx ty false=false:=by unfold Gn.way;rw [hyq];rfl
       have eX:Gn.stepX x y tx ty false=x:=by unfold Gn.stepX;rw [ew];rfl
       have eY:Gn.stepY x y tx ty false=Gn.to1 y ty:=by unfold Gn.stepY;rw [ew];rfl
       have hrun2:Hid (Gn.digRun tx ty false (Gn.steps (x) (Gn.to1 y ty) tx ty) (Gn.digAt st q0) (x) (Gn.to1 y ty)=FIN):=by
        have h:=uh hrun';rw [Gn.run_on (c:=q0) (uh hne) (uh hq0'),eX,eY] at h;exact h
       have hbd2:(1≤(x)∧(x)≤22)∧1≤(Gn.to1 y ty)∧(Gn.to1 y ty)≤14:=by
        have h:=Gn.step_bd x y tx ty false ⟨⟨e1,e2⟩,e3,e4⟩ ⟨⟨a5,a6⟩,a7,a8⟩;rw [eX,eY] at h;exact h
       have hless:Gn.steps (x) (Gn.to1 y ty) tx ty+1=Gn.steps x y tx ty:=by
        have h:=Gn.step_less x y tx ty false (uh hne);rw [eX,eY] at h;exact h
       obtain ⟨z,hz⟩:∃z,z=Gn.to1 y ty:=⟨_,rfl⟩;rw [←hz] at hrun2 hbd2 hless;have htw:=toward_any y ty wr (uh hnt) (by omega) (by omega);rw [←hz] at htw;have htw':=hide htw;obtain ⟨c1,hc1⟩:∃c1:Nat,z*24+x=(c1:Int):=⟨(z*24+x).toNat,by omega⟩;have hdg:=hide (refDig_any G (Gn.digAt st q0) x z c1 wr (uh hC1).cells (Gn.digAt_5 (uh h5s)) hbd2 hc1);rw [←uh hdr'] at hdg;have hc1':=hide hc1;have hless':=hide hless;obtain ⟨⟨g1,g2⟩,g3,g4⟩:=hbd2;clear eX eY ew hz htw hc1 hless;go_wp2_with fail;refine (uh htw').mono ?_;rintro e w' ⟨rfl,hw⟩;subst w';go_wp2_with fail;refine (uh hdg).mono ?_;rintro e wy ⟨rfl,hAy,hgy⟩;have hC2:=hide ((uh hC1).dig hAy hgy);clear hAy hgy hdg htw' hC1;go_wp2;go_roundw;case rel=>exact ⟨x,z,Gn.digAt st q0,c1,rfl,rfl,rfl,⟨⟨g1,g2⟩,g3,g4⟩,uh hc1',Gn.digAt_5 (uh h5s),uh hrun2,uh hC2⟩
       case measure=>have:=uh hless';simp [intOf];omega
    ·have hne:Hid (¬(x=tx∧y=ty)):=fun h=>hx h.1;have hx':(x != tx)=true:=by simpa using hx
     have hnx:=hide hx;clear hx;cases first with
     | true =>
      have hnt:Hid (x≠tx):=hnx;have ew:Gn.way x y tx ty true=true:=by unfold Gn.way;rw [hx',Bool.true_and,Bool.or_true]
      have eX:Gn.stepX x y tx ty true=Gn.to1 x tx:=by unfold Gn.stepX;rw [ew];rfl
      have eY:Gn.stepY x y tx ty true=y:=by unfold Gn.stepY;rw [ew];rfl
      have hrun2:Hid (Gn.digRun tx ty true (Gn.steps (Gn.to1 x tx) (y) tx ty) (Gn.digAt st q0) (Gn.to1 x tx) (y)=FIN):=by
       have h:=uh hrun';rw [Gn.run_on (c:=q0) (uh hne) (uh hq0'),eX,eY] at h;exact h
      have hbd2:(1≤(Gn.to1 x tx)∧(Gn.to1 x tx)≤22)∧1≤(y)∧(y)≤14:=by
       have h:=Gn.step_bd x y tx ty true ⟨⟨e1,e2⟩,e3,e4⟩ ⟨⟨a5,a6⟩,a7,a8⟩;rw [eX,eY] at h;exact h
      have hless:Gn.steps (Gn.to1 x tx) (y) tx ty+1=Gn.steps x y tx ty:=by
       have h:=Gn.step_less x y tx ty true (uh hne);rw [eX,eY] at h;exact h
      obtain ⟨z,hz⟩:∃z,z=Gn.to1 x tx:=⟨_,rfl⟩;rw [←hz] at hrun2 hbd2 hless;have htw:=toward_any x tx wr (uh hnt) (by omega) (by omega);rw [←hz] at htw;have htw':=hide htw;obtain ⟨c1,hc1⟩:∃c1:Nat,y*24+z=(c1:Int):=⟨(y*24+z).toNat,by omega⟩;have hdg:=hide (refDig_any G (Gn.digAt st q0) z y c1 wr (uh hC1).cells (Gn.digAt_5 (uh h5s)) hbd2 hc1);rw [←uh hdr'] at hdg;have hc1':=hide hc1;have hless':=hide hless;obtain ⟨⟨g1,g2⟩,g3,g4⟩:=hbd2;clear eX eY ew hz htw hc1 hless;go_wp2_with fail;refine (uh htw').mono ?_;rintro e w' ⟨rfl,hw⟩;subst w';go_wp2_with fail;refine (uh hdg).mono ?_;rintro e wy ⟨rfl,hAy,hgy⟩;have hC2:=hide ((uh hC1).dig hAy hgy);clear hAy hgy hdg htw' hC1;go_wp2;go_roundw;case rel=>exact ⟨z,y,Gn.digAt st q0,c1,rfl,rfl,rfl,⟨⟨g1,g2⟩,g3,g4⟩,uh hc1',Gn.digAt_5 (uh h5s),uh hrun2,uh hC2⟩
      case measure=>have:=uh hless';simp [intOf];omega
     | false =>
      by_cases hy:y=ty
      ·have hnt:Hid (x≠tx):=hnx;have hyq:(y == ty)=true:=by simpa using hy
       clear hy;have ew:Gn.way x y tx ty false=true:=by unfold Gn.way;rw [hyq];rfl
       have eX:Gn.stepX x y tx ty false=Gn.to1 x tx:=by unfold Gn.stepX;rw [ew];rfl
       have eY:Gn.stepY x y tx ty false=y:=by unfold Gn.stepY;rw [ew];rfl
       have hrun2:Hid (Gn.digRun tx ty false (Gn.steps (Gn.to1 x tx) (y) tx ty) (Gn.digAt st q0) (Gn.to1 x tx) (y)=FIN):=by
        have h:=uh hrun';rw [Gn.run_on (c:=q0) (uh hne) (uh hq0'),eX,eY] at h;exact h
       have hbd2:(1≤(Gn.to1 x tx)∧(Gn.to1 x tx)≤22)∧1≤(y)∧(y)≤14:=by
        have h:=Gn.step_bd x y tx ty false ⟨⟨e1,e2⟩,e3,e4⟩ ⟨⟨a5,a6⟩,a7,a8⟩;rw [eX,eY] at h;exact h
       have hless:Gn.steps (Gn.to1 x tx) (y) tx ty+1=Gn.steps x y tx ty:=by
        have h:=Gn.step_less x y tx ty false (uh hne);rw [eX,eY] at h;exact h
       obtain ⟨z,hz⟩:∃z,z=Gn.to1 x tx:=⟨_,rfl⟩;rw [←hz] at hrun2 hbd2 hless;have htw:=toward_any x tx wr (uh hnt) (by omega) (by omega);rw [←hz] at htw;have htw':=hide htw;obtain ⟨c1,hc1⟩:∃c1:Nat,y*24+z=(c1:Int):=⟨(y*24+z).toNat,by omega⟩;have hdg:=hide (refDig_any G (Gn.digAt st q0) z y c1 wr (uh hC1).cells (Gn.digAt_5 (uh h5s)) hbd2 hc1);rw [←uh hdr'] at hdg;have hc1':=hide hc1;have hless':=hide hless;obtain ⟨⟨g1,g2⟩,g3,g4⟩:=hbd2;clear eX eY ew hz htw hc1 hless;go_wp2_with fail;refine (uh htw').mono ?_;rintro e w' ⟨rfl,hw⟩;subst w';go_wp2_with fail;refine (uh hdg).mono ?_;rintro e wy ⟨rfl,hAy,hgy⟩;have hC2:=hide ((uh hC1).dig hAy hgy);clear hAy hgy hdg htw' hC1;go_wp2;go_roundw;case rel=>exact ⟨z,y,Gn.digAt st q0,c1,rfl,rfl,rfl,⟨⟨g1,g2⟩,g3,g4⟩,uh hc1',Gn.digAt_5 (uh h5s),uh hrun2,uh hC2⟩
       case measure=>have:=uh hless';simp [intOf];omega
      ·have hnt:Hid (y≠ty):=hy;have hyq:(y == ty)=false:=by simpa using hy
       clear hy;have ew:Gn.way x y tx ty false=false:=by unfold Gn.way;rw [hyq];rfl
       have eX:Gn.stepX x y tx ty false=x:=by unfold Gn.stepX;rw [ew];rfl
       have eY:Gn.stepY x y tx ty false=Gn.to1 y ty:=by unfold Gn.stepY;rw [ew];rfl
       have hrun2:Hid (Gn.digRun tx ty false (Gn.steps (x) (Gn.to1 y ty) tx ty) (Gn.digAt st q0) (x) (Gn.to1 y ty)=FIN):=by
        have h:=uh hrun';rw [Gn.run_on (c:=q0) (uh hne) (uh hq0'),eX,eY] at h;exact h
       have hbd2:(1≤(x)∧(x)≤22)∧1≤(Gn.to1 y ty)∧(Gn.to1 y ty)≤14:=by
        have h:=Gn.step_bd x y tx ty false ⟨⟨e1,e2⟩,e3,e4⟩ ⟨⟨a5,a6⟩,a7,a8⟩;rw [eX,eY] at h;exact h
       have hless:Gn.steps (x) (Gn.to1 y ty) tx ty+1=Gn.steps x y tx ty:=by
        have h:=Gn.step_less x y tx ty false (uh hne);rw [eX,eY] at h;exact h
       obtain ⟨z,hz⟩:∃z,z=Gn.to1 y ty:=⟨_,rfl⟩;rw [←hz] at hrun2 hbd2 hless;have htw:=toward_any y ty wr (uh hnt) (by omega) (by omega);rw [←hz] at htw;have htw':=hide htw;obtain ⟨c1,hc1⟩:∃c1:Nat,z*24+x=(c1:Int):=⟨(z*24+x).toNat,by omega⟩;have hdg:=hide (refDig_any G (Gn.digAt st q0) x z c1 wr (uh hC1).cells (Gn.digAt_5 (uh h5s)) hbd2 hc1);rw [←uh hdr'] at hdg;have hc1':=hide hc1;have hless':=hide hless;obtain ⟨⟨g1,g2⟩,g3,g4⟩:=hbd2;clear eX eY ew hz htw hc1 hless;go_wp2_with fail;refine (uh htw').mono ?_;rintro e w' ⟨rfl,hw⟩;subst w';go_wp2_with fail;refine (uh hdg).mono ?_;rintro e wy ⟨rfl,hAy,hgy⟩;have hC2:=hide ((uh hC1).dig hAy hgy);clear hAy hgy hdg htw' hC1;go_wp2;go_roundw;case rel=>exact ⟨x,z,Gn.digAt st q0,c1,rfl,rfl,rfl,⟨⟨g1,g2⟩,g3,g4⟩,uh hc1',Gn.digAt_5 (uh h5s),uh hrun2,uh hC2⟩
       case measure=>have:=uh hless';simp [intOf];omega
  ·have hge:¬(j:Int)<6:=by omega
   obtain rfl:k=5:=by omega
   clear hk hlt hj;go_wp2_with fail;exact uh hK0 _ _ (ref_stairs s f d (uh hd') (uh hFr') h1f h3f w B G X Y wr (uh hC1).cells (uh hC1).xs (uh hC1).ys (uh hC1).res (uh hC1).grown (uh hC1).o0 (uh hC1).o1)

end Go.Proofs.YtldgbkjceildfaaGreat
