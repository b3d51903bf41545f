import Derived.Test.YtapgkgbpekkdjaaPart13
namespace Go.Proofs.Ytapgkgbpekkdjaa
open Go.RowKit

theorem Gn.upd_upd (c:Nat→Int) (k:Nat) (u v:Int):Gr.upd (Gr.upd c k u) k v=Gr.upd c k v:=by
 funext i
 unfold Gr.upd
 split <;> rfl

set_option maxHeartbeats 800000 in
theorem refDig_any (G:Nat) (st:(Nat→Int) × Bool) (x y:Int) (k:Nat) (w:World) (hA:Arr w G 5 384 (Byts st.1)) (h5:∀i,0≤st.1 i∧st.1 i≤5) (hx:(1≤x∧x≤22)∧1≤y∧y≤14) (hk:y*24+x=(k:Int)) :
  Calls Try.prog 59 #[.slice (some ⟨G,0,none⟩) 384 384,.int .i64 x,.int .i64 y,.bool st.2] w
   fun e w'=>e=.returned (.bool (Gn.digAt st k).2)∧Arr w' G 5 384 (Byts (Gn.digAt st k).1)∧w.grownBy w' (some G):=by
 have hkl:k<384:=by omega
 have hk':(k:Int)<384:=by omega
 have q1:w.cell? ⟨G,k,none⟩=some (.int .u8 (st.1 k)):=hA.cell hkl
 have q2:=hA.free k
 have h5k:=h5 k
 obtain ⟨v,hv⟩:∃v,v=st.1 k:=⟨_,rfl⟩
 rw [←hv] at q1 h5k
 obtain ⟨⟨x1,x2⟩,x3,x4⟩:=hx
 by_cases hz:v=0
 ·have hat:=Gn.at_wall (st:=st) (c:=k) (by rw [←hv];exact hz)
  have hz':(v != 0)=false:=by simpa using hz
  have hA1:=hA.byte k 1
  cases hb:st.2 with
  | true =>
   have hfin:Hid (Arr (w.setCell ⟨G,k,none⟩ (.int .u8 1)) G 5 384 (Byts (Gn.digAt st k).1)):=by rw [hat,hb];exact hA1
   have hb2:Hid ((Gn.digAt st k).2=true):=by rw [hat];exact (rfl:true=true)
   have hg:=hide (gpt w G k (.int .u8 1))
   clear hA1 hat hA hz hv
   go_enter Try.func59,Try.ntmps59
   go_wp2
   go_ret
   exact ⟨ret_bool (uh hb2).symm,uh hfin,uh hg⟩
  | false =>
   have hA2:=hA1.byte k 2
   have q3:=hA1.cell hkl
   have q4:=hA1.free k
   obtain ⟨w1,hw1⟩:∃w1,w.setCell ⟨G,k,none⟩ (.int .u8 1)=w1:=⟨_,rfl⟩
   rw [hw1] at hA2 q3 q4
   have hfin:Hid (Arr (w1.setCell ⟨G,k,none⟩ (.int .u8 2)) G 5 384 (Byts (Gn.digAt st k).1)):=by
    rw [hat,hb]
    rw [Gn.upd_upd] at hA2
    exact hA2
   have hb2:Hid ((Gn.digAt st k).2=true):=by rw [hat];exact (rfl:true=true)
   have hg:Hid (w.grownBy (w1.setCell ⟨G,k,none⟩ (.int .u8 2)) (some G)):=by rw [←hw1];exact gst (gpt w G k (.int .u8 1)) k _
   clear hA1 hA2 hat hA hz hv
   go_enter Try.func59,Try.ntmps59
   go_wp2
   go_ret
   exact ⟨ret_bool (uh hb2).symm,uh hfin,uh hg⟩
 ·have hat:=Gn.at_free (st:=st) (c:=k) (by rw [←hv];exact hz)
  have hz':(v != 0)=true:=by simpa using hz
  have hfin:Hid (Arr w G 5 384 (Byts (Gn.digAt st k).1)):=by rw [hat];exact hA
  have hb2:Hid ((Gn.digAt st k).2=st.2):=by rw [hat];exact (rfl:st.2=st.2)
  obtain ⟨b,hb⟩:∃b,b=st.2:=⟨_,rfl⟩
  rw [←hb] at hb2 ⊢
  clear hat hA hz hv hb
  go_enter Try.func59,Try.ntmps59
  go_wp2
  go_ret
  exact ⟨ret_bool (uh hb2).symm,uh hfin,World.grownBy.refl _ _⟩

def Gn.free (c F:Nat→Int) (far:Int) (U:Nat→Bool) (i:Nat):Bool:=c i == 1 && decide (far≤F i) && !U i

def Gn.picked (d:Gn.Dice) (a:Int) (l:List Nat):Int:=if l.length=0 then -1 else ((l[(d a 0 (l.length:Int)).toNat]?.getD 0:Nat):Int)

set_option maxRecDepth 8000 in
set_option maxHeartbeats 1600000 in
theorem pick_any (s f:Int) (d:Gn.Dice) (hd:∀a b n,Gn.D s f a b n=d a b n) (hFr:Gn.Fair d) (G gF gU:Nat) (c F:Nat→Int) (far a:Int) (U:Nat→Bool) (w:World) (hA:Arr w G 5 384 (Byts c)) (hF:Arr w gF 3 384 (Ints F)) (hU:Arr w gU 4 384 (Bols U)) :
  Calls Try.prog 62 #[.slice (some ⟨G,0,none⟩) 384 384,.slice (some ⟨gF,0,none⟩) 384 384,.int .i64 far,.slice (some ⟨gU,0,none⟩) 384 384,.int .i64 s,.int .i64 f,.int .i64 a] w
   (Says w (.int .i64 (Gn.picked d a (Gn.those (Gn.free c F far U) 384)))):=by
 have hA':=hide hA
 have hF':=hide hF
 have hU':=hide hU
 have hd':=hide hd
 have hFr':=hide hFr
 obtain ⟨i0,hi,hz0,hz1,hz2⟩:=info_parts info_int
 clear hA hF hU hd hFr
 go_enter Try.func62,Try.ntmps62
 go_wp2_with fail
 go_loopw [15,16] (fun v i wr=>∃k:Nat,k≤384∧i=.int .i64 (k:Int)∧Lst wr w.heap.size v (Gn.those (Gn.free c F far U) k)∧w.grownBy wr none) (fun _ i _=>400 - (intOf i).toNat)
 case atStart=>exact ⟨0,by omega,rfl,World.ownsRow_nil _ _ _ _,World.grownBy.refl _ _⟩
 case round =>
  obtain ⟨k,hk,rfl,hown,hg⟩:=hrel
  have hown1:=hide hown
  have hg1:=hide hg
  have hsz:=hg.size
  have hln:=Gn.those_len (Gn.free c F far U) k
  clear hown hg
  by_cases hlt:k<384
  ·have q1:wr.cell? ⟨G,k,none⟩=some (.int .u8 (c k)):=((uh hA').grown (uh hg1) (by simp)).cell hlt
   have q2:wr.cell? ⟨gF,k,none⟩=some (.int .i64 (F k)):=((uh hF').grown (uh hg1) (by simp)).cell hlt
   have q3:wr.cell? ⟨gU,k,none⟩=some (.bool (U k)):=((uh hU').grown (uh hg1) (by simp)).cell hlt
   have hlt':(k:Int)<384:=by omega
   have HL:=hide hlt
   clear hlt hk
   by_cases hq:Gn.free c F far U k=true
   ·have hyes:=hide (Gn.those_yes hq)
    have hq2:=hq
    unfold Gn.free at hq2
    simp only [Bool.and_eq_true,decide_eq_true_eq,Bool.not_eq_true'] at hq2
    obtain ⟨⟨r1,r2⟩,r3⟩:=hq2
    obtain ⟨l,hl⟩:∃l,l=Gn.those (Gn.free c F far U) k:=⟨_,rfl⟩
    rw [←hl] at hown1 hln hyes
    clear hl hq
    go_wp2_with (at_builtin;refine wpList_append_own _ rfl _ _ 22 rfl w.heap.size 3 i0 (.int .i64 0) 1 8 Try.underlying22 hi hz0 hz1 hz2 rfl (by decide) _ _ _ rfl ((uh hown1).alloc _) ⟨wr.heap.size,0,none⟩ 1 1 [.int .i64 (k:Int)] rfl rfl ?_ ?_ ?_ ?_ ?_ ?_)
    ·exact one_at _ _ _ _ rfl
    ·intro u hu;simp at hu;subst hu;rfl
    ·unfold maxLen;omega
    ·omega
    ·simp;omega
    intro v' w1 hown' hgrow _
    rw [natInts_more] at hown'
    have hown2:Hid (Lst w1 w.heap.size v' (Gn.those (Gn.free c F far U) (k+1))):=by
     rw [uh hyes]
     show w1.ownsRow _ _ _ _ _ _
     rw [List.length_append]
     exact hown'
    have hg2:=hide (gow (gal (uh hg1) _) hgrow (fun n e=>((uh hown1).lt n e).1))
    clear hown' hgrow hown1 hg1
    go_wp2
    go_roundw
    case rel=>exact ⟨k+1,by have:=uh HL;omega,by go_num,uh hown2,uh hg2⟩
    case measure=>simp [intOf];omega
   ·have hq':Gn.free c F far U k=false:=by simpa using hq
    have hno:=hide (Gn.those_no hq')
    have hcs:(c k == 1)=false∨((c k == 1)=true∧¬far≤F k)∨((c k == 1)=true∧far≤F k∧U k=true):=by
     unfold Gn.free at hq'
     cases h1:(c k == 1) with
     | false=>exact .inl rfl
     | true =>
      rw [h1] at hq'
      by_cases h2:far≤F k
      ·right;right
       refine ⟨rfl,h2,?_⟩
       simpa [h2] using hq'
      ·exact .inr (.inl ⟨rfl,h2⟩)
    clear hq hq'
    rcases hcs with r1 | ⟨r1,r2⟩ | ⟨r1,r2,r3⟩
    ·go_wp2
     go_roundw
     case rel=>exact ⟨k+1,by have:=uh HL;omega,by go_num,by rw [uh hno];exact uh hown1,uh hg1⟩
     case measure=>simp [intOf];omega
    ·have r2':decide (far≤F k)=false:=by simpa using r2
     clear r2
     go_wp2
     go_roundw
     case rel=>exact ⟨k+1,by have:=uh HL;omega,by go_num,by rw [uh hno];exact uh hown1,uh hg1⟩
     case measure=>simp [intOf];omega
    ·go_wp2
     go_roundw
     case rel=>exact ⟨k+1,by have:=uh HL;omega,by go_num,by rw [uh hno];exact uh hown1,uh hg1⟩
     case measure=>simp [intOf];omega
  ·have hge:¬(k:Int)<384:=by omega
   obtain rfl:k=384:=by omega
   obtain ⟨l,hl⟩:∃l,l=Gn.those (Gn.free c F far U) 384:=⟨_,rfl⟩
   rw [←hl] at hown1 hln
   have hl':=hide hl
   clear hlt hk hl
   rcases (uh hown1).form with ⟨rfl,h0⟩ | ⟨g,cap,H,rfl,hb,hAr,hlc,hm,hH⟩
   ·have hres:Hid (Gn.picked d a (Gn.those (Gn.free c F far U) 384)=-1):=by
     show Gn.picked d a (Gn.those (Gn.free c F far U) 384)=-1
     rw [←uh hl',h0]
     rfl
    clear h0
    go_wp2
    go_ret
    exact ⟨rti (uh hres).symm,uh hg1⟩
   ·by_cases h0:l.length=0
    ·have hres:Hid (Gn.picked d a (Gn.those (Gn.free c F far U) 384)=-1):=by
      show Gn.picked d a (Gn.those (Gn.free c F far U) 384)=-1
      rw [←uh hl']
      unfold Gn.picked
      rw [if_pos h0]
     rw [h0]
     clear hAr hH
     go_wp2
     go_ret
     exact ⟨rti (uh hres).symm,uh hg1⟩
    ·obtain ⟨N,hN⟩:∃x,x=d a 0 (l.length:Int):=⟨_,rfl⟩
     obtain ⟨n1,n2⟩:0≤N∧N<(l.length:Int):=by rw [hN];exact uh hFr' _ _ _ (by omega)
     obtain ⟨n,hn⟩:∃n:Nat,N=(n:Int):=⟨N.toNat,by omega⟩
     have hnl:n<l.length:=by omega
     have hnl':(n:Int)<(l.length:Int):=by omega
     have hdN:=refD_any s f a 0 (l.length:Int) wr (by omega)
     rw [uh hd',←hN,hn] at hdN
     obtain ⟨cl,hcl⟩:∃cl,cl=l[n]?.getD 0:=⟨_,rfl⟩
     have hres:Hid (Gn.picked d a (Gn.those (Gn.free c F far U) 384)=(cl:Int)):=by
      show Gn.picked d a (Gn.those (Gn.free c F far U) 384)=(cl:Int)
      rw [←uh hl']
      unfold Gn.picked
      rw [if_neg h0,←hN,hn,Int.toNat_natCast,hcl]
     have hAr':=hide hAr
     have hq:Hid (H n=.int .i64 (cl:Int)):=by show H n=_;rw [hH n hnl,hcl]
     have hz:((l.length:Int) == 0)=false:=by rw [beq_eq_false_iff_ne];omega
     clear hAr hH hN hn hcl h0 n1 n2
     go_wp2_with fail
     refine hdN.mono ?_
     rintro e wd ⟨rfl,hgd⟩
     have hc2:wd.cell? ⟨g,n,none⟩=some (.int .i64 (cl:Int)):=by rw [((uh hAr').grown hgd (by simp)).cell (by omega),uh hq]
     have hg2:=hide (grown_none (uh hg1) hgd)
     clear hgd
     go_wp2
     go_ret
     exact ⟨rti (uh hres).symm,uh hg2⟩

end Go.Proofs.Ytapgkgbpekkdjaa
