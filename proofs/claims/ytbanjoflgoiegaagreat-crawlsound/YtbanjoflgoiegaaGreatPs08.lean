import Derived.Test.YtbanjoflgoiegaaGreatPs05
import Derived.Test.YtbanjoflgoiegaaGreatPs07
namespace Go.Proofs.YtbanjoflgoiegaaGreat
open Go.RowKit

structure DigHold (w:World) (G:Nat) (x y tx ty:Int) (wr:World):Prop where
 here:Arr wr w.heap.size 118 2 (fun j=>.int .i64 (if j=0 then x else y))
 goal:Arr wr (w.heap.size+1) 118 2 (fun j=>.int .i64 (if j=0 then tx else ty))
 grown:w.grownBy wr (some G)

theorem DigHold.on {w:World} {G:Nat} {x y tx ty:Int} {wr wx:World} (h:DigHold w G x y tx ty wr) (hg:wr.grownBy wx none):DigHold w G x y tx ty wx :=
 ⟨h.here.grown hg (by simp),h.goal.grown hg (by simp),grown_none h.grown hg⟩

theorem gpt (w:World) (g i:Nat) (u:Value):w.grownBy (w.setCell ⟨g,i,none⟩ u) (some g):=gst (World.grownBy.refl _ _) i u

theorem DigHold.put {w:World} {G:Nat} {x y tx ty:Int} {wr:World} (h:DigHold w G x y tx ty wr) (hG:G<w.heap.size) (i:Nat) (u:Value):DigHold w G x y tx ty (wr.setCell ⟨G,i,none⟩ u) :=
 ⟨h.here.grown (gpt wr G i u) (by simp;omega),h.goal.grown (gpt wr G i u) (by simp;omega),gst h.grown i u⟩

theorem DigHold.move {w:World} {G:Nat} {x y tx ty:Int} {wr:World} (h:DigHold w G x y tx ty wr) (u v:Int) :
  DigHold w G u v tx ty ((wr.setCell ⟨w.heap.size,0,none⟩ (.int .i64 u)).setCell ⟨w.heap.size,1,none⟩ (.int .i64 v)):=by
 have hg:wr.grownBy ((wr.setCell ⟨w.heap.size,0,none⟩ (.int .i64 u)).setCell ⟨w.heap.size,1,none⟩ (.int .i64 v)) (some w.heap.size):=gst (gpt _ _ _ _) _ _
 refine ⟨?_,h.goal.grown hg (by simp),gow h.grown hg (fun n e=>by cases e;omega)⟩
 refine ((h.here.store _ _).store _ _).congr fun j hj=>?_
 rcases (show j=0∨j=1 by omega) with rfl | rfl <;> rfl

theorem Arr.pair (w:World) (x y:Int) (T:TypeId):Arr (w.alloc (.cells #[.int .i64 x,.int .i64 y] T)) w.heap.size T 2 (fun j=>.int .i64 (if j=0 then x else y)):=by
 refine ⟨_,heap_alloc_new _ _,rfl,fun i hi=>?_⟩
 rcases (show i=0∨i=1 by omega) with rfl | rfl <;> rfl

theorem DigHold.start (w:World) (G:Nat) (x y tx ty:Int) :
  DigHold w G x y tx ty ((w.alloc (.cells #[.int .i64 x,.int .i64 y] 118)).alloc (.cells #[.int .i64 tx,.int .i64 ty] 118)):=by
 refine ⟨(Arr.pair _ _ _ _).alloc _,?_,gal (World.grownBy_alloc _ _ _) _⟩
 have h:=Arr.pair (w.alloc (.cells #[.int .i64 x,.int .i64 y] 118)) tx ty 118
 simpa using h

theorem Gn.steps_0 {x y tx ty:Int} (hx:x=tx) (hy:y=ty):Gn.steps x y tx ty=0:=by
 unfold Gn.steps;omega

theorem Gn.run_on {tx ty x y:Int} {first:Bool} {st:(Nat→Int) × Bool} {c:Nat} (h:¬(x=tx∧y=ty)) (hc:y*24+x=(c:Int)) :
  Gn.digRun tx ty first (Gn.steps x y tx ty) st x y=Gn.digRun tx ty first (Gn.steps (Gn.stepX x y tx ty first) (Gn.stepY x y tx ty first) tx ty) (Gn.digAt st c) (Gn.stepX x y tx ty first) (Gn.stepY x y tx ty first):=by
 rw [←Gn.step_less x y tx ty first h,Gn.digRun,hc,Int.toNat_natCast]

theorem Gn.run_end {tx ty x y:Int} {first:Bool} {st:(Nat→Int) × Bool} {c:Nat} (hx:x=tx) (hy:y=ty) (hc:y*24+x=(c:Int)) :
  Gn.digRun tx ty first (Gn.steps x y tx ty) st x y=Gn.digAt st c:=by
 rw [Gn.steps_0 hx hy,Gn.digRun,hc,Int.toNat_natCast]

theorem Gn.at_wall {st:(Nat→Int) × Bool} {c:Nat} (h:st.1 c=0):Gn.digAt st c=(Gr.upd st.1 c (if st.2 then 1 else 2),true):=if_pos h

theorem Gn.at_free {st:(Nat→Int) × Bool} {c:Nat} (h:¬st.1 c=0):Gn.digAt st c=st:=if_neg h

theorem Arr.byte {w:World} {g n:Nat} {T:TypeId} {F:Nat→Int} (h:Arr w g T n (Byts F)) (i:Nat) (v:Int):Arr (w.setCell ⟨g,i,none⟩ (.int .u8 v)) g T n (Byts (Gr.upd F i v)):=by
 refine (h.store i _).congr fun j _=>?_
 show (if j=i then Value.int .u8 v else .int .u8 (F j))=.int .u8 (if j=i then v else F j)
 split <;> rfl

set_option maxRecDepth 8000 in
set_option maxHeartbeats 4000000 in
theorem dig_any (G:Nat) (c0:Nat→Int) (x0 y0 tx ty:Int) (first:Bool) (w:World) (hA:Arr w G 5 384 (Byts c0)) (h5:∀i,0≤c0 i∧c0 i≤5) (hxy:(1≤x0∧x0≤22)∧1≤y0∧y0≤14) (ht:(1≤tx∧tx≤22)∧1≤ty∧ty≤14) :
  Calls Tryz.prog 130 #[.slice (some ⟨G,0,none⟩) 384 384,.agg #[.int .i64 x0,.int .i64 y0],.agg #[.int .i64 tx,.int .i64 ty],.bool first] w
   (fun e w'=>e=.returned (.tuple #[])∧Arr w' G 5 384 (Byts (Gn.digRun tx ty first (Gn.steps x0 y0 tx ty) (c0,false) x0 y0).1)∧w.grownBy w' (some G)):=by
 have hG:=hA.lt
 have hA':=hide hA
 have h5':=hide h5
 have ht':=hide ht
 have hxy':=hide hxy
 obtain ⟨fin,hfin⟩:∃fin,fin=(Gn.digRun tx ty first (Gn.steps x0 y0 tx ty) (c0,false) x0 y0).1:=⟨_,rfl⟩
 rw [←hfin]
 have hfin':=hide hfin
 clear hA h5 hfin ht hxy
 go_enter Tryz.func130,Tryz.ntmps130
 go_wp2_with fail
 refine wp_scope_ghost 0 (fun m a' w'=>∃(x y kd:Int) (st:(Nat→Int) × Bool) (u4 u7 u9 u10 u11 u12 u13 u14 u15 u16 u17 u18 u19 u20 u21 u22 u23 u24 u25 u26 u27:Value),a'={ tmps:=#[.slice (some ⟨G,0,none⟩) 384 384,.agg #[.int .i64 x0,.int .i64 y0],.agg #[.int .i64 tx,.int .i64 ty],.bool first,u4,.pointer (some ⟨w.heap.size,0,none⟩),.pointer (some ⟨w.heap.size+1,0,none⟩),u7,.int .u8 kd,u9,u10,u11,u12,u13,u14,u15,u16,u17,u18,u19,u20,u21,u22,u23,u24,u25,u26,u27],defers:=[] }∧((1≤x∧x≤22)∧1≤y∧y≤14)∧(∀i,0≤st.1 i∧st.1 i≤5)∧Arr w' G 5 384 (Byts st.1)∧DigHold w G x y tx ty w'∧m=Gn.steps x y tx ty∧(Gn.digRun tx ty first m st x y).1=fin∧kd=(if st.2 then 1 else 2)) rfl ?_ ?_
 ·obtain ⟨st,hst⟩:∃st:(Nat→Int) × Bool,st=(c0,false):=⟨_,rfl⟩
  have hkd':Hid ((2:Int)=if st.2 then 1 else 2):=by rw [hst];rfl
  have hs5':Hid (∀i,0≤st.1 i∧st.1 i≤5):=by rw [hst];exact uh h5'
  have hA1:Hid (Arr ((w.alloc (.cells #[.int .i64 x0,.int .i64 y0] 118)).alloc (.cells #[.int .i64 tx,.int .i64 ty] 118)) G 5 384 (Byts st.1)):=by rw [hst];exact ((uh hA').alloc _).alloc _
  have hH1:=hide (DigHold.start w G x0 y0 tx ty)
  have hrun':Hid ((Gn.digRun tx ty first (Gn.steps x0 y0 tx ty) st x0 y0).1=fin):=by rw [hst];exact (uh hfin').symm
  obtain ⟨⟨b1,b2⟩,b3,b4⟩:=uh hxy'
  clear hst hA' h5' hfin' hxy'
  have p1:=(uh hH1).here.cell (i:=0) (by omega)
  have p2:=(uh hH1).here.cell (i:=1) (by omega)
  simp only [ite_true,Nat.one_ne_zero,ite_false] at p1 p2
  go_wp2_with fail
  go_step3
  go_wp2_with fail
  refine (num_any x0 y0 _ (by omega) (by omega) (by omega) (by omega)).mono ?_
  rintro e wn ⟨rfl,hgn⟩
  obtain ⟨c,hc⟩:∃c:Nat,y0*24+x0=(c:Int):=⟨(y0*24+x0).toNat,by omega⟩
  have hcl:c<384:=by omega
  have hA2:=hide ((uh hA1).grown hgn (by simp))
  have hH2:=hide ((uh hH1).on hgn)
  rw [hc]
  have hcc:wn.cell? ⟨G,c,none⟩=some (.int .u8 (st.1 c)):=(uh hA2).cell hcl
  have hcf:=(uh hA2).free c
  have hc2:(c:Int)<384:=by omega
  have hc':=hide hc
  have hst5:=hide (Gn.digAt_5 (k:=c) (uh hs5'))
  clear hgn hA1 hH1 p1 p2 hc
  by_cases hwall:st.1 c=0
  ·have hw0:(st.1 c == 0)=true:=by simpa using hwall
   have hat:=Gn.at_wall hwall
   rw [←uh hkd'] at hat
   have hA3:Hid (Arr (wn.setCell ⟨G,c,none⟩ (.int .u8 2)) G 5 384 (Byts (Gn.digAt st c).1)):=by rw [hat];exact (uh hA2).byte c _
   have hk3:Hid ((1:Int)=if (Gn.digAt st c).2 then 1 else 2):=by rw [hat];rfl
   have hH3:=hide ((uh hH2).put hG c (.int .u8 2))
   obtain ⟨wm,hwm⟩:∃wm,wm=wn.setCell ⟨G,c,none⟩ (.int .u8 2):=⟨_,rfl⟩
   rw [←hwm] at hA3 hH3
   have p1:=(uh hH3).here.cell (i:=0) (by omega)
   have p2:=(uh hH3).here.cell (i:=1) (by omega)
   have p3:=(uh hH3).goal.cell (i:=0) (by omega)
   have p4:=(uh hH3).goal.cell (i:=1) (by omega)
   simp only [ite_true,Nat.one_ne_zero,ite_false] at p1 p2 p3 p4
   clear hwall hat hA2 hH2
   have hww:=hwm.symm
   clear hwm
   by_cases hend:x0=tx∧y0=ty
   ·obtain ⟨hex,hey⟩:=hend
    have q1:(x0 == tx)=true:=by simpa using hex
    have q2:(y0 == ty)=true:=by simpa using hey
    have hf:Hid (Arr wm G 5 384 (Byts fin)):=by
     have h:=uh hA3
     rw [←Gn.run_end (first:=first) hex hey (uh hc'),uh hrun'] at h
     exact h
    clear hex hey
    go_wp2
    simp only [Exit.jump]
    refine bodyPost_ret (results_none rfl _ _ _) rfl ?_
    exact ⟨rfl,uh hf,(uh hH3).grown⟩
   ·have hon:=Gn.run_on (first:=first) (st:=st) hend (uh hc')
    rw [←Gn.step_less x0 y0 tx ty first hend] at hrun'
    have hrun2:=uh hrun'
    rw [Gn.step_less x0 y0 tx ty first hend,hon] at hrun2
    have hrun3:=hide hrun2
    have hles:=hide (Gn.step_less x0 y0 tx ty first hend)
    have hbd:=Gn.step_bd x0 y0 tx ty first ⟨⟨b1,b2⟩,b3,b4⟩ (uh ht')
    have hbd':=hide hbd
    obtain ⟨nx,hnx⟩:∃nx,nx=Gn.stepX x0 y0 tx ty first:=⟨_,rfl⟩
    obtain ⟨ny,hny⟩:∃ny,ny=Gn.stepY x0 y0 tx ty first:=⟨_,rfl⟩
    rw [←hnx,←hny] at hrun3 hles hbd'
    have hcall:=fun w'=>nearer_any x0 y0 tx ty first w' (by omega) (by omega) (by omega) (by omega)
    rw [←hnx,←hny] at hcall
    have hcall':=hide hcall
    clear hon hrun2 hbd hnx hny hcall
    have hq:(x0 == tx)=false∨((x0 == tx)=true∧(y0 == ty)=false):=by
     by_cases hx:x0=tx
     ·right
      exact ⟨by simpa using hx,by simpa using fun h=>hend ⟨hx,h⟩⟩
     ·left
      simpa using hx
    clear hend
    rcases hq with q1 | ⟨q1,q2⟩
    all_goals
     go_wp2_with fail
     refine (uh hcall' _).mono ?_
     rintro e wv ⟨rfl,hgv⟩
     have hA4:=hide ((uh hA3).grown hgv (by simp))
     have hH4:=hide ((uh hH3).on hgv)
     have z1:=(uh hH4).here.cell (i:=0) (by omega)
     have z2:=(uh hH4).here.cell (i:=1) (by omega)
     have z3:=(uh hH4).here.free 0
     have z4:=(uh hH4).here.free 1
     clear hgv
     go_wp2_with fail
     go_step3
     exact ⟨rfl,Gn.steps nx ny tx ty, nx,ny,_,Gn.digAt st c,_,_,_,_,_,_,_,_,_,_,_,_,_,_,_,_,_,_,_,_,_,rfl,uh hbd',uh hst5,(uh hA4).grown (gst (gpt _ _ _ _) _ _) (by simp;omega),(uh hH4).move nx ny,rfl,uh hrun3,uh hk3⟩
  ·have hw0:(st.1 c == 0)=false:=by simpa using hwall
   have hat:=Gn.at_free hwall
   have hA3:Hid (Arr wn G 5 384 (Byts (Gn.digAt st c).1)):=by rw [hat];exact uh hA2
   have hk3:Hid ((2:Int)=if (Gn.digAt st c).2 then 1 else 2):=by rw [hat];exact uh hkd'
   have hH3:=hH2
   have p1:=(uh hH3).here.cell (i:=0) (by omega)
   have p2:=(uh hH3).here.cell (i:=1) (by omega)
   have p3:=(uh hH3).goal.cell (i:=0) (by omega)
   have p4:=(uh hH3).goal.cell (i:=1) (by omega)
   simp only [ite_true,Nat.one_ne_zero,ite_false] at p1 p2 p3 p4
   clear hwall hat hA2 hH2
   by_cases hend:x0=tx∧y0=ty
   ·obtain ⟨hex,hey⟩:=hend
    have q1:(x0 == tx)=true:=by simpa using hex
    have q2:(y0 == ty)=true:=by simpa using hey
    have hf:Hid (Arr wn G 5 384 (Byts fin)):=by
     have h:=uh hA3
     rw [←Gn.run_end (first:=first) hex hey (uh hc'),uh hrun'] at h
     exact h
    clear hex hey
    go_wp2
    simp only [Exit.jump]
    refine bodyPost_ret (results_none rfl _ _ _) rfl ?_
    exact ⟨rfl,uh hf,(uh hH3).grown⟩
   ·have hon:=Gn.run_on (first:=first) (st:=st) hend (uh hc')
    rw [←Gn.step_less x0 y0 tx ty first hend] at hrun'
    have hrun2:=uh hrun'
    rw [Gn.step_less x0 y0 tx ty first hend,hon] at hrun2
    have hrun3:=hide hrun2
    have hles:=hide (Gn.step_less x0 y0 tx ty first hend)
    have hbd:=Gn.step_bd x0 y0 tx ty first ⟨⟨b1,b2⟩,b3,b4⟩ (uh ht')
    have hbd':=hide hbd
    obtain ⟨nx,hnx⟩:∃nx,nx=Gn.stepX x0 y0 tx ty first:=⟨_,rfl⟩
    obtain ⟨ny,hny⟩:∃ny,ny=Gn.stepY x0 y0 tx ty first:=⟨_,rfl⟩
    rw [←hnx,←hny] at hrun3 hles hbd'
    have hcall:=fun w'=>nearer_any x0 y0 tx ty first w' (by omega) (by omega) (by omega) (by omega)
    rw [←hnx,←hny] at hcall
    have hcall':=hide hcall
    clear hon hrun2 hbd hnx hny hcall
    have hq:(x0 == tx)=false∨((x0 == tx)=true∧(y0 == ty)=false):=by
     by_cases hx:x0=tx
     ·right
      exact ⟨by simpa using hx,by simpa using fun h=>hend ⟨hx,h⟩⟩
     ·left
      simpa using hx
    clear hend
    rcases hq with q1 | ⟨q1,q2⟩
    all_goals
     go_wp2_with fail
     refine (uh hcall' _).mono ?_
     rintro e wv ⟨rfl,hgv⟩
     have hA4:=hide ((uh hA3).grown hgv (by simp))
     have hH4:=hide ((uh hH3).on hgv)
     have z1:=(uh hH4).here.cell (i:=0) (by omega)
     have z2:=(uh hH4).here.cell (i:=1) (by omega)
     have z3:=(uh hH4).here.free 0
     have z4:=(uh hH4).here.free 1
     clear hgv
     go_wp2_with fail
     go_step3
     exact ⟨rfl,Gn.steps nx ny tx ty, nx,ny,_,Gn.digAt st c,_,_,_,_,_,_,_,_,_,_,_,_,_,_,_,_,_,_,_,_,_,rfl,uh hbd',uh hst5,(uh hA4).grown (gst (gpt _ _ _ _) _ _) (by simp;omega),(uh hH4).move nx ny,rfl,uh hrun3,uh hk3⟩
 ·rintro m a' w2 ⟨x,y,kd,st,u4,u7,u9,u10,u11,u12,u13,u14,u15,u16,u17,u18,u19,u20,u21,u22,u23,u24,u25,u26,u27,rfl,hb,hs5,hA,hH,rfl,hrun,hkd⟩
  obtain ⟨⟨b1,b2⟩,b3,b4⟩:=hb
  have hH1:=hide hH
  have hA1:=hide hA
  have hs5':=hide hs5
  have hrun':=hide hrun
  have hkd':=hide hkd
  clear hA hH hs5 hrun hkd hA' h5' hfin'
  have p1:=(uh hH1).here.cell (i:=0) (by omega)
  have p2:=(uh hH1).here.cell (i:=1) (by omega)
  simp only [ite_true,Nat.one_ne_zero,ite_false] at p1 p2
  go_wp2_with fail
  refine (num_any x y _ (by omega) (by omega) (by omega) (by omega)).mono ?_
  rintro e wn ⟨rfl,hgn⟩
  obtain ⟨c,hc⟩:∃c:Nat,y*24+x=(c:Int):=⟨(y*24+x).toNat,by omega⟩
  have hcl:c<384:=by omega
  have hA2:=hide ((uh hA1).grown hgn (by simp))
  have hH2:=hide ((uh hH1).on hgn)
  rw [hc]
  have hcc:wn.cell? ⟨G,c,none⟩=some (.int .u8 (st.1 c)):=(uh hA2).cell hcl
  have hcf:=(uh hA2).free c
  have hc2:(c:Int)<384:=by omega
  have hc':=hide hc
  have hst5:=hide (Gn.digAt_5 (k:=c) (uh hs5'))
  clear hgn hA1 hH1 p1 p2 hc
  by_cases hwall:st.1 c=0
  ·have hw0:(st.1 c == 0)=true:=by simpa using hwall
   have hat:=Gn.at_wall hwall
   rw [←uh hkd'] at hat
   have hA3:Hid (Arr (wn.setCell ⟨G,c,none⟩ (.int .u8 kd)) G 5 384 (Byts (Gn.digAt st c).1)):=by rw [hat];exact (uh hA2).byte c _
   have hk3:Hid ((1:Int)=if (Gn.digAt st c).2 then 1 else 2):=by rw [hat];rfl
   have hH3:=hide ((uh hH2).put hG c (.int .u8 kd))
   obtain ⟨wm,hwm⟩:∃wm,wm=wn.setCell ⟨G,c,none⟩ (.int .u8 kd):=⟨_,rfl⟩
   rw [←hwm] at hA3 hH3
   have p1:=(uh hH3).here.cell (i:=0) (by omega)
   have p2:=(uh hH3).here.cell (i:=1) (by omega)
   have p3:=(uh hH3).goal.cell (i:=0) (by omega)
   have p4:=(uh hH3).goal.cell (i:=1) (by omega)
   simp only [ite_true,Nat.one_ne_zero,ite_false] at p1 p2 p3 p4
   clear hwall hat hA2 hH2
   have hww:=hwm.symm
   clear hwm
   by_cases hend:x=tx∧y=ty
   ·obtain ⟨hex,hey⟩:=hend
    have q1:(x == tx)=true:=by simpa using hex
    have q2:(y == ty)=true:=by simpa using hey
    have hf:Hid (Arr wm G 5 384 (Byts fin)):=by
     have h:=uh hA3
     rw [←Gn.run_end (first:=first) hex hey (uh hc'),uh hrun'] at h
     exact h
    clear hex hey
    go_wp2
    simp only [Exit.jump]
    refine bodyPost_ret (results_none rfl _ _ _) rfl ?_
    exact ⟨rfl,uh hf,(uh hH3).grown⟩
   ·have hon:=Gn.run_on (first:=first) (st:=st) hend (uh hc')
    rw [←Gn.step_less x y tx ty first hend] at hrun'
    have hrun2:=uh hrun'
    rw [Gn.step_less x y tx ty first hend,hon] at hrun2
    have hrun3:=hide hrun2
    have hles:=hide (Gn.step_less x y tx ty first hend)
    have hbd:=Gn.step_bd x y tx ty first ⟨⟨b1,b2⟩,b3,b4⟩ (uh ht')
    have hbd':=hide hbd
    obtain ⟨nx,hnx⟩:∃nx,nx=Gn.stepX x y tx ty first:=⟨_,rfl⟩
    obtain ⟨ny,hny⟩:∃ny,ny=Gn.stepY x y tx ty first:=⟨_,rfl⟩
    rw [←hnx,←hny] at hrun3 hles hbd'
    have hcall:=fun w'=>nearer_any x y tx ty first w' (by omega) (by omega) (by omega) (by omega)
    rw [←hnx,←hny] at hcall
    have hcall':=hide hcall
    clear hon hrun2 hbd hnx hny hcall
    have hq:(x == tx)=false∨((x == tx)=true∧(y == ty)=false):=by
     by_cases hx:x=tx
     ·right
      exact ⟨by simpa using hx,by simpa using fun h=>hend ⟨hx,h⟩⟩
     ·left
      simpa using hx
    clear hend
    rcases hq with q1 | ⟨q1,q2⟩
    all_goals
     go_wp2_with fail
     refine (uh hcall' _).mono ?_
     rintro e wv ⟨rfl,hgv⟩
     have hA4:=hide ((uh hA3).grown hgv (by simp))
     have hH4:=hide ((uh hH3).on hgv)
     have z1:=(uh hH4).here.cell (i:=0) (by omega)
     have z2:=(uh hH4).here.cell (i:=1) (by omega)
     have z3:=(uh hH4).here.free 0
     have z4:=(uh hH4).here.free 1
     clear hgv
     go_wp2_with fail
     go_step3
     exact ⟨rfl,Gn.steps nx ny tx ty,by have:=uh hles;omega,nx,ny,_,Gn.digAt st c,_,_,_,_,_,_,_,_,_,_,_,_,_,_,_,_,_,_,_,_,_,rfl,uh hbd',uh hst5,(uh hA4).grown (gst (gpt _ _ _ _) _ _) (by simp;omega),(uh hH4).move nx ny,rfl,uh hrun3,uh hk3⟩
  ·have hw0:(st.1 c == 0)=false:=by simpa using hwall
   have hat:=Gn.at_free hwall
   have hA3:Hid (Arr wn G 5 384 (Byts (Gn.digAt st c).1)):=by rw [hat];exact uh hA2
   have hk3:Hid ((kd:Int)=if (Gn.digAt st c).2 then 1 else 2):=by rw [hat];exact uh hkd'
   have hH3:=hH2
   have p1:=(uh hH3).here.cell (i:=0) (by omega)
   have p2:=(uh hH3).here.cell (i:=1) (by omega)
   have p3:=(uh hH3).goal.cell (i:=0) (by omega)
   have p4:=(uh hH3).goal.cell (i:=1) (by omega)
   simp only [ite_true,Nat.one_ne_zero,ite_false] at p1 p2 p3 p4
   clear hwall hat hA2 hH2
   by_cases hend:x=tx∧y=ty
   ·obtain ⟨hex,hey⟩:=hend
    have q1:(x == tx)=true:=by simpa using hex
    have q2:(y == ty)=true:=by simpa using hey
    have hf:Hid (Arr wn G 5 384 (Byts fin)):=by
     have h:=uh hA3
     rw [←Gn.run_end (first:=first) hex hey (uh hc'),uh hrun'] at h
     exact h
    clear hex hey
    go_wp2
    simp only [Exit.jump]
    refine bodyPost_ret (results_none rfl _ _ _) rfl ?_
    exact ⟨rfl,uh hf,(uh hH3).grown⟩
   ·have hon:=Gn.run_on (first:=first) (st:=st) hend (uh hc')
    rw [←Gn.step_less x y tx ty first hend] at hrun'
    have hrun2:=uh hrun'
    rw [Gn.step_less x y tx ty first hend,hon] at hrun2
    have hrun3:=hide hrun2
    have hles:=hide (Gn.step_less x y tx ty first hend)
    have hbd:=Gn.step_bd x y tx ty first ⟨⟨b1,b2⟩,b3,b4⟩ (uh ht')
    have hbd':=hide hbd
    obtain ⟨nx,hnx⟩:∃nx,nx=Gn.stepX x y tx ty first:=⟨_,rfl⟩
    obtain ⟨ny,hny⟩:∃ny,ny=Gn.stepY x y tx ty first:=⟨_,rfl⟩
    rw [←hnx,←hny] at hrun3 hles hbd'
    have hcall:=fun w'=>nearer_any x y tx ty first w' (by omega) (by omega) (by omega) (by omega)
    rw [←hnx,←hny] at hcall
    have hcall':=hide hcall
    clear hon hrun2 hbd hnx hny hcall
    have hq:(x == tx)=false∨((x == tx)=true∧(y == ty)=false):=by
     by_cases hx:x=tx
     ·right
      exact ⟨by simpa using hx,by simpa using fun h=>hend ⟨hx,h⟩⟩
     ·left
      simpa using hx
    clear hend
    rcases hq with q1 | ⟨q1,q2⟩
    all_goals
     go_wp2_with fail
     refine (uh hcall' _).mono ?_
     rintro e wv ⟨rfl,hgv⟩
     have hA4:=hide ((uh hA3).grown hgv (by simp))
     have hH4:=hide ((uh hH3).on hgv)
     have z1:=(uh hH4).here.cell (i:=0) (by omega)
     have z2:=(uh hH4).here.cell (i:=1) (by omega)
     have z3:=(uh hH4).here.free 0
     have z4:=(uh hH4).here.free 1
     clear hgv
     go_wp2_with fail
     go_step3
     exact ⟨rfl,Gn.steps nx ny tx ty,by have:=uh hles;omega,nx,ny,_,Gn.digAt st c,_,_,_,_,_,_,_,_,_,_,_,_,_,_,_,_,_,_,_,_,_,rfl,uh hbd',uh hst5,(uh hA4).grown (gst (gpt _ _ _ _) _ _) (by simp;omega),(uh hH4).move nx ny,rfl,uh hrun3,uh hk3⟩


open Go.RowKit

theorem fieldHigh {op tg:Nat→Prop} {F:Nat→Int} (h:Gr.IsField op tg F):∀(n:Nat) i,i<384→F i=n→n≤400:=by
 intro n i hi hn
 have key:∀m:Nat,m≤n→∃j,j<384∧F j=m:=by
  intro m hm
  induction hnm:n - m generalizing m with
  | zero=>exact ⟨i,hi,by omega⟩
  | succ q ih =>
   obtain ⟨j,hj,he⟩:=ih (m+1) (by omega) (by omega)
   obtain ⟨_,j',_,hj',_,_,_,he'⟩:=h.back j hj (by omega)
   exact ⟨j',hj',by omega⟩
 by_cases hc:n≤400
 ·exact hc
 ·exfalso
  have inj:∀m:Nat,m≤n+1→m≤(List.range 384).countP (fun i=>decide (0≤F i∧F i<m)):=by
   intro m
   induction m with
   | zero=>intro _;exact Nat.zero_le _
   | succ m ih =>
    intro hm
    have h1:=ih (by omega)
    obtain ⟨j,hj,he⟩:=key m (by omega)
    have h2:(List.range 384).countP (fun i=>decide (0≤F i∧F i<m))<(List.range 384).countP (fun i=>decide (0≤F i∧F i<((m+1:Nat):Int))):=by
     have hs:∀(l:List Nat),j∈l→l.countP (fun i=>decide (0≤F i∧F i<m))<l.countP (fun i=>decide (0≤F i∧F i<((m+1:Nat):Int))):=by
      intro l
      induction l with
      | nil=>intro hm;cases hm
      | cons x l ih =>
       intro hm
       have hle:l.countP (fun i=>decide (0≤F i∧F i<m))≤l.countP (fun i=>decide (0≤F i∧F i<((m+1:Nat):Int))) :=
        List.countP_mono_left fun y _ hy=>by simp only [decide_eq_true_eq] at *;omega
       rw [List.countP_cons,List.countP_cons]
       rcases List.mem_cons.1 hm with rfl | hm
       ·rw [if_neg (by simp;omega),if_pos (by simp;omega)]
        omega
       ·have:=ih hm
        by_cases hx:0≤F x∧F x<m
        ·rw [if_pos (by simpa using hx),if_pos (by simp;omega)]
         omega
        ·rw [if_neg (by simpa using hx)]
         omega
     exact hs _ (List.mem_range.2 hj)
    omega
  have:=inj 401 (by omega)
  have hle:(List.range 384).countP (fun i=>decide (0≤F i∧F i<((401:Nat):Int)))≤(List.range 384).length:=List.countP_le_length
  rw [List.length_range] at hle
  omega

namespace Gn

structure Fld (c:Nat→Int) (up:Nat) (F:Nat→Int):Prop where
 is:Gr.IsField (fun i=>Gr.walkB (c i)=true) (fun i=>i=up) F
 out:∀i,384≤i→F i=0

theorem isField_congr {op op' tg tg':Nat→Prop} {F H:Nat→Int} (h:Gr.IsField op tg F) (ho:∀i,i<384→(op i↔op' i)) (ht:∀i,i<384→(tg i↔tg' i)) (hF:∀i,i<384→F i=H i):Gr.IsField op' tg' H:=by
 refine ⟨fun i hi=>?_,fun i hi=>?_,fun i hi hp=>?_,fun j hj h0 d hd hn hop=>?_⟩
 ·rw [←hF i hi];exact h.lo i hi
 ·rw [←hF i hi,h.zero i hi];exact ht i hi
 ·rw [←hF i hi] at hp
  obtain ⟨o,j,d,hj,hd,hn,he,hv⟩:=h.back i hi hp
  exact ⟨(ho i hi).1 o,j,d,hj,hd,hn,he,by rw [←hF i hi,←hF j hj];exact hv⟩
 ·rw [←hF j hj] at h0
  have hb:=Gr.nb_lt hn
  have:=h.fwd j hj h0 d hd hn ((ho _ hb).2 hop)
  rw [←hF j hj,←hF _ hb]
  exact this

theorem Fld.make {op tg:Nat→Prop} {c F:Nat→Int} {up:Nat} (h:Gr.IsField op tg F) (ho:∀i,i<384→(op i↔Gr.walkB (c i)=true)) (ht:∀i,i<384→(tg i↔i=up)):Fld c up (fun i=>if i<384 then F i else 0):=by
 refine ⟨isField_congr h ho ht fun i hi=>by rw [if_pos hi],fun i hi=>by rw [if_neg (by omega)]⟩

structure IsFar (F:Nat→Int) (far:Nat):Prop where
 lt:far<384
 top:∀i,i<384→F i≤F far
 fst:∀i,i<far→F i<F far

theorem far_is (F:Nat→Int):∃far,IsFar F far∧F far=most F 383:=by
 obtain ⟨i,hi,he⟩:=most_is F 383
 obtain ⟨m,hm,hl⟩:=least (fun i=>i≤383∧F i=most F 383) i ⟨hi,he⟩
 refine ⟨m,⟨by omega,fun j hj=>by rw [hm.2];exact most_ge F 383 j (by omega),fun j hj=>?_⟩,hm.2⟩
 have h1:=most_ge F 383 j (by omega)
 rw [hm.2]
 by_cases e:F j=most F 383
 ·have:=hl j ⟨by omega,e⟩;omega
 ·omega

def shop (c F:Nat→Int) (v:Int):Option Nat:=(List.range 384).find? (fun i=>F i == v && c i == 1)

def shopped (c:Nat→Int):Option Nat→Nat→Int
 | none=>c
 | some k=>Gr.upd c k 5

def stocked (d:Dice) (c F:Nat→Int) (far:Nat):Nat→Int :=
 if d 6 0 2=0 then shopped (Gr.upd c far 4) (shop (Gr.upd c far 4) F (F far / 2)) else Gr.upd c far 4

theorem shop_some {c F:Nat→Int} {v:Int} {k:Nat} (hk:k<384) (hp:(F k == v && c k == 1)=true) (hn:∀i,i<k→(F i == v && c i == 1)=false):shop c F v=some k:=by
 unfold shop
 rw [List.find?_range_eq_some]
 exact ⟨hp,List.mem_range.2 hk,fun j hj=>by rw [hn j hj];rfl⟩

theorem shop_none {c F:Nat→Int} {v:Int} (hn:∀i,i<384→(F i == v && c i == 1)=false):shop c F v=none:=by
 unfold shop
 rw [List.find?_range_eq_none]
 exact fun j hj=>by rw [hn j hj];rfl

end Gn

theorem below_grown {w w':World} (h:Below w.heap.size w w'):w.grownBy w' none:=⟨h.os,h.tape,h.output,h.size,fun k hk _=>h.block k hk⟩

theorem Vec.none0 (B:Nat) (w:World) (a:Option Addr) (F:Nat→Value):Vec B w a 0 F:=⟨Nat.zero_le _,.inl rfl⟩

theorem Vec.one (w:World) (B:Nat) (hB:B=w.heap.size) (v:Value) (T:TypeId) (F:Nat→Value) (hv:F 0=v):Vec (w.alloc (.cells #[v] T)).heap.size (w.alloc (.cells #[v] T)) (some ⟨B,0,none⟩) 1 F:=by
 subst hB
 refine ⟨by decide,.inr ⟨_,_,rfl,by simp,fun i hi=>?_⟩⟩
 obtain rfl:i=0:=by omega
 simp [hv]

structure StairsHold (w:World) (G:Nat) (s f ux uy:Int) (wr:World):Prop where
 plan:Arr wr w.heap.size 116 2 (fun j=>.int .i64 (if j=0 then s else f))
 up:Arr wr (w.heap.size+1) 118 2 (fun j=>.int .i64 (if j=0 then ux else uy))
 grown:w.grownBy wr (some G)

theorem StairsHold.on {w:World} {G:Nat} {s f ux uy:Int} {wr wx:World} (h:StairsHold w G s f ux uy wr) (hg:wr.grownBy wx none):StairsHold w G s f ux uy wx :=
 ⟨h.plan.grown hg (by simp),h.up.grown hg (by simp),grown_none h.grown hg⟩

theorem StairsHold.put {w:World} {G:Nat} {s f ux uy:Int} {wr:World} (h:StairsHold w G s f ux uy wr) (hG:G<w.heap.size) (i:Nat) (u:Value):StairsHold w G s f ux uy (wr.setCell ⟨G,i,none⟩ u) :=
 ⟨h.plan.grown (gpt wr G i u) (by simp;omega),h.up.grown (gpt wr G i u) (by simp;omega),gst h.grown i u⟩

theorem StairsHold.start (w:World) (G:Nat) (s f ux uy:Int) :
  StairsHold w G s f ux uy ((w.alloc (.cells #[.int .i64 s,.int .i64 f] 116)).alloc (.cells #[.int .i64 ux,.int .i64 uy] 118)):=by
 refine ⟨(Arr.pair _ _ _ _).alloc _,?_,gal (World.grownBy_alloc _ _ _) _⟩
 have h:=Arr.pair (w.alloc (.cells #[.int .i64 s,.int .i64 f] 116)) ux uy 118
 simpa using h

def StairsDone (w:World) (G:Nat) (d:Gn.Dice) (c:Nat→Int) (up:Nat) (e:Ending) (w':World):Prop :=
 ∃(F:Nat→Int) (far g:Nat),Gn.Fld c up F∧Gn.IsFar F far∧e=.returned (.slice (some ⟨g,0,none⟩) 384 384)∧w.heap.size≤g∧Arr w' g 3 384 (Ints F)∧Arr w' G 5 384 (Byts (Gn.stocked d c F far))∧w.grownBy w' (some G)

set_option maxRecDepth 8000 in
set_option maxHeartbeats 4000000 in
theorem stairs_any (s f:Int) (d:Gn.Dice) (hd:∀a b n,Gn.D s f a b n=d a b n) (G:Nat) (c:Nat→Int) (ux uy:Int) (up:Nat) (w:World) (hA:Arr w G 5 384 (Byts c)) (h5:∀i,0≤c i∧c i≤5) (hx:(1≤ux∧ux≤22)∧1≤uy∧uy≤14) (hu:uy*24+ux=(up:Int)) :
  Calls Tryz.prog 99 #[.agg #[.int .i64 s,.int .i64 f],.slice (some ⟨G,0,none⟩) 384 384,.agg #[.int .i64 ux,.int .i64 uy]] w (StairsDone w G d (Gr.upd c up 3) up):=by
 have hG:=hA.lt
 obtain ⟨⟨x1,x2⟩,x3,x4⟩:=hx
 have hul:up<384:=by omega
 have hul':(up:Int)<384:=by omega
 have hc5:∀i,0≤Gr.upd c up 3 i∧Gr.upd c up 3 i≤5:=Gn.upd_5 h5 (by omega)
 have hcu:Gr.upd c up 3 up=3:=Gr.upd_at _ _ _
 obtain ⟨c1,hc1⟩:∃c1,c1=Gr.upd c up 3:=⟨_,rfl⟩
 rw [←hc1] at hc5 hcu ⊢
 have hc1':=hide hc1
 have hA':=hide hA
 have hd':=hide hd
 have hc5':=hide hc5
 have hcu':=hide hcu
 have hu':=hide hu
 have hH0:=hide (StairsHold.start w G s f ux uy)
 have p1:=(uh hH0).up.cell (i:=0) (by omega)
 have p2:=(uh hH0).up.cell (i:=1) (by omega)
 simp only [ite_true,Nat.one_ne_zero,ite_false] at p1 p2
 clear hA hd h5 hc1 hc5 hcu
 go_enter Tryz.func99,Tryz.ntmps99
 go_wp2_with fail
 clear p1 p2
 refine (num_any ux uy _ (by omega) (by omega) (by omega) (by omega)).mono ?_
 rintro e wn ⟨rfl,hgn⟩
 have hA1:=hide ((((uh hA').alloc _).alloc _).grown hgn (by simp))
 have hH1:=hide ((uh hH0).on hgn)
 rw [hu]
 have q1:=(uh hA1).cell hul
 have q2:=(uh hA1).free up
 have hA2:Hid (Arr (wn.setCell ⟨G,up,none⟩ (.int .u8 3)) G 5 384 (Byts c1)):=by rw [uh hc1'];exact (uh hA1).byte up 3
 have hH2:=hide ((uh hH1).put hG up (.int .u8 3))
 obtain ⟨wm,hwm⟩:∃wm,wn.setCell ⟨G,up,none⟩ (.int .u8 3)=wm:=⟨_,rfl⟩
 rw [hwm] at hA2 hH2
 have p1:=(uh hH2).up.cell (i:=0) (by omega)
 have p2:=(uh hH2).up.cell (i:=1) (by omega)
 simp only [ite_true,Nat.one_ne_zero,ite_false] at p1 p2
 clear hgn hA1 hH1 hA' hH0 hu
 go_wp2_with fail
 clear q1 q2 p1 p2 hwm
 clear wn
 refine (num_any ux uy _ (by omega) (by omega) (by omega) (by omega)).mono ?_
 rintro e wv ⟨rfl,hgv⟩
 have hA3:=hide ((uh hA2).grown hgv (by simp))
 have hH3:=hide ((uh hH2).on hgv)
 rw [uh hu']
 clear hgv hA2 hH2
 clear wm
 go_wp2_with fail
 have hA4:=hide ((uh hA3).alloc (.cells #[.int .i64 (up:Int)] 3))
 have hH4:=hide ((uh hH3).on (World.grownBy_alloc wv (.cells #[.int .i64 (up:Int)] 3) none))
 have hV:=Vec.one wv wv.heap.size rfl (.int .i64 (up:Int)) 3 (Ints fun _=>(up:Int)) rfl
 refine (field_any _ _ _ 0 1 _ _ _ c1 (fun _=>(up:Int)) (fun _=>false) _ ((uh hA4).vec _ (uh hA4).lt (by decide)) (fun i=>by have:=uh hc5' i;omega) (Vec.none0 _ _ _ _) hV (fun _=>by constructor <;> omega)).mono ?_
 rintro e w5 ⟨F0,⟨g,rfl,hg,hAF,hbel⟩,hfld⟩
 have hF:Gn.Fld c1 up (fun i=>if i<384 then F0 i else 0):=Gn.Fld.make hfld
  (fun i hi=>by simp [Gr.openB])
  (fun i hi=>by
   constructor
   ·rintro ⟨_,j,_,he⟩
    have he':(up:Int)=(i:Int):=he
    omega
   ·rintro rfl
    exact ⟨by rw [uh hcu'];rfl,0,by omega,rfl⟩)
 have hAF2:Arr w5 g 3 384 (Ints fun i=>if i<384 then F0 i else 0):=hAF.congr fun j hj=>by
  show Value.int .i64 (F0 j)=.int .i64 (if j<384 then F0 j else 0)
  rw [if_pos hj]
 obtain ⟨F,hFF⟩:∃F:Nat→Int,F=fun i=>if i<384 then F0 i else 0:=⟨_,rfl⟩
 rw [←hFF] at hF hAF2
 have hgr:=below_grown hbel
 have hA5:=hide ((uh hA4).grown hgr (by simp))
 have hH5:=hide ((uh hH4).on hgr)
 have hF':=hide hF
 have hAF':=hide hAF2
 have hgw:w.heap.size+1+1≤g:=by have:=(uh hH3).up.lt;simp at hg;omega
 clear hfld hAF hbel hgr hA4 hH4 hV hFF hF hAF2 hA3 hH3 hg
 clear F0
 go_wp2_with fail
 refine (max_any w5.heap.size _ _ F _ ((uh hAF').vec _ (uh hAF').lt (by decide))).mono ?_
 rintro e w' ⟨rfl,hw⟩
 subst w'
 obtain ⟨far,hfar,hmost⟩:=Gn.far_is F
 rw [←hmost]
 clear hmost
 go_wp2_with fail
 refine (index_any w5.heap.size _ _ F _ far _ ((uh hAF').vec _ (uh hAF').lt (by decide)) hfar.lt rfl (fun i hi=>by have:=hfar.fst i hi;omega)).mono ?_
 rintro e w' ⟨rfl,hw⟩
 subst w'
 have hfar':=hide hfar
 have hfl:far<384:=hfar.lt
 have hfl':(far:Int)<384:=by omega
 have hnn:0≤F far:=by
  have h0:=(uh hF').is.zero up hul
  have:=hfar.top up hul
  have:=h0.2 rfl
  omega
 have hnx:F far≤400:=by
  have:=fieldHigh (uh hF').is (F far).toNat far hfl (by omega)
  omega
 have q1:=(uh hA5).cell hfl
 have q2:=(uh hA5).free far
 have hA6:=hide ((uh hA5).byte far 4)
 have hH6:=hide ((uh hH5).put hG far (.int .u8 4))
 have hAF6:=hide ((uh hAF').grown (gpt w5 G far (.int .u8 4)) (by simp;omega))
 obtain ⟨c2,hc2⟩:∃c2,c2=Gr.upd c1 far 4:=⟨_,rfl⟩
 rw [←hc2] at hA6
 have hc2':=hide hc2
 have h25:Hid (∀i,0≤c2 i∧c2 i≤5):=by rw [hc2];exact Gn.upd_5 (uh hc5') (by omega)
 obtain ⟨w6,hw6⟩:∃wm,w5.setCell ⟨G,far,none⟩ (.int .u8 4)=wm:=⟨_,rfl⟩
 rw [hw6] at hA6 hH6 hAF6
 have p1:=(uh hH6).plan.cell (i:=0) (by omega)
 have p2:=(uh hH6).plan.cell (i:=1) (by omega)
 simp only [ite_true,Nat.one_ne_zero,ite_false] at p1 p2
 clear hfar hc2 hA5 hH5 hAF'
 go_wp2_with fail
 clear q1 q2 p1 p2 hw6
 have hdie:=die3_any s f 6 0 2 w6 (by omega)
 rw [uh hd'] at hdie
 obtain ⟨D0,hD0⟩:∃x,x=d 6 0 2:=⟨_,rfl⟩
 rw [←hD0] at hdie
 have hD0':=hide hD0
 clear hD0
 refine hdie.mono ?_
 rintro e w7 ⟨rfl,hg7⟩
 have hA7:=hide ((uh hA6).grown hg7 (by simp))
 have hH7:=hide ((uh hH6).on hg7)
 have hAF7:=hide ((uh hAF6).grown hg7 (by simp))
 clear hdie hg7 hA6 hH6 hAF6
 clear w6
 by_cases hz:D0=0
 ·have hz':(D0 != 0)=false:=by simpa using hz
  have hzz:=hide (show d 6 0 2=0 by rw [←uh hD0'];exact hz)
  clear hz
  go_wp2_with fail
  go_loop [33] (fun i=>∃k:Nat,k≤384∧i=.int .i64 (k:Int)∧∀j,j<k→(F j == F far / 2 && c2 j == 1)=false) (fun i=>400 - (intOf i).toNat)
  case atStart=>exact ⟨0,by omega,rfl,fun j hj=>by omega⟩
  case round =>
   obtain ⟨k,hk,rfl,hno⟩:=hrel
   have hno':=hide hno
   clear hno
   by_cases hlt:k<384
   ·have q1:w7.cell? ⟨g,k,none⟩=some (.int .i64 (F k)):=(uh hAF7).cell hlt
    have q2:w7.cell? ⟨G,k,none⟩=some (.int .u8 (c2 k)):=(uh hA7).cell hlt
    have q3:=(uh hA7).free k
    have hlt':(k:Int)<384:=by omega
    have HL:=hide hlt
    clear hlt hk
    by_cases e1:(F k == F far / 2)=true
    ·by_cases e2:(c2 k == 1)=true
     ·have hsh:=Gn.shop_some (c:=c2) (F:=F) (v:=F far / 2) (uh HL) (by rw [e1,e2];rfl) (uh hno')
      have hst:Hid (Gn.stocked d c1 F far=Gr.upd c2 k 5):=by
       show Gn.stocked d c1 F far=Gr.upd c2 k 5
       unfold Gn.stocked
       rw [if_pos (uh hzz),←uh hc2',hsh]
       rfl
      clear hsh
      go_wp2
      go_ret
      exact ⟨F,far,g,uh hF',uh hfar',rfl,by omega,(uh hAF7).grown (gpt _ _ _ _) (by simp;omega),by rw [uh hst];exact (uh hA7).byte k 5,gst (uh hH7).grown _ _⟩
     ·have e2':(c2 k == 1)=false:=by simpa using e2
      clear e2
      go_wp2
      go_round
      case rel =>
       refine ⟨k+1,by have:=uh HL;omega,by go_num,fun j hj=>?_⟩
       by_cases hjk:j=k
       ·subst hjk;rw [e1,e2'];rfl
       ·exact uh hno' j (by omega)
      case measure=>simp [intOf];omega
    ·have e1':(F k == F far / 2)=false:=by simpa using e1
     clear e1
     go_wp2
     go_round
     case rel =>
      refine ⟨k+1,by have:=uh HL;omega,by go_num,fun j hj=>?_⟩
      by_cases hjk:j=k
      ·subst hjk;rw [e1'];rfl
      ·exact uh hno' j (by omega)
     case measure=>simp [intOf];omega
   ·have hge:¬(k:Int)<384:=by omega
    obtain rfl:k=384:=by omega
    have hsh:=Gn.shop_none (c:=c2) (F:=F) (v:=F far / 2) (uh hno')
    have hst:Hid (Gn.stocked d c1 F far=c2):=by
     show Gn.stocked d c1 F far=c2
     unfold Gn.stocked
     rw [if_pos (uh hzz),←uh hc2',hsh]
     rfl
    clear hsh hk hlt
    go_wp2
    go_ret
    exact ⟨F,far,g,uh hF',uh hfar',rfl,by omega,uh hAF7,by rw [uh hst];exact uh hA7,(uh hH7).grown⟩
 ·have hz':(D0 != 0)=true:=by simpa using hz
  have hst:Hid (Gn.stocked d c1 F far=c2):=by
   show Gn.stocked d c1 F far=c2
   unfold Gn.stocked
   rw [if_neg (by rw [←uh hD0'];exact hz)]
   exact (uh hc2').symm
  clear hz
  go_wp2
  go_ret
  exact ⟨F,far,g,uh hF',uh hfar',rfl,by omega,uh hAF7,by rw [uh hst];exact uh hA7,(uh hH7).grown⟩

end Go.Proofs.YtbanjoflgoiegaaGreat
