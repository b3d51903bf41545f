import Derived.Test.YtbanjoflgoiegaaGreatPs23
import Derived.Test.YtbanjoflgoiegaaGreatPs21
import Derived.Deep.CutBlock
import Derived.Test.YtbanjoflgoiegaaGreatPs17
namespace Go.Proofs.YtbanjoflgoiegaaGreat
open Go.RowKit

theorem Gd.ent_box (w:World) (e:Nat→Int):(w.alloc (.cells (En.cells e) 54)).cell? ⟨w.heap.size,3,none⟩=some (.int .i64 (e 3))∧(w.alloc (.cells (En.cells e) 54)).cell? ⟨w.heap.size,4,none⟩=some (.int .i64 (e 4))∧(w.alloc (.cells (En.cells e) 54)).cell? ⟨w.heap.size,5,none⟩=some (.int .i64 (e 5))∧(w.alloc (.cells (En.cells e) 54)).cell? ⟨w.heap.size,6,none⟩=some (.int .i64 (e 6)):=by
 have h:=Arr.lit (heap_alloc_new w (.cells (En.cells e) 54))
 exact ⟨h.cell (i:=3) (by show 3<11;omega),h.cell (i:=4) (by show 4<11;omega),h.cell (i:=5) (by show 5<11;omega),h.cell (i:=6) (by show 6<11;omega)⟩

theorem Gd.ent_far {w x:World} {B gC gE gI cC cE cI:Nat} {s g c:Nat→Int} {E I:Nat→Nat→Int} (h:Gd.Boxed w x B gC gE gI cC cE cI s g c E I):x.heap.size≠gE∧x.heap.size≠gI∧x.heap.size≠B:=by
 have h1:=h.hold.lists.ents.lt
 have h2:=h.hold.lists.items.lt
 have h3:=h.hold.box.lt
 exact ⟨by omega,by omega,by omega⟩

theorem Gd.BoxW.ents {w x y:World} {B gC gE gI cC cE cI:Nat} {s g c:Nat→Int} {E I F:Nat→Nat→Int} (h:Gd.BoxW w x B gC gE gI cC cE cI s g c E I) (hg:x.grownBy y (some gE)) (hE:Lie y gE 54 352 (En.flat F)):Gd.BoxW w y B gC gE gI cC cE cI s g c F I:=by
 have h1:=h.at_
 have h2:=h.lE
 exact { h with hold:=h.hold.ents hg hE,res:=h.res.grown hg (by simp;omega),grown:=gow h.grown hg (fun n e=>by cases e;omega) }

theorem Gd.BoxW.stat {w x:World} {B gC gE gI cC cE cI:Nat} {s g c:Nat→Int} {E I:Nat→Nat→Int} (h:Gd.BoxW w x B gC gE gI cC cE cI s g c E I) (k j:Nat) (hj:j<11) (v:Int):Gd.BoxW w (x.setCell ⟨gE,k*11+j,none⟩ (.int .i64 v)) B gC gE gI cC cE cI s g c (Gd.set E k j v) I :=
 h.ents (gs0 x gE (k*11+j) (.int .i64 v)) (h.hold.lists.ents.stat k j hj v)


open Go.RowKit

theorem mPlace_at (x0 x1 x2 x3 x4 x5 x6 x7 x8 x9 x10:Int) (w:World):Calls Tryz.prog 219 #[.agg #[.int .i64 x0,.int .i64 x1,.int .i64 x2,.int .i64 x3,.int .i64 x4,.int .i64 x5,.int .i64 x6,.int .i64 x7,.int .i64 x8,.int .i64 x9,.int .i64 x10]] w fun x w'=>x=.returned (.complex .f64 (floatOfInt .f64 x3) (floatOfInt .f64 x4))∧w.grownBy w' none:=by
 go_enter Tryz.func219,Tryz.ntmps219
 go_wp2
 go_ret
 exact ⟨rfl,World.grownBy_alloc _ _ _⟩

theorem mPlace_any (e:Nat→Int) (w:World):Calls Tryz.prog 219 #[.agg (En.cells e)] w fun x w'=>x=.returned (.complex .f64 (floatOfInt .f64 (e 3)) (floatOfInt .f64 (e 4)))∧w.grownBy w' none:=mPlace_at _ _ _ _ _ _ _ _ _ _ _ w

theorem mParts_any (a b:Nat) (x y:Int) (w:World) (ha:Fl.Rep a x) (hb:Fl.Rep b y) (x1:-9007199254740992<x) (x2:x<9007199254740992) (y1:-9007199254740992<y) (y2:y<9007199254740992) :
  Calls Tryz.prog 218 #[.complex .f64 a b] w fun e w'=>e=.returned (.tuple #[.int .i64 x,.int .i64 y])∧w'=w:=by
 have t1:=Fl.rep_toInt ha x1 x2
 have t2:=Fl.rep_toInt hb y1 y2
 have hr1:=fun w:World=>run_convert_float_int (P:=Tryz.prog) w 176 3 .f64 .i64 a _ (by kernel_rfl) (by kernel_rfl) t1
 have hr2:=fun w:World=>run_convert_float_int (P:=Tryz.prog) w 176 3 .f64 .i64 b _ (by kernel_rfl) (by kernel_rfl) t2
 clear t1 t2 ha hb
 go_enter Tryz.func218,Tryz.ntmps218
 go_wp2
 go_ret2
 exact ⟨rfl,rfl⟩

theorem mAhead_any (e:Nat→Int) (d:Int) (w:World) (x0:0≤e 3) (x9:e 3<24) (y0:0≤e 4) (y9:e 4<16) :
  Calls Tryz.prog 220 #[.agg (En.cells e),.int .i64 d] w fun x w'=>(∃a b,x=.returned (.complex .f64 a b)∧Fl.Rep a (e 3+(Fx.way d).1)∧Fl.Rep b (e 4+(Fx.way d).2))∧w.grownBy w' none:=by
 have wb:=Fx.way_bd d
 obtain ⟨d1,d2,d3,d4⟩:=wb
 obtain ⟨r1,e1,R1⟩:=Fl.rep_add (Fl.rep_int (e 3) (by omega) (by omega)) (Fl.rep_int (Fx.way d).1 (by omega) (by omega)) (by omega) (by omega)
 obtain ⟨r2,e2,R2⟩:=Fl.rep_add (Fl.rep_int (e 4) (by omega) (by omega)) (Fl.rep_int (Fx.way d).2 (by omega) (by omega)) (by omega) (by omega)
 have hsum:=fun wq:World=>run_complex_sum (P:=Tryz.prog) wq .add (.inl rfl) 173 .f64 (floatOfInt .f64 (e 3)) (floatOfInt .f64 (e 4)) (floatOfInt .f64 (Fx.way d).1) (floatOfInt .f64 (Fx.way d).2) r1 r2 (by unfold cSumBits;rw [e1,e2];rfl)
 have hR:=hide (And.intro R1 R2)
 have cp:=hide (fun wq=>mPlace_any e wq)
 have hu:Hid (En.cells e=#[.int .i64 (e 0),.int .i64 (e 1),.int .i64 (e 2),.int .i64 (e 3),.int .i64 (e 4),.int .i64 (e 5),.int .i64 (e 6),.int .i64 (e 7),.int .i64 (e 8),.int .i64 (e 9),.int .i64 (e 10)]):=rfl
 rw [uh hu] at cp ⊢
 have hgw:Hid (w.grownBy (w.alloc (.cells #[.int .i64 (e 0),.int .i64 (e 1),.int .i64 (e 2),.int .i64 (e 3),.int .i64 (e 4),.int .i64 (e 5),.int .i64 (e 6),.int .i64 (e 7),.int .i64 (e 8),.int .i64 (e 9),.int .i64 (e 10)] 54)) none):=World.grownBy_alloc _ _ _
 clear R1 R2 e1 e2 x0 x9 y0 y9 d1 d2 d3 d4
 go_enter Tryz.func220,Tryz.ntmps220
 go_wp2_with fail
 refine (way_any _ _).mono ?_
 rintro x w1 ⟨rfl,hw⟩
 subst w1
 go_wp2_with fail
 refine (uh cp _).mono ?_
 rintro x w1 ⟨rfl,hg⟩
 have hg1:=hide (gtr (uh hgw) hg)
 clear hg hgw
 go_wp2
 go_ret
 exact ⟨⟨_,_,rfl,(uh hR).1,(uh hR).2⟩,uh hg1⟩

theorem mLess (e f:Nat→Int) (x0:0≤e 3) (x9:e 3<24) (y0:0≤e 4) (y9:e 4<16) (u0:0≤f 3) (u9:f 3<24) (v0:0≤f 4) (v9:f 4<16) :
  ∃r1 r2,(∀wq:World,(binOp .sub 173 (.complex .f64 (floatOfInt .f64 (f 3)) (floatOfInt .f64 (f 4))) (.complex .f64 (floatOfInt .f64 (e 3)) (floatOfInt .f64 (e 4)))).run Tryz.prog wq=.ok (.complex .f64 r1 r2) wq)∧Fl.Rep r1 (f 3 - e 3)∧Fl.Rep r2 (f 4 - e 4):=by
 obtain ⟨r1,e1,R1⟩:=Fl.rep_sub (Fl.rep_int (f 3) (by omega) (by omega)) (Fl.rep_int (e 3) (by omega) (by omega)) (by omega) (by omega)
 obtain ⟨r2,e2,R2⟩:=Fl.rep_sub (Fl.rep_int (f 4) (by omega) (by omega)) (Fl.rep_int (e 4) (by omega) (by omega)) (by omega) (by omega)
 exact ⟨r1,r2,fun wq=>run_complex_sum (P:=Tryz.prog) wq .sub (.inr rfl) 173 .f64 _ _ _ _ r1 r2 (by unfold cSumBits;rw [e1,e2];rfl),R1,R2⟩


open Go.RowKit

theorem slice_items (a:Option Addr) (len cap k:Nat) (w:World) (hk:k≤cap) :
  (Instr.slice 27 (.slice a len cap) none (some (.int .i64 (k:Int))) none).run Tryz.prog w=.ok (.slice a k cap) w:=by
 have hs:(sizeOf (Tryz.prog.elem 27)).run Tryz.prog w=.ok 4 w:=by kernel_rfl
 rw [run_slice_h w 27 a len cap (by kernel_rfl) .i64 (k:Int) (by omega) (by omega),hs]
 have e:a.map (fun x=>x.add (0*4))=a:=by
  cases a with
  | none=>rfl
  | some x=>simp [Addr.add]
 simp only [Result.andThen,sliced,e,Int.toNat_natCast,Nat.sub_zero,ite_self]

set_option maxHeartbeats 6400000 in
theorem lay_any (b cp n cm:Nat) (a:Option Addr) (I M:Nat→Nat→Int) (w:World) (hL:Lie w b 62 160 (Gd.flat I)) (hM:Gd.Some w a n M) :
  Calls Tryz.prog 57 #[.slice (some ⟨b,0,none⟩) 40 cp,.slice a n cm] w (Gd.Gives40 w (Gd.lay I M n)):=by
 have hn:=hM.1
 have hM':=hide hM
 have ct:=hide (twinItems_any b 40 160 cp (Gd.flat I) w (by omega) (by omega) (fun _=>rfl) (fun q hq=>hL.cell hq) hL.lt)
 clear hL hM
 go_enter Tryz.func57,Tryz.ntmps57
 go_wp2_with fail
 refine (uh ct).mono ?_
 rintro e w1 ⟨g,rfl,hlo,hA,hg⟩
 have hl1:=hide hA.lie
 have hg1:=hide hg
 have hlo':=hide hlo
 have hs:=fun wx=>slice_items (some ⟨g,0,none⟩) 40 40 40 wx (by omega)
 clear ct hlo hA hg
 go_wp2_with fail
 clear hs
 go_loopw [7,19] (fun q i wr=>∃r m:Nat,m≤n∧r≤40∧q=.int .i64 (r:Int)∧i=.int .i64 (m:Int)∧(∀j,j<r→Gd.goneQ (Gd.lay I M m) j=false)∧Lie wr g 62 160 (Gd.flat (Gd.lay I M m))∧w.grownBy wr none) (fun _ i _=>200 - (intOf i).toNat)
 case atStart=>exact ⟨0,0,by omega,by omega,rfl,rfl,fun j hj=>by omega,uh hl1,uh hg1⟩
 case round =>
  obtain ⟨r0,m,hm,hr0,rfl,rfl,hno0,hJ,hgr⟩:=hrel
  have hno0':=hide hno0
  have hJ':=hide hJ
  have hgr':=hide hgr
  clear hno0 hJ hgr
  by_cases hlt:m<n
  ·have hlt':(m:Int)<(n:Int):=by omega
   have HL:=hide hlt
   obtain ⟨bm,om,rfl,lbm,v0,v1,v2,v3⟩:=((uh hM').on (uh hgr')).row hlt
   clear hlt
   have hnew0:=(Arr.lit (heap_alloc_new wr (.cells #[.int .i64 (M m 0),.int .i64 (M m 1),.int .i64 (M m 2),.int .i64 (M m 3)] 62))).lie
   have hga:=hide (World.grownBy_alloc wr (.cells #[.int .i64 (M m 0),.int .i64 (M m 1),.int .i64 (M m 2),.int .i64 (M m 3)] 62) none)
   go_wp2_with fail
   obtain ⟨wb,hwb⟩:∃wb,wr.alloc (.cells #[.int .i64 (M m 0),.int .i64 (M m 1),.int .i64 (M m 2),.int .i64 (M m 3)] 62)=wb:=⟨_,rfl⟩
   obtain ⟨P,hP⟩:∃P,wr.heap.size=P:=⟨_,rfl⟩
   have hPg:g<P:=by rw [←hP];exact (uh hJ').lt
   rw [hwb] at hnew0 hga ⊢
   rw [hP] at hnew0 ⊢
   have hnew:=hide hnew0
   have hJb:=hide ((uh hJ').on (uh hga))
   have hgb:=hide (gtr (uh hgr') (uh hga))
   clear hwb hP hnew0 hga v0 v1 v2 v3 lbm hJ' hgr'
   go_loopw [7] (fun q wz=>∃r:Nat,r≤40∧q=.int .i64 (r:Int)∧(∀j,j<r→Gd.goneQ (Gd.lay I M m) j=false)∧wb.grownBy wz none) (fun q _=>200 - (intOf q).toNat)
   case atStart=>exact ⟨r0,hr0,rfl,uh hno0',World.grownBy.refl _ _⟩
   case round =>
    obtain ⟨r,hr,rfl,hno,hgz⟩:=hrel
    have hno':=hide hno
    have hgz':=hide hgz
    clear hno hgz
    by_cases hr40:r<40
    ·have hr':(r:Int)<40:=by omega
     have HR:=hide hr40
     obtain ⟨u0,u1,u2,u3⟩:=(((uh hJb).on (uh hgz')).its (n:=40) (by omega) (by omega)).row hr40
     have hgq:=hide (show Gd.goneQ (Gd.lay I M m) r=Gd.zeroB (Gd.lay I M m r 0) (Gd.lay I M m r 1) (Gd.lay I M m r 2) (Gd.lay I M m r 3) from rfl)
     have cg0:=isGone_any (Gd.lay I M m r 0) (Gd.lay I M m r 1) (Gd.lay I M m r 2) (Gd.lay I M m r 3) wr
     obtain ⟨z,hz⟩:∃z,Gd.zeroB (Gd.lay I M m r 0) (Gd.lay I M m r 1) (Gd.lay I M m r 2) (Gd.lay I M m r 3)=z:=⟨_,rfl⟩
     rw [hz] at cg0 hgq
     have cg:=hide cg0
     clear cg0 hz hr40
     go_wp2_with fail
     refine (uh cg).mono ?_
     rintro e w3 ⟨rfl,hg3⟩
     have hgz3:=hide (gtr (uh hgz') hg3)
     clear cg hg3 u0 u1 u2 u3
     cases z with
     | false =>
      go_wp2
      go_roundw
      case rel=>exact ⟨r+1,by have:=uh HR;omega,by go_num,fun j hj=>by
       by_cases e:j=r
       ·rw [e];exact uh hgq
       ·exact uh hno' j (by omega),uh hgz3⟩
      case measure=>simp [intOf];omega
     | true =>
      have hs:=hide (Gd.lay_some (uh hno') (uh hgq) (uh HR))
      have hnw:=(uh hnew).on (uh hgz3)
      have x0:w3.cell? ⟨P,0,none⟩=some (.int .i64 (M m 0)):=hnw.cell (c:=0) (by simp)
      have x1:w3.cell? ⟨P,1,none⟩=some (.int .i64 (M m 1)):=hnw.cell (c:=1) (by simp)
      have x2:w3.cell? ⟨P,2,none⟩=some (.int .i64 (M m 2)):=hnw.cell (c:=2) (by simp)
      have x3:w3.cell? ⟨P,3,none⟩=some (.int .i64 (M m 3)):=hnw.cell (c:=3) (by simp)
      have hJ3:=(uh hJb).on (uh hgz3)
      obtain ⟨u0,u1,u2,u3⟩:=(hJ3.its (n:=40) (by omega) (by omega)).row (uh HR)
      have fI:=hJ3.free
      have hJn:=hide (hJ3.put r (M m 0) (M m 1) (M m 2) (M m 3))
      have hgn:=hide (gow (gtr (uh hgb) (uh hgz3)) (grown_put4 (World.grownBy.refl _ (some g)) r (.int .i64 (M m 0)) (.int .i64 (M m 1)) (.int .i64 (M m 2)) (.int .i64 (M m 3))) (fun k e=>by cases e;exact uh hlo'))
      have hrne:((r:Int) == 40)=false:=by simp;omega
      clear hnw hJ3
      go_wp2
      go_roundw
      case rel=>exact ⟨r,m+1,by have:=uh HL;omega,by have:=uh HR;omega,rfl,by go_num,fun j hj=>by
       rw [uh hs]
       show Gd.zeroB _ _ _ _=false
       rw [En.put_other (by omega)]
       exact uh hno' j hj,by rw [uh hs];exact uh hJn,uh hgn⟩
      case measure=>simp [intOf];omega
    ·have hge:¬(r:Int)<40:=by omega
     have er:(r:Int)=40:=by omega
     have hst:=hide (Gd.lay_stuck (I:=I) (M:=M) (m:=m) (fun j hj=>uh hno' j (by omega)) (n - m))
     have hJf:=hide ((uh hJb).on (uh hgz'))
     have hgf:=hide (gtr (uh hgb) (uh hgz'))
     rw [er]
     clear er hge hr
     go_wp2
     go_ret
     refine ⟨g,40,rfl,uh hlo',?_,uh hgf⟩
     have h:=uh hst
     rw [show m+(n - m)=n by omega] at h
     rw [h]
     exact uh hJf
  ·have hge:¬(m:Int)<(n:Int):=by omega
   obtain rfl:m=n:=by omega
   go_wp2
   go_ret
   exact ⟨g,40,rfl,uh hlo',uh hJ',uh hgr'⟩

end Go.Proofs.YtbanjoflgoiegaaGreat
