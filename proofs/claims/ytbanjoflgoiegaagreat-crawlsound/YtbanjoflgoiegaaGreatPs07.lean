import Derived.Test.YtbanjoflgoiegaaGreatPs04
namespace Go.Proofs.YtbanjoflgoiegaaGreat
open Go.RowKit

def Ring (G:Nat) (w:World) (op tg:Nat→Prop) (gone:List Nat) (e:Ending) (w':World):Prop :=
 ∃(nx:List Nat) (F:Nat→Int) (a:Option Addr) (cap:Nat),e=.returned (.slice a nx.length cap)∧Vex G w' a nx.length (Ints fun i=>((nx[i]?.getD 0:Nat):Int))∧Arr w' G 3 384 (Ints F)∧Gr.Inv op tg F (gone ++ nx) gone.length 0∧w.grownBy w' (some G)

theorem get_mid (pre ring nx:List Nat) (k:Nat) (h:k<ring.length):(pre ++ ring ++ nx)[pre.length+k]?.getD 0=ring[k]?.getD 0:=by
 rw [List.getElem?_append_left (by simp;omega),List.getElem?_append_right (by omega)]
 congr 2
 omega

theorem index_0 (w:World):(Instr.index 181 (.agg #[.int .i64 0,.int .i64 (-1),.int .i64 1,.int .i64 0,.int .i64 0,.int .i64 1,.int .i64 (-1),.int .i64 0]) (.int .i64 0)).run Tryz.prog w=.ok (.agg #[.int .i64 0,.int .i64 (-1)]) w:=by kernel_rfl

theorem index_1 (w:World):(Instr.index 181 (.agg #[.int .i64 0,.int .i64 (-1),.int .i64 1,.int .i64 0,.int .i64 0,.int .i64 1,.int .i64 (-1),.int .i64 0]) (.int .i64 1)).run Tryz.prog w=.ok (.agg #[.int .i64 1,.int .i64 0]) w:=by kernel_rfl

theorem index_2 (w:World):(Instr.index 181 (.agg #[.int .i64 0,.int .i64 (-1),.int .i64 1,.int .i64 0,.int .i64 0,.int .i64 1,.int .i64 (-1),.int .i64 0]) (.int .i64 2)).run Tryz.prog w=.ok (.agg #[.int .i64 0,.int .i64 1]) w:=by kernel_rfl

theorem index_3 (w:World):(Instr.index 181 (.agg #[.int .i64 0,.int .i64 (-1),.int .i64 1,.int .i64 0,.int .i64 0,.int .i64 1,.int .i64 (-1),.int .i64 0]) (.int .i64 3)).run Tryz.prog w=.ok (.agg #[.int .i64 (-1),.int .i64 0]) w:=by kernel_rfl

theorem index_step (d:Nat) (hd:d<4) (w:World) :
  (Instr.index 181 (.agg #[.int .i64 0,.int .i64 (-1),.int .i64 1,.int .i64 0,.int .i64 0,.int .i64 1,.int .i64 (-1),.int .i64 0]) (.int .i64 (d:Int))).run Tryz.prog w=.ok (.agg #[.int .i64 (Gr.dxOf d),.int .i64 (Gr.dyOf d)]) w:=by
 match d,hd with
 | 0,_=>exact index_0 w
 | 1,_=>exact index_1 w
 | 2,_=>exact index_2 w
 | 3,_=>exact index_3 w

theorem mark_step {op tg:Nat→Prop} {F:Nat→Int} {pre ring ny:List Nat} {k d c b:Nat} (hI:Gr.Inv op tg F (pre ++ ring ++ ny) (pre.length+k) d) (hk:k<ring.length) (hc:c=ring[k]?.getD 0) (hd:d<4)
  (hn:Gr.nbIn c d) (hb:b=Gr.nbOf c d) (ho:op b) (hneg:F b<0):Gr.Inv op tg (Gr.upd F b (F c+1)) (pre ++ ring ++ (ny ++ [b])) (pre.length+k) (d+1):=by
 have e:=get_mid pre ring ny k hk
 rw [←hc] at e
 have h:=hI.mark (fun i hi ht=>by have:=(hI.zero i hi).2 ht;omega) (by simp;omega) hd (by rw [e];exact hn) (by rw [e,←hb];exact ho) (by rw [e,←hb];exact hneg)
 rw [e,←hb,List.append_assoc] at h
 exact h

theorem skip_step {op tg:Nat→Prop} {F:Nat→Int} {pre ring ny:List Nat} {k d c:Nat} (hI:Gr.Inv op tg F (pre ++ ring ++ ny) (pre.length+k) d) (hk:k<ring.length) (hc:c=ring[k]?.getD 0) (hd:d<4)
  (hs:Gr.nbIn c d→op (Gr.nbOf c d)→0≤F (Gr.nbOf c d)):Gr.Inv op tg F (pre ++ ring ++ ny) (pre.length+k) (d+1):=by
 have e:=get_mid pre ring ny k hk
 rw [←hc] at e
 exact hI.skip (by simp;omega) hd (by rw [e];exact hs)

theorem inv_bd {op tg:Nat→Prop} {F:Nat→Int} {pre ring ny:List Nat} {k d c:Nat} (hI:Gr.Inv op tg F (pre ++ ring ++ ny) (pre.length+k) d) (hk:k<ring.length) (hc:c=ring[k]?.getD 0):0≤F c∧F c≤400∧ny.length<384:=by
 have e:=get_mid pre ring ny k hk
 rw [←hc] at e
 have h:=hI.lt (a:=pre.length+k) (by simp;omega)
 rw [e] at h
 have hl:=hI.len
 simp at hl
 refine ⟨h.2,?_,by omega⟩
 have:=hI.high (F c).toNat c h.1 (by omega)
 omega

theorem Gr.inB_nb (c d:Nat) (dx dy:Int) (hx:dx=Gr.dxOf d) (hy:dy=Gr.dyOf d):Gr.inB ((c:Int) % 24+dx) ((c:Int) / 24+dy)=true↔Gr.nbIn c d:=by
 rw [Gr.inB_iff,Gr.nbIn,hx,hy]
 omega

theorem Gr.d_bd (d:Nat):-1≤Gr.dxOf d∧Gr.dxOf d≤1∧-1≤Gr.dyOf d∧Gr.dyOf d≤1:=by
 match d with
 | 0 | 1 | 2 | 3=>decide
 | n+4=>simp [Gr.dxOf,Gr.dyOf]

set_option maxRecDepth 8000 in
set_option maxHeartbeats 4000000 in
theorem outward_any (G:Nat) (ca ba ra:Option Addr) (blen cc bc rc:Nat) (f:Nat→Int) (g:Nat→Bool) (tg:Nat→Prop) (pre ring:List Nat) (F0:Nat→Int) (w:World)
  (hc:Vec G w ca 384 (Byts f)) (hf:∀i,0≤f i∧f i≤255) (hb:Vec G w ba blen (Bols g)) (hr:Vex G w ra ring.length (Ints fun i=>((ring[i]?.getD 0:Nat):Int)))
  (hA:Arr w G 3 384 (Ints F0)) (hI:Gr.Inv (fun i=>Gr.openB f blen g i=true) tg F0 (pre ++ ring) pre.length 0) :
  Calls Tryz.prog 163 #[.slice ca 384 cc,.slice ba blen bc,.slice (some ⟨G,0,none⟩) 384 384,.slice ra ring.length rc] w
   (Ring G w (fun i=>Gr.openB f blen g i=true) tg (pre ++ ring)):=by
 have hG:=hA.lt
 have hrl:ring.length≤384:=by have:=hI.len;simp at this;omega
 have hc':=hide hc
 have hf':=hide hf
 have hb':=hide hb
 have hr':=hide hr
 have hA':=hide hA
 have hI':=hide hI
 obtain ⟨i0,hi,hz0,hz1,hz2⟩:=info_parts info_int
 obtain ⟨W0,hW⟩:∃W0,W0=w.heap.size:=⟨_,rfl⟩
 have hW':=hide hW
 have hGW:G<W0:=by omega
 obtain ⟨n,hn⟩:∃n,n=ring.length:=⟨_,rfl⟩
 rw [←hn] at hrl ⊢
 have hn':=hide hn
 clear hc hf hb hr hA hI hW hn
 go_enter Tryz.func163,Tryz.ntmps163
 go_wp2_with fail
 go_loopw [9,19] (fun v i wr=>∃(k:Nat) (nx:List Nat) (F:Nat→Int),k≤n∧i=.int .i64 k∧wr.ownsRow W0 3 1 v nx.length ((natInts nx).map (Value.int .i64))∧Arr wr G 3 384 (Ints F)∧Gr.Inv (fun i=>Gr.openB f blen g i=true) tg F (pre ++ ring ++ nx) (pre.length+k) 0∧w.grownBy wr (some G)) (fun _ i _=>n - (intOf i).toNat)
 case atStart=>exact ⟨0,[],F0,Nat.zero_le _,rfl,World.ownsRow_nil _ _ _ _,uh hA',by rw [List.append_nil];exact uh hI',World.grownBy.refl _ _⟩
 case round =>
  obtain ⟨k,nx,F,hk,rfl,hown,hA,hI,hg⟩:=hrel
  have hI1:=hide hI
  have hA1:=hide hA
  have hg1:=hide hg
  have hown1:=hide hown
  clear hI hA hg hA' hI' hown
  by_cases hlt:k<n
  ·have hkr:k<ring.length:=by have:=uh hn';omega
   obtain ⟨b,off,rfl,hcell⟩:=(uh hr').at (uh hg1) hkr
   obtain ⟨c,hcd⟩:∃c,c=ring[k]?.getD 0:=⟨_,rfl⟩
   have hcell':wr.cell? ⟨b,off+k,none⟩=some (.int .i64 (c:Int)):=by rw [hcd];exact hcell
   have hc384:c<384:=by
    have:=(uh hI1).lt (a:=pre.length+k) (by simp;omega)
    rw [get_mid pre ring nx k hkr,←hcd] at this
    exact this.1
   have hlt':(k:Int)<(n:Int):=by omega
   have hcd':=hide hcd
   clear hcell hcd
   go_wp2_with fail
   clear hcell'
   go_loopw [9,32] (fun v i ws=>∃(d:Nat) (ny:List Nat) (F:Nat→Int),d≤4∧i=.int .i64 d∧ws.ownsRow W0 3 1 v ny.length ((natInts ny).map (Value.int .i64))∧Arr ws G 3 384 (Ints F)∧Gr.Inv (fun i=>Gr.openB f blen g i=true) tg F (pre ++ ring ++ ny) (pre.length+k) d∧w.grownBy ws (some G)) (fun _ i _=>4 - (intOf i).toNat)
   case atStart=>exact ⟨0,nx,F,by omega,rfl,uh hown1,uh hA1,uh hI1,uh hg1⟩
   case round =>
    clear hI1 hA1 hg1 hown1
    obtain ⟨d,ny,F,hd4,rfl,hown,hA,hI,hg⟩:=hrel
    have hI1:=hide hI
    have hA1:=hide hA
    have hg1:=hide hg
    have hown1:=hide hown
    clear hI hA hg hown
    by_cases hd:d<4
    ·have hidx:=fun w=>index_step d hd w
     obtain ⟨dx,hdx⟩:∃dx,dx=Gr.dxOf d:=⟨_,rfl⟩
     obtain ⟨dy,hdy⟩:∃dy,dy=Gr.dyOf d:=⟨_,rfl⟩
     obtain ⟨e1,e2,e3,e4⟩:=Gr.d_bd d
     rw [←hdx] at hidx e1 e2
     rw [←hdy] at hidx e3 e4
     have hd':(d:Int)<4:=by omega
     have hdx':=hide hdx
     have hdy':=hide hdy
     clear hdx hdy
     have hcw:Hid (∀o,Vec G (wr.alloc o) ca 384 (Byts f)):=fun o=>(uh hc').kept (grown_below (gal (uh hg1) o) (by omega))
     have hbw:Hid (∀o,Vec G (wr.alloc o) ba blen (Bols g)):=fun o=>(uh hb').kept (grown_below (gal (uh hg1) o) (by omega))
     have hGr:G<wr.heap.size:=(uh hA1).lt
     have hiff:=Gr.inB_nb c d dx dy (uh hdx') (uh hdy')
     by_cases hin:Gr.nbIn c d
     ·have hinB:=hiff.2 hin
      obtain ⟨bb,hbb⟩:∃bb,bb=Gr.nbOf c d:=⟨_,rfl⟩
      have hb384:bb<384:=by rw [hbb];exact Gr.nb_lt hin
      have hbe:((c:Int) / 24+dy)*24+((c:Int) % 24+dx)=(bb:Int):=by
       have:=Gr.nb_eq hin
       rw [←uh hdx',←uh hdy',←hbb] at this
       omega
      have hbb':=hide hbb
      have hin':=hide hin
      have hcF:∀o,(wr.alloc o).cell? ⟨G,bb,none⟩=some (.int .i64 (F bb)):=fun o=>((uh hA1).alloc o).cell hb384
      have hfF:∀o,(wr.alloc o).frozen? ⟨G,bb,none⟩=false:=fun o=>((uh hA1).alloc o).free bb
      have hcC:∀o,(wr.alloc o).cell? ⟨G,c,none⟩=some (.int .i64 (F c)):=fun o=>((uh hA1).alloc o).cell hc384
      have hb2:(bb:Int)<384:=by omega
      have hc2:(c:Int)<384:=by omega
      obtain ⟨f1,f2,f3⟩:=inv_bd (uh hI1) hkr (uh hcd')
      clear hbb hin hiff
      go_wp2_with (go_at_call 153;refine (number_any _ _ _ (by omega) (by omega) (by omega) (by omega)).mono ?_;rintro e w' ⟨rfl,hw⟩;subst w')
      refine (isFree_in G _ _ _ _ _ f g _ _ bb _ (uh hcw _) (uh hf') (uh hbw _) hinB hbe).mono ?_
      rintro e w' ⟨rfl,hw⟩
      subst w'
      by_cases ho:Gr.openB f blen g bb=true
      ·by_cases hneg:F bb<0
       ·have hmk:=hide (mark_step (uh hI1) hkr (uh hcd') hd (uh hin') (uh hbb') ho hneg)
        go_wp2_with (at_builtin;refine wpList_append_own _ rfl _ _ 38 rfl W0 3 i0 (.int .i64 0) 1 8 Tryz.underlying38 hi hz0 hz1 hz2 rfl (by decide) _ _ _ rfl (((ownsRow_setCell_below (uh hown1) hGW _).alloc _).alloc _) ⟨wr.heap.size+1,0,none⟩ 1 1 [.int .i64 (bb:Int)] rfl rfl ?c1 ?c2 ?c3 ?c4 ?c5 ?_)
        case c1=>exact one_at _ _ _ _ (by simp)
        case c2=>intro u hu;simp at hu;subst hu;rfl
        case c3=>unfold maxLen;omega
        case c4=>omega
        case c5=>have:=(uh hg1).size;have:=uh hW';simp;omega
        intro v' w1 hown' hgrow _
        rw [natInts_more] at hown'
        have hown2:Hid (w1.ownsRow W0 3 1 v' (ny ++ [bb]).length ((natInts (ny ++ [bb])).map (Value.int .i64))):=by rw [List.length_append];exact hown'
        have hA2:=hide (((((uh hA1).upd (F c+1)).alloc _).alloc _).grown hgrow (fun e=>by have:=((uh hown1).lt _ e).1;omega))
        have hg2:=hide (gow (gal (gal (gst (uh hg1) bb _) _) _) hgrow (fun m hm=>by rw [←uh hW'];exact ((uh hown1).lt m hm).1))
        clear hown' hgrow hown1 hA1 hg1 hI1 hcF hfF hcC hcw hbw
        go_wp2
        go_roundw
        case rel=>exact ⟨d+1,ny ++ [bb],_,by omega,by go_num,uh hown2,uh hA2,uh hmk,uh hg2⟩
        case measure=>simp [intOf];omega
       ·have hsk:=hide (skip_step (uh hI1) hkr (uh hcd') hd (fun _ _=>by rw [←uh hbb'];omega))
        go_wp2
        go_roundw
        case rel=>exact ⟨d+1,ny,F,by omega,by go_num,(uh hown1).alloc _,(uh hA1).alloc _,uh hsk,gal (uh hg1) _⟩
        case measure=>simp [intOf];omega
      ·have ho':Gr.openB f blen g bb=false:=by simpa using ho
       have hsk:=hide (skip_step (uh hI1) hkr (uh hcd') hd (fun _ h=>absurd h (by rw [←uh hbb'];exact ho)))
       clear ho
       go_wp2
       go_roundw
       case rel=>exact ⟨d+1,ny,F,by omega,by go_num,(uh hown1).alloc _,(uh hA1).alloc _,uh hsk,gal (uh hg1) _⟩
       case measure=>simp [intOf];omega
     ·have hinB:Gr.inB ((c:Int) % 24+dx) ((c:Int) / 24+dy)=false:=by
       cases hh:Gr.inB ((c:Int) % 24+dx) ((c:Int) / 24+dy) with
       | false=>rfl
       | true=>exact absurd (hiff.1 hh) hin
      have hsk:=hide (skip_step (uh hI1) hkr (uh hcd') hd (fun h _=>absurd h hin))
      clear hin hiff
      go_wp2_with (go_at_call 153;refine (number_any _ _ _ (by omega) (by omega) (by omega) (by omega)).mono ?_;rintro e w' ⟨rfl,hw⟩;subst w')
      refine (isFree_out G _ _ _ _ _ f _ _ _ (uh hcw _) (uh hf') hinB).mono ?_
      rintro e w' ⟨rfl,hw⟩
      subst w'
      go_wp2
      go_roundw
      case rel=>exact ⟨d+1,ny,F,by omega,by go_num,(uh hown1).alloc _,(uh hA1).alloc _,uh hsk,gal (uh hg1) _⟩
      case measure=>simp [intOf];omega
    ·have hd':¬(d:Int)<4:=by omega
     have hd5:d=4:=by omega
     have hnx:Hid (Gr.Inv (fun i=>Gr.openB f blen g i=true) tg F (pre ++ ring ++ ny) (pre.length+(k+1)) 0):=by
      have h:=uh hI1
      rw [hd5] at h
      exact h.next
     clear hd5 hI1
     go_wp2
     go_roundw
     case rel=>exact ⟨k+1,ny,F,by omega,by go_num,uh hown1,uh hA1,uh hnx,uh hg1⟩
     case measure=>simp [intOf];omega
  ·have hge:¬(k:Int)<(n:Int):=by omega
   have hkn:k=ring.length:=by have:=uh hn';omega
   have hfin:Hid (Gr.Inv (fun i=>Gr.openB f blen g i=true) tg F ((pre ++ ring) ++ nx) (pre ++ ring).length 0):=by
    have h:=uh hI1
    rw [hkn] at h
    rw [List.length_append]
    exact h
   obtain ⟨a,cap,rfl,hvx⟩:=own_vex (G:=G) (uh hown1) hGW (by have h:=(uh hI1).len;simp at h;unfold maxLen;omega)
   have hvx':=hide hvx
   clear hvx hkn hown1
   go_wp2
   go_ret
   exact ⟨nx,F,a,cap,rfl,uh hvx',uh hA1,uh hfin,uh hg1⟩


open Go.RowKit

structure Gr.Seeds (f t:Nat→Int) (k:Nat) (F:Nat→Int) (ring:List Nat):Prop where
 two:∀i,i<384→F i=0∨F i=-1
 zero:∀i,i<384→(F i=0↔Gr.walkB (f i)=true∧∃j,j<k∧t j=(i:Int))
 mem:∀i,i<384→(0≤F i↔i∈ring)
 rng:∀i,i∈ring→i<384
 cnt:ring.length=Gr.cnt F 384

theorem Gr.cnt_none (n:Nat):Gr.cnt (fun _=>-1) n=0:=by
 induction n with
 | zero=>rfl
 | succ n ih=>unfold Gr.cnt;rw [ih];rfl

theorem Gr.Seeds.none (f t:Nat→Int):Gr.Seeds f t 0 (fun _=>-1) []:=by
 refine ⟨fun _ _=>.inr rfl,fun i hi=>?_,fun i hi=>?_,fun i hi=>?_,(Gr.cnt_none 384).symm⟩
 ·constructor
  ·intro h;cases h
  ·rintro ⟨_,j,hj,_⟩;omega
 ·simp
 ·cases hi

theorem Gr.Seeds.pass {f t F:Nat→Int} {k:Nat} {ring:List Nat} (h:Gr.Seeds f t k F ring) (hs:∀c:Nat,c<384→t k=(c:Int)→Gr.walkB (f c)=true→0≤F c):Gr.Seeds f t (k+1) F ring:=by
 refine ⟨h.two,fun i hi=>?_,h.mem,h.rng,h.cnt⟩
 rw [h.zero i hi]
 constructor
 ·rintro ⟨hw,j,hj,he⟩
  exact ⟨hw,j,by omega,he⟩
 ·rintro ⟨hw,j,hj,he⟩
  by_cases hjk:j=k
  ·subst hjk
   have h0:=hs i hi he hw
   have:F i=0:=by rcases h.two i hi with h | h <;> omega
   exact (h.zero i hi).1 this
  ·exact ⟨hw,j,by omega,he⟩

theorem Gr.Seeds.pass_same {f t F:Nat→Int} {k c:Nat} {ring:List Nat} (h:Gr.Seeds f t k F ring) (ht:t k=(c:Int)) (hs:Gr.walkB (f c)=true→0≤F c):Gr.Seeds f t (k+1) F ring:=by
 refine h.pass fun c' _ h' hw=>?_
 obtain rfl:c'=c:=by omega
 exact hs hw

theorem Gr.Seeds.add {f t F:Nat→Int} {k c:Nat} {ring:List Nat} (h:Gr.Seeds f t k F ring) (hc:c<384) (ht:t k=(c:Int)) (hw:Gr.walkB (f c)=true) (hneg:F c<0):Gr.Seeds f t (k+1) (Gr.upd F c 0) (ring ++ [c]):=by
 refine ⟨fun i hi=>?_,fun i hi=>?_,fun i hi=>?_,fun i hi=>?_,?_⟩
 ·by_cases e:i=c
  ·rw [e,Gr.upd_at];exact .inl rfl
  ·rw [Gr.upd_ne F _ e];exact h.two i hi
 ·by_cases e:i=c
  ·subst e
   rw [Gr.upd_at]
   exact ⟨fun _=>⟨hw,k,by omega,ht⟩,fun _=>rfl⟩
  ·rw [Gr.upd_ne F _ e,h.zero i hi]
   constructor
   ·rintro ⟨hw,j,hj,he⟩
    exact ⟨hw,j,by omega,he⟩
   ·rintro ⟨hw,j,hj,he⟩
    exact ⟨hw,j,by by_cases hjk:j=k;(subst hjk;omega);omega,he⟩
 ·by_cases e:i=c
  ·rw [e,Gr.upd_at];simp
  ·rw [Gr.upd_ne F _ e,h.mem i hi];simp [e]
 ·rcases List.mem_append.1 hi with hi | hi
  ·exact h.rng i hi
  ·simp at hi;omega
 ·rw [Gr.cnt_upd F c 0 384 hc hneg (by omega),List.length_append,h.cnt];rfl

def Gr.tgt (f t:Nat→Int) (tlen:Nat) (i:Nat):Prop:=Gr.walkB (f i)=true∧∃j,j<tlen∧t j=(i:Int)

theorem Gr.Seeds.inv {op:Nat→Prop} {f t F:Nat→Int} {k:Nat} {ring:List Nat} (h:Gr.Seeds f t k F ring):Gr.Inv op (Gr.tgt f t k) F ring 0 0 :=
 Gr.Inv.start h.two h.zero h.mem h.rng h.cnt

theorem Gr.kind_in (f:Nat→Int) (c:Nat) (h:c<384):Gr.kind 384 f (c:Int)=f c:=by
 unfold Gr.kind
 rw [if_pos (by omega),Int.toNat_natCast]

theorem Gr.kind_out (f:Nat→Int) (z:Int) (h:¬(0≤z∧z<384)):Gr.kind 384 f z=0:=by
 unfold Gr.kind
 rw [if_neg (by omega)]

set_option maxRecDepth 8000 in
set_option maxHeartbeats 2000000 in
theorem inmost_any (G:Nat) (ca ta:Option Addr) (tlen cc tc:Nat) (f t:Nat→Int) (op:Nat→Prop) (w:World)
  (hc:Vec G w ca 384 (Byts f)) (hf:∀i,0≤f i∧f i≤255) (ht:Vec G w ta tlen (Ints t)) (htb:∀i,-9223372036854775808≤t i∧t i≤9223372036854775807)
  (hA:Arr w G 3 384 (Ints fun _=>-1)) :
  Calls Tryz.prog 162 #[.slice ca 384 cc,.slice (some ⟨G,0,none⟩) 384 384,.slice ta tlen tc] w (Ring G w op (Gr.tgt f t tlen) []):=by
 have hG:=hA.lt
 have hm:tlen≤9223372036854775807:=ht.1
 have hc':=hide hc
 have hf':=hide hf
 have ht':=hide ht
 have htb':=hide htb
 have hA':=hide hA
 obtain ⟨i0,hi,hz0,hz1,hz2⟩:=info_parts info_int
 obtain ⟨W0,hW⟩:∃W0,W0=w.heap.size:=⟨_,rfl⟩
 have hW':=hide hW
 have hGW:G<W0:=by omega
 have hw0:Gr.walkB 0=false:=by decide
 clear hc hf ht hA hW htb
 go_enter Tryz.func162,Tryz.ntmps162
 go_wp2_with fail
 go_loopw [7,12] (fun v i wr=>∃(k:Nat) (ring:List Nat) (F:Nat→Int),k≤tlen∧i=.int .i64 k∧wr.ownsRow W0 3 1 v ring.length ((natInts ring).map (Value.int .i64))∧Arr wr G 3 384 (Ints F)∧Gr.Seeds f t k F ring∧w.grownBy wr (some G)) (fun _ i _=>tlen - (intOf i).toNat)
 case atStart=>exact ⟨0,[],_,Nat.zero_le _,rfl,World.ownsRow_nil _ _ _ _,uh hA',Gr.Seeds.none f t,World.grownBy.refl _ _⟩
 case round =>
  obtain ⟨k,ring,F,hk,rfl,hown,hA,hS,hg⟩:=hrel
  have hS1:=hide hS
  have hA1:=hide hA
  have hg1:=hide hg
  have hown1:=hide hown
  have hrl:ring.length≤384:=by rw [hS.cnt];exact Gr.cnt_le _ _
  clear hS hA hg hA' hown
  by_cases hlt:k<tlen
  ·have hbel:Below G w wr:=grown_below (uh hg1) (by omega)
   have hcw:=hide ((uh hc').kept hbel)
   obtain ⟨b,off,rfl,_,hcell⟩:=((uh ht').kept hbel).at hlt
   have hlt':(k:Int)<(tlen:Int):=by omega
   obtain ⟨tb1,tb2⟩:=(uh htb') k
   obtain ⟨z,hz⟩:∃z,z=t k:=⟨_,rfl⟩
   have hcell':wr.cell? ⟨b,off+k,none⟩=some (.int .i64 z):=by rw [hz];exact hcell
   rw [←hz] at tb1 tb2
   have hz':=hide hz
   clear hcell hz hbel
   by_cases hin:0≤z∧z<384
   ·obtain ⟨c,hcz⟩:∃c:Nat,z=(c:Int):=⟨z.toNat,by omega⟩
    subst hcz
    have hc384:c<384:=by omega
    have hkd:=Gr.kind_in f c hc384
    have hcF:=(uh hA1).cell hc384
    have hcF':wr.cell? ⟨G,c,none⟩=some (.int .i64 (F c)):=hcF
    have hfF:=(uh hA1).free c
    have hc2:(c:Int)<384:=by omega
    clear hin hcF
    by_cases hwk:Gr.walkB (f c)=true
    ·by_cases hneg:F c<0
     ·have hS2:=hide ((uh hS1).add hc384 (uh hz').symm hwk hneg)
      go_wp2_with (first | (go_at_call 176;refine (kindOf_any _ _ _ _ f _ _ (uh hcw) (uh hf') (by omega) (by omega)).mono ?_;rintro e w' ⟨rfl,hw⟩;subst w') | (go_at_call 115;refine (walk_any _ _).mono ?_;rintro e w' ⟨rfl,hw⟩;subst w') | (at_builtin;refine wpList_append_own _ rfl _ _ 38 rfl W0 3 i0 (.int .i64 0) 1 8 Tryz.underlying38 hi hz0 hz1 hz2 rfl (by decide) _ _ _ rfl ((ownsRow_setCell_below (uh hown1) hGW _).alloc _) ⟨wr.heap.size,0,none⟩ 1 1 [.int .i64 (c:Int)] rfl rfl ?c1 ?c2 ?c3 ?c4 ?c5 ?_))
      case c1=>exact one_at _ _ _ _ (by simp)
      case c2=>intro u hu;simp at hu;subst hu;rfl
      case c3=>unfold maxLen;omega
      case c4=>omega
      case c5=>have:=(uh hg1).size;have:=uh hW';simp;omega
      intro v' w1 hown' hgrow _
      rw [natInts_more] at hown'
      have hown2:Hid (w1.ownsRow W0 3 1 v' (ring ++ [c]).length ((natInts (ring ++ [c])).map (Value.int .i64))):=by rw [List.length_append];exact hown'
      have hA2:=hide ((((uh hA1).upd 0).alloc _).grown hgrow (fun e=>by have:=((uh hown1).lt _ e).1;omega))
      have hg2:=hide (gow (gal (gst (uh hg1) c _) _) hgrow (fun m hm=>by rw [←uh hW'];exact ((uh hown1).lt m hm).1))
      clear hown' hgrow hown1 hA1 hg1 hS1 hcF' hfF hcw
      go_wp2
      go_roundw
      case rel=>exact ⟨k+1,ring ++ [c],_,by omega,by go_num,uh hown2,uh hA2,uh hS2,uh hg2⟩
      case measure=>simp [intOf];omega
     ·have hS2:=hide ((uh hS1).pass_same (uh hz').symm (fun _=>by omega))
      go_wp2_with (first | (go_at_call 176;refine (kindOf_any _ _ _ _ f _ _ (uh hcw) (uh hf') (by omega) (by omega)).mono ?_;rintro e w' ⟨rfl,hw⟩;subst w') | (go_at_call 115;refine (walk_any _ _).mono ?_;rintro e w' ⟨rfl,hw⟩;subst w'))
      go_roundw
      case rel=>exact ⟨k+1,ring,F,by omega,by go_num,uh hown1,uh hA1,uh hS2,uh hg1⟩
      case measure=>simp [intOf];omega
    ·have hwk':Gr.walkB (f c)=false:=by simpa using hwk
     have hS2:=hide ((uh hS1).pass_same (uh hz').symm (fun hw=>absurd hw hwk))
     clear hwk
     go_wp2_with (first | (go_at_call 176;refine (kindOf_any _ _ _ _ f _ _ (uh hcw) (uh hf') (by omega) (by omega)).mono ?_;rintro e w' ⟨rfl,hw⟩;subst w') | (go_at_call 115;refine (walk_any _ _).mono ?_;rintro e w' ⟨rfl,hw⟩;subst w'))
     go_roundw
     case rel=>exact ⟨k+1,ring,F,by omega,by go_num,uh hown1,uh hA1,uh hS2,uh hg1⟩
     case measure=>simp [intOf];omega
   ·have hkd:=Gr.kind_out f z hin
    have hS2:=hide ((uh hS1).pass (fun c hc h _=>absurd (show 0≤z∧z<384 by have:=uh hz';omega) hin))
    clear hin
    go_wp2_with (first | (go_at_call 176;refine (kindOf_any _ _ _ _ f _ _ (uh hcw) (uh hf') (by omega) (by omega)).mono ?_;rintro e w' ⟨rfl,hw⟩;subst w') | (go_at_call 115;refine (walk_any _ _).mono ?_;rintro e w' ⟨rfl,hw⟩;subst w'))
    go_roundw
    case rel=>exact ⟨k+1,ring,F,by omega,by go_num,uh hown1,uh hA1,uh hS2,uh hg1⟩
    case measure=>simp [intOf];omega
  ·have hge:¬(k:Int)<(tlen:Int):=by omega
   obtain rfl:k=tlen:=by omega
   have hfin:=hide ((uh hS1).inv (op:=op))
   obtain ⟨a,cap,rfl,hvx⟩:=own_vex (G:=G) (uh hown1) hGW (by unfold maxLen;omega)
   have hvx':=hide hvx
   clear hvx hown1
   go_wp2
   go_ret
   exact ⟨ring,F,a,cap,rfl,uh hvx',uh hA1,uh hfin,uh hg1⟩


open Go.RowKit

def IsFieldOf (w:World) (op tg:Nat→Prop) (e:Ending) (w':World):Prop:=∃F,Made w 3 384 (Ints F) e w'∧Gr.IsField op tg F

set_option maxRecDepth 8000 in
set_option maxHeartbeats 4000000 in
theorem field_any (ca ba ta:Option Addr) (blen tlen cc bc tc:Nat) (f t:Nat→Int) (g:Nat→Bool) (w:World)
  (hc:Vec w.heap.size w ca 384 (Byts f)) (hf:∀i,0≤f i∧f i≤255) (hb:Vec w.heap.size w ba blen (Bols g)) (ht:Vec w.heap.size w ta tlen (Ints t)) (htb:∀i,-9223372036854775808≤t i∧t i≤9223372036854775807) :
  Calls Tryz.prog 131 #[.slice ca 384 cc,.slice ba blen bc,.slice ta tlen tc] w (IsFieldOf w (fun i=>Gr.openB f blen g i=true) (Gr.tgt f t tlen)):=by
 have hc':=hide hc
 have hf':=hide hf
 have hb':=hide hb
 have ht':=hide ht
 have htb':=hide htb
 obtain ⟨i0,hi,hz0,hz1,hz2⟩:=info_parts info_int
 clear hc hf hb ht htb
 go_enter Tryz.func131,Tryz.ntmps131
 obtain ⟨G,hG⟩:∃G,G=w.heap.size:=⟨_,rfl⟩
 rw [←hG] at hc' hb' ht'
 have hG':=hide hG
 clear hG
 go_wp2_with fail
 refine wp_scope_ghost 0 (fun m a' w'=>∃(ra:Option Addr) (rcap:Nat) (pre ring:List Nat) (F:Nat→Int) (u3 u4 u5 u6 u8 u10 u11 u12 u13 u14 u15 u16 u17 u18 u19 u20 u21 u22 u23 u24 u25 u26 u27 u28 u29 u30 u31 u32:Value),a'={ tmps:=#[.slice ca 384 cc,.slice ba blen bc,.slice ta tlen tc,u3,u4,u5,u6,.slice (some ⟨G,0,none⟩) 384 384,u8,.slice ra ring.length rcap,u10,u11,u12,u13,u14,u15,u16,u17,u18,u19,u20,u21,u22,u23,u24,u25,u26,u27,u28,u29,u30,u31,u32],defers:=[] }∧Vex G w' ra ring.length (Ints fun i=>((ring[i]?.getD 0:Nat):Int))∧Arr w' G 3 384 (Ints F)∧Gr.Inv (fun i=>Gr.openB f blen g i=true) (Gr.tgt f t tlen) F (pre ++ ring) pre.length 0∧Below G w w'∧m=384 - pre.length) rfl ?_ ?_
 ·go_wp2_with (at_make;refine wpList_make_full _ rfl _ _ 38 rfl G 3 i0 (.int .i64 0) 1 Tryz.underlying38 hi hz0 hz1 .i64 .i64 _ _ 384 rfl rfl rfl rfl ?q3 ?q4 (Nat.le_of_eq (uh hG')) ?_)
  case q3=>rw [hz2];omega
  case q4=>unfold maxLen;omega
  intro w2 hown hgrow
  rw [←uh hG'] at hown ⊢
  have hA:=hide (Arr.zero hown)
  have hB0:Below G w w2:=(Below.refl _ _).grown hgrow (Nat.le_of_eq (uh hG')) (by intro k hk;cases hk)
  clear hown hgrow hi hz0 hz1 hz2
  go_wp2_with fail
  go_loopw [13] (fun i wr=>∃k:Nat,k≤384∧i=.int .i64 k∧Arr wr G 3 384 (fun j=>.int .i64 (if j<k then -1 else 0))∧Below G w wr) (fun i _=>384 - (intOf i).toNat)
  case atStart=>exact ⟨0,Nat.zero_le _,rfl,(uh hA).congr fun j _=>by rw [if_neg (Nat.not_lt_zero _)],hB0⟩
  case round =>
   obtain ⟨k,hk,rfl,hA1,hB1⟩:=hrel
   have hA2:=hide hA1
   clear hA1 hA hB0
   by_cases hlt:k<384
   ·have hcc:=(uh hA2).cell hlt
    have hff:=(uh hA2).free k
    have hlt':(k:Int)<384:=by omega
    have HL:=hide hlt
    clear hlt hk
    go_wp2
    go_roundw
    case rel=>exact ⟨k+1,by have:=uh HL;omega,by go_num,((uh hA2).store k _).congr fun j _=>fill_more (g:=fun _=>-1) rfl j,hB1.setCell (Nat.le_refl _) _⟩
    case measure=>have:=uh HL;simp [intOf];omega
   ·have hge:¬(k:Int)<384:=by omega
    have hA:=hide ((uh hA2).congr (G:=Ints fun _=>-1) fun j hj=>by rw [if_pos (by omega)];rfl)
    clear hA2 hk hlt
    go_wp2_with fail
    refine (inmost_any G _ _ _ _ _ f t (fun i=>Gr.openB f blen g i=true) _ ((uh hc').kept hB1) (uh hf') ((uh ht').kept hB1) (uh htb') (uh hA)).mono ?_
    rintro e w3 ⟨ring,F,ra,rcap,rfl,hvx,hA3,hI3,hg3⟩
    have hB:=hB1.trans (grown_below hg3 (Nat.le_of_lt (uh hA).lt))
    have hvx:=hide hvx
    have hI:=hide hI3
    have hA:=hide hA3
    obtain ⟨pre,hpre⟩:∃pre:List Nat,pre=[]:=⟨_,rfl⟩
    rw [←hpre] at hI
    have hpre':=hide hpre
    clear hI3 hA3 hg3 hB1 hpre
    go_wp2_with fail
    go_step3
    by_cases hz:ring.length=0
    ·obtain rfl:=List.eq_nil_of_length_eq_zero hz
     have hfin:=hide ((uh hI).done (by simp))
     have hz':(((([]:List Nat).length:Nat):Int) == 0)=true:=by simp
     clear hz
     go_wp2
     simp only [Exit.jump]
     go_ret
     exact ⟨F,⟨G,rfl,Nat.le_of_eq (uh hG').symm,uh hA,by rw [←uh hG'];exact hB⟩,uh hfin⟩
    ·have hz':((ring.length:Int) == 0)=false:=by rw [beq_eq_false_iff_ne];omega
     have hpl:pre.length+ring.length≤384:=by have h:=(uh hI).len;simp at h;omega
     go_wp2_with fail
     refine (outward_any G _ _ _ _ _ _ _ f g (Gr.tgt f t tlen) pre ring F _ ((uh hc').kept hB) (uh hf') ((uh hb').kept hB) (uh hvx) (uh hA) (uh hI)).mono ?_
     rintro e w3 ⟨nx,F2,ra2,rcap2,rfl,hvx2,hA2,hI2,hg2⟩
     have hB2:=hB.trans (grown_below hg2 (Nat.le_of_lt (uh hA).lt))
     have hvx2':=hide hvx2
     have hI2':=hide hI2
     have hA2':=hide hA2
     clear hvx2 hI2 hA2 hg2
     go_wp2_with fail
     go_step3
     exact ⟨rfl,384 - (pre ++ ring).length,ra2,rcap2,pre ++ ring,nx,F2,_,_,_,_,_,_,_,_,_,_,_,_,_,_,_,_,_,_,_,_,_,_,_,_,_,_,_,_,rfl,uh hvx2',uh hA2',uh hI2',hB2,rfl⟩
 ·rintro m a' w2 ⟨ra,rcap,pre,ring,F,u3,u4,u5,u6,u8,u10,u11,u12,u13,u14,u15,u16,u17,u18,u19,u20,u21,u22,u23,u24,u25,u26,u27,u28,u29,u30,u31,u32,rfl,hvx,hA,hI,hB,rfl⟩
  have hvx:=hide hvx
  have hI:=hide hI
  have hA:=hide hA
  clear hi hz0 hz1 hz2
  by_cases hz:ring.length=0
  ·obtain rfl:=List.eq_nil_of_length_eq_zero hz
   have hfin:=hide ((uh hI).done (by simp))
   have hz':(((([]:List Nat).length:Nat):Int) == 0)=true:=by simp
   clear hz
   go_wp2
   simp only [Exit.jump]
   go_ret
   exact ⟨F,⟨G,rfl,Nat.le_of_eq (uh hG').symm,uh hA,by rw [←uh hG'];exact hB⟩,uh hfin⟩
  ·have hz':((ring.length:Int) == 0)=false:=by rw [beq_eq_false_iff_ne];omega
   have hpl:pre.length+ring.length≤384:=by have h:=(uh hI).len;simp at h;omega
   go_wp2_with fail
   refine (outward_any G _ _ _ _ _ _ _ f g (Gr.tgt f t tlen) pre ring F _ ((uh hc').kept hB) (uh hf') ((uh hb').kept hB) (uh hvx) (uh hA) (uh hI)).mono ?_
   rintro e w3 ⟨nx,F2,ra2,rcap2,rfl,hvx2,hA2,hI2,hg2⟩
   have hB2:=hB.trans (grown_below hg2 (Nat.le_of_lt (uh hA).lt))
   have hvx2':=hide hvx2
   have hI2':=hide hI2
   have hA2':=hide hA2
   clear hvx2 hI2 hA2 hg2
   go_wp2_with fail
   go_step3
   exact ⟨rfl,384 - (pre ++ ring).length,by simp;omega,ra2,rcap2,pre ++ ring,nx,F2,_,_,_,_,_,_,_,_,_,_,_,_,_,_,_,_,_,_,_,_,_,_,_,_,_,_,_,_,rfl,uh hvx2',uh hA2',uh hI2',hB2,rfl⟩

end Go.Proofs.YtbanjoflgoiegaaGreat
