import Derived.Test.YtldgbkjceildfaaGreatBy01
import Derived.ScopeJumps
import Derived.WalkMore
namespace Go.Proofs.YtldgbkjceildfaaGreat
open Go.RowKit

theorem get_mid (pre ring nx:List Nat) (k:Nat) (h:k<ring.length):(pre ++ ring ++ nx)[pre.length+k]?.getD 0=ring[k]?.getD 0:=by
 rw [List.getElem?_append_left (by simp;omega),List.getElem?_append_right (by omega)];congr 2;omega

theorem mark_step {op tg:Nat→Prop} {F:Nat→Int} {pre ring ny:List Nat} {k d c b:Nat} (hI:Gr.Inv op tg F (pre ++ ring ++ ny) (pre.length+k) d) (hk:k<ring.length) (hc:c=ring[k]?.getD 0) (hd:d<4)
  (hn:Gr.nbIn c d) (hb:b=Gr.nbOf c d) (ho:op b) (hneg:F b<0):Gr.Inv op tg (Gr.upd F b (F c+1)) (pre ++ ring ++ (ny ++ [b])) (pre.length+k) (d+1):=by
 have e:=get_mid pre ring ny k hk;rw [←hc] at e;have h:=hI.mark (fun i hi ht=>by have:=(hI.zero i hi).2 ht;omega) (by simp;omega) hd (by rw [e];exact hn) (by rw [e,←hb];exact ho) (by rw [e,←hb];exact hneg);rw [e,←hb,List.append_assoc] at h;exact h

theorem skip_step {op tg:Nat→Prop} {F:Nat→Int} {pre ring ny:List Nat} {k d c:Nat} (hI:Gr.Inv op tg F (pre ++ ring ++ ny) (pre.length+k) d) (hk:k<ring.length) (hc:c=ring[k]?.getD 0) (hd:d<4)
  (hs:Gr.nbIn c d→op (Gr.nbOf c d)→0≤F (Gr.nbOf c d)):Gr.Inv op tg F (pre ++ ring ++ ny) (pre.length+k) (d+1):=by
 have e:=get_mid pre ring ny k hk;rw [←hc] at e;exact hI.skip (by simp;omega) hd (by rw [e];exact hs)

theorem inv_bd {op tg:Nat→Prop} {F:Nat→Int} {pre ring ny:List Nat} {k d c:Nat} (hI:Gr.Inv op tg F (pre ++ ring ++ ny) (pre.length+k) d) (hk:k<ring.length) (hc:c=ring[k]?.getD 0):0≤F c∧F c≤400∧ny.length<384:=by
 have e:=get_mid pre ring ny k hk;rw [←hc] at e;have h:=hI.lt (a:=pre.length+k) (by simp;omega);rw [e] at h;have hl:=hI.len;simp at hl;refine ⟨h.2,?_,by omega⟩;have:=hI.high (F c).toNat c h.1 (by omega);omega

theorem Gr.inB_nb (c d:Nat) (dx dy:Int) (hx:dx=Gr.dxOf d) (hy:dy=Gr.dyOf d):Gr.inB ((c:Int) % 24+dx) ((c:Int) / 24+dy)=true↔Gr.nbIn c d:=by
 rw [Gr.inB_iff,Gr.nbIn,hx,hy];omega


open Go.RowKit

def Gr.tgt (f t:Nat→Int) (tlen:Nat) (i:Nat):Prop:=Gr.walkB (f i)=true∧∃j,j<tlen∧t j=(i:Int)

theorem Gr.kind_in (f:Nat→Int) (c:Nat) (h:c<384):Gr.kind 384 f (c:Int)=f c:=by
 unfold Gr.kind;rw [if_pos (by omega),Int.toNat_natCast]


open Go.RowKit

def IsFieldOf (w:World) (op tg:Nat→Prop) (e:Ending) (w':World):Prop:=∃F,Made w 3 384 (Ints F) e w'∧Gr.IsField op tg F


open Go.RowKit

structure Gr.Marks (f t:Nat→Int) (k:Nat) (F:Nat→Int):Prop where
 two:∀i,i<384→F i=0∨F i=-1
 zero:∀i,i<384→(F i=0↔Gr.walkB (f i)=true∧∃j,j<k∧t j=(i:Int))

theorem Gr.Marks.none (f t:Nat→Int):Gr.Marks f t 0 (fun _=>-1):=by
 refine ⟨fun _ _=>.inr rfl,fun i hi=>?_⟩;constructor
 ·intro h;cases h
 ·rintro ⟨_,j,hj,_⟩;omega

theorem Gr.Marks.pass {f t F:Nat→Int} {k:Nat} (h:Gr.Marks f t k F) (hs:∀c:Nat,c<384→t k=(c:Int)→Gr.walkB (f c)=false):Gr.Marks f t (k+1) F:=by
 refine ⟨h.two,fun i hi=>?_⟩;rw [h.zero i hi];constructor
 ·rintro ⟨hw,j,hj,he⟩;exact ⟨hw,j,by omega,he⟩
 ·rintro ⟨hw,j,hj,he⟩;by_cases hjk:j=k
  ·subst hjk;have h0:=hs i hi he;rw [h0] at hw;cases hw
  ·exact ⟨hw,j,by omega,he⟩

theorem Gr.Marks.pass_same {f t F:Nat→Int} {k c:Nat} (h:Gr.Marks f t k F) (ht:t k=(c:Int)) (hs:Gr.walkB (f c)=false):Gr.Marks f t (k+1) F:=by
 refine h.pass fun c' _ h'=>?_;obtain rfl:c'=c:=by omega
 exact hs

theorem Gr.Marks.set {f t F:Nat→Int} {k c:Nat} (h:Gr.Marks f t k F) (ht:t k=(c:Int)) (hw:Gr.walkB (f c)=true):Gr.Marks f t (k+1) (Gr.upd F c 0):=by
 refine ⟨fun i hi=>?_,fun i hi=>?_⟩
 ·by_cases e:i=c
  ·rw [e,Gr.upd_at];exact .inl rfl
  ·rw [Gr.upd_ne F _ e];exact h.two i hi
 ·by_cases e:i=c
  ·subst e;rw [Gr.upd_at];exact ⟨fun _=>⟨hw,k,by omega,ht⟩,fun _=>rfl⟩
  ·rw [Gr.upd_ne F _ e,h.zero i hi];constructor
   ·rintro ⟨hw,j,hj,he⟩;exact ⟨hw,j,by omega,he⟩
   ·rintro ⟨hw,j,hj,he⟩;exact ⟨hw,j,by by_cases hjk:j=k;(subst hjk;omega);omega,he⟩

structure Gr.Rowed (F:Nat→Int) (k:Nat) (row:List Nat):Prop where
 mem:∀i,i∈row↔i<k∧0≤F i
 cnt:row.length=Gr.cnt F k

theorem Gr.Rowed.none (F:Nat→Int):Gr.Rowed F 0 []:=⟨fun i=>by simp,rfl⟩

theorem Gr.Rowed.add {F:Nat→Int} {k:Nat} {row:List Nat} (h:Gr.Rowed F k row) (hk:0≤F k):Gr.Rowed F (k+1) (row ++ [k]):=by
 refine ⟨fun i=>?_,?_⟩
 ·rw [List.mem_append,h.mem i,List.mem_singleton];constructor
  ·rintro (⟨a,b⟩|rfl)
   ·exact ⟨by omega,b⟩
   ·exact ⟨by omega,hk⟩
  ·rintro ⟨a,b⟩;by_cases e:i=k
   ·exact .inr e
   ·exact .inl ⟨by omega,b⟩
 ·unfold Gr.cnt;rw [if_pos hk,List.length_append,h.cnt];rfl

theorem Gr.Rowed.pass {F:Nat→Int} {k:Nat} {row:List Nat} (h:Gr.Rowed F k row) (hk:¬0≤F k):Gr.Rowed F (k+1) row:=by
 refine ⟨fun i=>?_,?_⟩
 ·rw [h.mem i];constructor
  ·rintro ⟨a,b⟩;exact ⟨by omega,b⟩
  ·rintro ⟨a,b⟩;exact ⟨by by_cases e:i=k;(subst e;exact absurd b hk);omega,b⟩
 ·unfold Gr.cnt;rw [if_neg hk,h.cnt];rfl

theorem Gr.Rowed.inv {op:Nat→Prop} {f t F:Nat→Int} {tlen:Nat} {row:List Nat} (h:Gr.Rowed F 384 row) (hm:Gr.Marks f t tlen F):Gr.Inv op (Gr.tgt f t tlen) F row 0 0 :=
 Gr.Inv.start hm.two hm.zero (fun i hi=>by rw [h.mem];exact ⟨fun a=>⟨hi,a⟩,fun a=>a.2⟩) (fun i hi=>((h.mem i).1 hi).1) h.cnt

theorem Gr.at_cell (f:Nat→Int) (c:Nat) (h:c<384):Gr.at 384 f ((c:Int) % 24) ((c:Int) / 24)=f c:=by
 rw [Gr.kind_at 384 f c (by omega),Gr.kind_in f c h]

set_option maxRecDepth 8000 in
set_option maxHeartbeats 16000000 in
theorem refField_any (ca ba ta:Option Addr) (blen tlen cc bc tc:Nat) (f t:Nat→Int) (g:Nat→Bool) (w:World)
  (hc:Vec w.heap.size w ca 384 (Byts f)) (hf:∀i,0≤f i∧f i≤255) (hb:Vec w.heap.size w ba blen (Bols g)) (ht:Vec w.heap.size w ta tlen (Ints t)) (htb:∀i,-9223372036854775808≤t i∧t i≤9223372036854775807) :
  Calls Tryz.prog 64 #[.slice ca 384 cc,.slice ba blen bc,.slice ta tlen tc] w (IsFieldOf w (fun i=>Gr.openB f blen g i=true) (Gr.tgt f t tlen)):=by
 have hm:tlen≤9223372036854775807:=ht.1;have hmb:blen≤9223372036854775807:=hb.1;have hc':=hide hc;have hf':=hide hf;have hb':=hide hb;have ht':=hide ht;have htb':=hide htb;obtain ⟨i0,hi,hz0,hz1,hz2⟩:=info_parts info_int;clear hc hf hb ht htb;obtain ⟨G,hG⟩:∃G,G=w.heap.size:=⟨_,rfl⟩;rw [←hG] at hc' hb' ht';have hG':=hide hG;clear hG;go_enter Tryz.func64,Tryz.ntmps64;go_wp2_with (at_make;refine wpList_make_full _ rfl _ _ 23 rfl G 3 i0 (.int .i64 0) 1 Tryz.underlying23 hi hz0 hz1 .i64 .i64 _ _ 384 rfl rfl rfl rfl ?q3 ?q4 (Nat.le_of_eq (uh hG')) ?_);case q3=>rw [hz2];omega
 case q4=>unfold maxLen;omega
 intro w2 hown hgrow;rw [←uh hG'] at hown ⊢;have hA:=hide (Arr.zero hown);have hB0:Below G w w2:=(Below.refl _ _).grown hgrow (Nat.le_of_eq (uh hG')) (by intro k hk;cases hk);clear hown hgrow;go_wp2_with fail
 go_loopw [8] (fun i wr=>∃k:Nat,k≤384∧i=.int .i64 k∧Arr wr G 3 384 (fun j=>.int .i64 (if j<k then -1 else 0))∧Below G w wr) (fun i _=>384 - (intOf i).toNat)
 case atStart=>exact ⟨0,Nat.zero_le _,rfl,(uh hA).congr fun j _=>by rw [if_neg (Nat.not_lt_zero _)],hB0⟩
 case round =>
  obtain ⟨k,hk,rfl,hA1,hB1⟩:=hrel;have hA2:=hide hA1;clear hA1 hA hB0;by_cases hlt:k<384
  ·have hcc:=(uh hA2).cell hlt;have hff:=(uh hA2).free k;have hlt':(k:Int)<384:=by omega
   have HL:=hide hlt;clear hlt hk;go_wp2;go_roundw;case rel=>exact ⟨k+1,by have:=uh HL;omega,by go_num,((uh hA2).store k _).congr fun j _=>fill_more (g:=fun _=>-1) rfl j,hB1.setCell (Nat.le_refl _) _⟩
   case measure=>have:=uh HL;simp [intOf];omega
  ·have hge:¬(k:Int)<384:=by omega
   have hA:=hide ((uh hA2).congr (G:=Ints fun _=>-1) fun j hj=>by rw [if_pos (by omega)];rfl);clear hA2 hk hlt;go_wp2_with fail;clear hge
   go_loopw [9] (fun i wr=>∃(k:Nat) (F:Nat→Int),k≤tlen∧i=.int .i64 k∧Arr wr G 3 384 (Ints F)∧Gr.Marks f t k F∧Below G w wr) (fun i _=>tlen - (intOf i).toNat)
   case atStart=>exact ⟨0,_,Nat.zero_le _,rfl,uh hA,Gr.Marks.none f t,hB1⟩
   case round =>
    clear hA hB1;obtain ⟨k,F,hk,rfl,hA,hM,hB⟩:=hrel;have hM1:=hide hM;have hA1:=hide hA;clear hM hA;by_cases hlt:k<tlen
    ·have hcw:=hide ((uh hc').kept hB);obtain ⟨b,off,rfl,_,hcell⟩:=((uh ht').kept hB).at hlt;have hlt':(k:Int)<(tlen:Int):=by omega
     obtain ⟨tb1,tb2⟩:=(uh htb') k;obtain ⟨z,hz⟩:∃z,z=t k:=⟨_,rfl⟩;have hcell':wr.cell? ⟨b,off+k,none⟩=some (.int .i64 z):=by rw [hz];exact hcell
     rw [←hz] at tb1 tb2;have hz':=hide hz;clear hcell hz;by_cases hz0':0≤z
     ·by_cases hz1':z<384
      ·obtain ⟨c,hcz⟩:∃c:Nat,z=(c:Int):=⟨z.toNat,by omega⟩;subst hcz;have hc384:c<384:=by omega
       have hat:=Gr.at_cell f c hc384;have hcF':wr.cell? ⟨G,c,none⟩=some (.int .i64 (F c)):=(uh hA1).cell hc384;have hfF:=(uh hA1).free c;by_cases hwk:Gr.walkB (f c)=true
       ·have hM2:=hide ((uh hM1).set (uh hz').symm hwk);go_wp2_with (first | (go_at_call 76;refine (refIn_any _ _ _).mono ?_;rintro e w' ⟨rfl,hw⟩;subst w') | (go_at_call 45;refine (refAt_any G _ _ _ f _ _ _ (uh hcw) (uh hf')).mono ?_;rintro e w' ⟨rfl,hw⟩;subst w') | (go_at_call 75;refine (refWalk_any _ _).mono ?_;rintro e w' ⟨rfl,hw⟩;subst w'));go_roundw;case rel=>exact ⟨k+1,_,by omega,by go_num,(uh hA1).upd 0,uh hM2,hB.setCell (Nat.le_refl _) _⟩
        case measure=>simp [intOf];omega
       ·have hwk':Gr.walkB (f c)=false:=by simpa using hwk
        have hM2:=hide ((uh hM1).pass_same (uh hz').symm hwk');clear hwk;go_wp2_with (first | (go_at_call 76;refine (refIn_any _ _ _).mono ?_;rintro e w' ⟨rfl,hw⟩;subst w') | (go_at_call 45;refine (refAt_any G _ _ _ f _ _ _ (uh hcw) (uh hf')).mono ?_;rintro e w' ⟨rfl,hw⟩;subst w') | (go_at_call 75;refine (refWalk_any _ _).mono ?_;rintro e w' ⟨rfl,hw⟩;subst w'));go_roundw;case rel=>exact ⟨k+1,F,by omega,by go_num,uh hA1,uh hM2,hB⟩
        case measure=>simp [intOf];omega
      ·have hM2:=hide ((uh hM1).pass (fun c hc h=>absurd hz1' (by have:=uh hz';omega)));go_wp2_with (first | (go_at_call 76;refine (refIn_any _ _ _).mono ?_;rintro e w' ⟨rfl,hw⟩;subst w') | (go_at_call 45;refine (refAt_any G _ _ _ f _ _ _ (uh hcw) (uh hf')).mono ?_;rintro e w' ⟨rfl,hw⟩;subst w') | (go_at_call 75;refine (refWalk_any _ _).mono ?_;rintro e w' ⟨rfl,hw⟩;subst w'));go_roundw;case rel=>exact ⟨k+1,F,by omega,by go_num,uh hA1,uh hM2,hB⟩
       case measure=>simp [intOf];omega
     ·have hM2:=hide ((uh hM1).pass (fun c hc h=>absurd hz0' (by have:=uh hz';omega)));go_wp2_with (first | (go_at_call 76;refine (refIn_any _ _ _).mono ?_;rintro e w' ⟨rfl,hw⟩;subst w') | (go_at_call 45;refine (refAt_any G _ _ _ f _ _ _ (uh hcw) (uh hf')).mono ?_;rintro e w' ⟨rfl,hw⟩;subst w') | (go_at_call 75;refine (refWalk_any _ _).mono ?_;rintro e w' ⟨rfl,hw⟩;subst w'));go_roundw;case rel=>exact ⟨k+1,F,by omega,by go_num,uh hA1,uh hM2,hB⟩
      case measure=>simp [intOf];omega
    ·have hge:¬(k:Int)<(tlen:Int):=by omega
     have hkt:k=tlen:=by omega
     subst k;go_wp2_with fail;clear hge hlt hk;have hG1:G<wr.heap.size:=(uh hA1).lt
     go_loopw [11,12] (fun v i ws=>∃(j:Nat) (row:List Nat),j≤384∧i=.int .i64 j∧ws.ownsRow (G+1) 3 1 v row.length ((natInts row).map (Value.int .i64))∧Arr ws G 3 384 (Ints F)∧Gr.Rowed F j row∧Below G w ws) (fun _ i _=>384 - (intOf i).toNat)
     case atStart=>exact ⟨0,[],Nat.zero_le _,rfl,World.ownsRow_nil _ _ _ _,uh hA1,Gr.Rowed.none F,hB⟩
     case round =>
      clear hA1 hB hG1;obtain ⟨j,row,hj,rfl,hown,hA,hR,hB⟩:=hrel;have hR1:=hide hR;have hA1:=hide hA;have hown1:=hide hown;have hGs:G<wr.heap.size:=hA.lt;have hrl:row.length≤384:=by have h:=Gr.cnt_le F j;rw [←hR.cnt] at h;omega
      clear hR hA hown;by_cases hlt:j<384
      ·have hcc:wr.cell? ⟨G,j,none⟩=some (.int .i64 (F j)):=(uh hA1).cell hlt;have hlt':(j:Int)<384:=by omega
       have h01:=(uh hM1).two j hlt;have HL:=hide hlt;clear hlt hj;by_cases hz:F j=0
       ·have hz':(F j == 0)=true:=by simpa using hz
        have hR2:=hide ((uh hR1).add (by omega));clear hz h01;go_wp2_with (at_builtin;refine wpList_append_own _ rfl _ _ 23 rfl (G+1) 3 i0 (.int .i64 0) 1 8 Tryz.underlying23 hi hz0 hz1 hz2 rfl (by decide) _ _ _ rfl ((uh hown1).alloc _) ⟨wr.heap.size,0,none⟩ 1 1 [.int .i64 (j:Int)] rfl rfl ?c1 ?c2 ?c3 ?c4 ?c5 ?_);case c1=>exact one_at _ _ _ _ rfl
        case c2=>intro u hu;simp at hu;subst hu;rfl
        case c3=>unfold maxLen;omega
        case c4=>omega
        case c5=>simp;omega
        intro v' w1 hown' hgrow _;rw [natInts_more] at hown';have hown2:Hid (w1.ownsRow (G+1) 3 1 v' (row ++ [j]).length ((natInts (row ++ [j])).map (Value.int .i64))):=by rw [List.length_append];exact hown'
        have hA2:=hide (((uh hA1).alloc _).grown hgrow (fun e=>by have:=((uh hown1).lt _ e).1;omega));have hB2:Below G w w1:=(hB.alloc (by omega) _).grown hgrow (by simp;omega) (fun m hm=>by have:=((uh hown1).lt m hm).1;omega);clear hown' hgrow hown1 hA1 hR1 hcc;go_wp2;go_roundw;case rel=>exact ⟨j+1,row ++ [j],by have:=uh HL;omega,by go_num,uh hown2,uh hA2,uh hR2,hB2⟩
        case measure=>have:=uh HL;simp [intOf];omega
       ·have hz':(F j == 0)=false:=by simpa using hz
        have hR2:=hide ((uh hR1).pass (by rcases h01 with h | h <;> omega));clear hz h01;go_wp2;go_roundw;case rel=>exact ⟨j+1,row,by have:=uh HL;omega,by go_num,uh hown1,uh hA1,uh hR2,hB⟩
        case measure=>have:=uh HL;simp [intOf];omega
      ·have hge:¬(j:Int)<384:=by omega
       obtain rfl:j=384:=by omega
       have hI:=hide ((uh hR1).inv (op:=fun i=>Gr.openB f blen g i=true) (uh hM1));clear hlt hj hR1;go_wp2_with fail;clear hge hM1
       go_loopw [11,13] (fun v i ws=>∃(k:Nat) (row:List Nat) (F:Nat→Int),k≤row.length∧i=.int .i64 k∧ws.ownsRow (G+1) 3 1 v row.length ((natInts row).map (Value.int .i64))∧Arr ws G 3 384 (Ints F)∧Gr.Inv (fun i=>Gr.openB f blen g i=true) (Gr.tgt f t tlen) F row k 0∧Below G w ws) (fun _ i _=>384 - (intOf i).toNat)
       case atStart=>exact ⟨0,row,F,Nat.zero_le _,rfl,uh hown1,uh hA1,uh hI,hB⟩
       case round =>
        clear hA1 hB hI hown1 hGs hrl;obtain ⟨k,row,F,hk,rfl,hown,hA,hI,hB⟩:=hrel;have hI1:=hide hI;have hA1:=hide hA;have hown1:=hide hown;have hGs:G<wr.heap.size:=hA.lt;have hrl:row.length≤384:=hI.len;obtain ⟨ra,rcap,hra,hvx⟩:=own_vex (G:=G) hown (by omega) (by unfold maxLen;omega);subst hra;clear hI hA hown;by_cases hlt:k<row.length
        ·obtain ⟨b,off,rfl,hcell⟩:=hvx.at (World.grownBy.refl _ _) hlt;obtain ⟨c,hcd⟩:∃c,c=row[k]?.getD 0:=⟨_,rfl⟩;have hcell':wr.cell? ⟨b,off+k,none⟩=some (.int .i64 (c:Int)):=by rw [hcd];exact hcell
         have hc384:c<384:=by rw [hcd];exact ((uh hI1).lt hlt).1
         have hlt':(k:Int)<(row.length:Int):=by omega
         have hk384:k<384:=by omega
         have hcd':=hide hcd;clear hcell hcd hvx;go_wp2_with fail;clear hcell';have hst:Gr.Inv (fun i=>Gr.openB f blen g i=true) (Gr.tgt f t tlen) F ([] ++ row ++ []) (([]:List Nat).length+k) 0:=by simpa using uh hI1
         go_loopw [11,15] (fun v i ws=>∃(d:Nat) (ny:List Nat) (F:Nat→Int),d≤4∧i=.int .i64 d∧ws.ownsRow (G+1) 3 1 v (row ++ ny).length ((natInts (row ++ ny)).map (Value.int .i64))∧Arr ws G 3 384 (Ints F)∧Gr.Inv (fun i=>Gr.openB f blen g i=true) (Gr.tgt f t tlen) F ([] ++ row ++ ny) (([]:List Nat).length+k) d∧Below G w ws) (fun _ i _=>4 - (intOf i).toNat)
         case atStart=>exact ⟨0,[],F,by omega,rfl,by rw [List.append_nil];exact uh hown1,uh hA1,hst,hB⟩
         case round =>
          clear hst hI1 hA1 hown1 hB hGs hrl;obtain ⟨d,ny,F,hd4,rfl,hown,hA,hI,hB⟩:=hrel;have hI1:=hide hI;have hA1:=hide hA;have hown1:=hide hown;have hGs:G<wr.heap.size:=hA.lt;have hcw:=hide ((uh hc').kept hB);have hbw:=hide ((uh hb').kept hB);obtain ⟨f1,f2,_⟩:=inv_bd hI hlt (uh hcd');have f3:(row ++ ny).length≤384:=by have h:=hI.len;simpa using h
          have hcC:wr.cell? ⟨G,c,none⟩=some (.int .i64 (F c)):=hA.cell hc384;have hc2:(c:Int)<384:=by omega
          clear hI hA hown;by_cases hd:d<4
          ·have hd':(d:Int)<4:=by omega
           have hiff:=Gr.inB_nb c d (Gr.dxOf d) (Gr.dyOf d) rfl rfl;by_cases hin:Gr.nbIn c d
           ·have hinB:=hiff.2 hin;obtain ⟨bb,hbb⟩:∃bb,bb=Gr.nbOf c d:=⟨_,rfl⟩;have hb384:bb<384:=by rw [hbb];exact Gr.nb_lt hin
            have hbe:((c:Int) / 24+Gr.dyOf d)*24+((c:Int) % 24+Gr.dxOf d)=(bb:Int):=by
             have:=Gr.nb_eq hin;rw [←hbb] at this;omega
            have hat:=Gr.at_in (f:=f) hinB hbe;have hbb':=hide hbb;have hin':=hide hin;have hcF:wr.cell? ⟨G,bb,none⟩=some (.int .i64 (F bb)):=(uh hA1).cell hb384;have hfF:wr.frozen? ⟨G,bb,none⟩=false:=(uh hA1).free bb;have hb2:(bb:Int)<384:=by omega
            clear hbb hin hiff;by_cases hneg:F bb<0
            ·by_cases hwk:Gr.walkB (f bb)=true
             ·by_cases hbl:bb<blen
              ·have hbl':(bb:Int)<(blen:Int):=by omega
               obtain ⟨qb,qo,rfl,_,hgc⟩:=(uh hbw).at hbl;have hgc':wr.cell? ⟨qb,qo+bb,none⟩=some (.bool (g bb)):=hgc;clear hgc;by_cases hgb:g bb=true
               ·have ho:Gr.openB f blen g bb=false:=by rw [Gr.open_in hwk hbl,hgb];rfl
                have hsk:=hide (skip_step (uh hI1) hlt (uh hcd') hd (fun _ h=>absurd h (by rw [←uh hbb',ho];simp)));clear ho;rcases (show d=0∨d=1∨d=2∨d=3 by omega) with rfl|rfl|rfl|rfl;all_goals
                 simp only [Gr.dxOf,Gr.dyOf,Int.add_zero,Int.add_neg_eq_sub] at hinB hbe hat;go_wp2_with (first | (go_at_call 76;refine (refIn_any _ _ _).mono ?_;rintro e w' ⟨rfl,hw⟩;subst w') | (go_at_call 45;refine (refAt_any G _ _ _ f _ _ _ (uh hcw) (uh hf')).mono ?_;rintro e w' ⟨rfl,hw⟩;subst w') | (go_at_call 75;refine (refWalk_any _ _).mono ?_;rintro e w' ⟨rfl,hw⟩;subst w'));go_roundw;case rel=>exact ⟨_,ny,F,by omega,by go_num,uh hown1,uh hA1,uh hsk,hB⟩
                 case measure=>simp [intOf]
               ·have hgb':g bb=false:=by simpa using hgb
                have ho:Gr.openB f blen g bb=true:=by rw [Gr.open_in hwk hbl,hgb'];rfl
                clear hgb;have hmk:=hide (mark_step (uh hI1) hlt (uh hcd') hd (uh hin') (uh hbb') ho hneg);clear ho;rcases (show d=0∨d=1∨d=2∨d=3 by omega) with rfl|rfl|rfl|rfl;all_goals
                 simp only [Gr.dxOf,Gr.dyOf,Int.add_zero,Int.add_neg_eq_sub] at hinB hbe hat;go_wp2_with (first | (go_at_call 76;refine (refIn_any _ _ _).mono ?_;rintro e w' ⟨rfl,hw⟩;subst w') | (go_at_call 45;refine (refAt_any G _ _ _ f _ _ _ (uh hcw) (uh hf')).mono ?_;rintro e w' ⟨rfl,hw⟩;subst w') | (go_at_call 75;refine (refWalk_any _ _).mono ?_;rintro e w' ⟨rfl,hw⟩;subst w') | (at_builtin;refine wpList_append_own _ rfl _ _ 23 rfl (G+1) 3 i0 (.int .i64 0) 1 8 Tryz.underlying23 hi hz0 hz1 hz2 rfl (by decide) _ _ _ rfl ((ownsRow_setCell_below (uh hown1) (Nat.lt_succ_self G) _).alloc _) ⟨wr.heap.size,0,none⟩ 1 1 [.int .i64 (bb:Int)] rfl rfl ?_ ?_ ?_ ?_ ?_ ?_))
                 ·exact one_at _ _ _ _ (by simp)
                 ·intro u hu;simp at hu;subst hu;rfl
                 ·unfold maxLen;omega
                 ·omega
                 ·simp;omega
                 intro v' w1 hown' hgrow _;rw [natInts_more,List.append_assoc] at hown';have hown2:Hid (w1.ownsRow (G+1) 3 1 v' (row ++ (ny ++ [bb])).length ((natInts (row ++ (ny ++ [bb]))).map (Value.int .i64))):=by rw [show (row ++ (ny ++ [bb])).length=row.length+ny.length+1 by simp;omega];exact hown'
                 have hA2:=hide ((((uh hA1).upd (F c+1)).alloc _).grown hgrow (fun e=>by have:=((uh hown1).lt _ e).1;omega));have hB2:Below G w w1:=((hB.setCell (Nat.le_refl _) _).alloc (by simp;omega) _).grown hgrow (by simp;omega) (fun m hm=>by have:=((uh hown1).lt m hm).1;omega);clear hown' hgrow hown1 hA1 hI1 hcF hfF hcC hcw hbw;go_wp2;go_roundw;case rel=>exact ⟨_,ny ++ [bb],_,by omega,by go_num,uh hown2,uh hA2,uh hmk,hB2⟩
                 case measure=>simp [intOf]
              ·have hbl':(blen:Int)≤(bb:Int):=by omega
               have ho:Gr.openB f blen g bb=true:=Gr.open_past hwk hbl;have hmk:=hide (mark_step (uh hI1) hlt (uh hcd') hd (uh hin') (uh hbb') ho hneg);clear ho;rcases (show d=0∨d=1∨d=2∨d=3 by omega) with rfl|rfl|rfl|rfl;all_goals
                simp only [Gr.dxOf,Gr.dyOf,Int.add_zero,Int.add_neg_eq_sub] at hinB hbe hat;go_wp2_with (first | (go_at_call 76;refine (refIn_any _ _ _).mono ?_;rintro e w' ⟨rfl,hw⟩;subst w') | (go_at_call 45;refine (refAt_any G _ _ _ f _ _ _ (uh hcw) (uh hf')).mono ?_;rintro e w' ⟨rfl,hw⟩;subst w') | (go_at_call 75;refine (refWalk_any _ _).mono ?_;rintro e w' ⟨rfl,hw⟩;subst w') | (at_builtin;refine wpList_append_own _ rfl _ _ 23 rfl (G+1) 3 i0 (.int .i64 0) 1 8 Tryz.underlying23 hi hz0 hz1 hz2 rfl (by decide) _ _ _ rfl ((ownsRow_setCell_below (uh hown1) (Nat.lt_succ_self G) _).alloc _) ⟨wr.heap.size,0,none⟩ 1 1 [.int .i64 (bb:Int)] rfl rfl ?_ ?_ ?_ ?_ ?_ ?_))
                ·exact one_at _ _ _ _ (by simp)
                ·intro u hu;simp at hu;subst hu;rfl
                ·unfold maxLen;omega
                ·omega
                ·simp;omega
                intro v' w1 hown' hgrow _;rw [natInts_more,List.append_assoc] at hown';have hown2:Hid (w1.ownsRow (G+1) 3 1 v' (row ++ (ny ++ [bb])).length ((natInts (row ++ (ny ++ [bb]))).map (Value.int .i64))):=by rw [show (row ++ (ny ++ [bb])).length=row.length+ny.length+1 by simp;omega];exact hown'
                have hA2:=hide ((((uh hA1).upd (F c+1)).alloc _).grown hgrow (fun e=>by have:=((uh hown1).lt _ e).1;omega));have hB2:Below G w w1:=((hB.setCell (Nat.le_refl _) _).alloc (by simp;omega) _).grown hgrow (by simp;omega) (fun m hm=>by have:=((uh hown1).lt m hm).1;omega);clear hown' hgrow hown1 hA1 hI1 hcF hfF hcC hcw hbw;go_wp2;go_roundw;case rel=>exact ⟨_,ny ++ [bb],_,by omega,by go_num,uh hown2,uh hA2,uh hmk,hB2⟩
                case measure=>simp [intOf]
             ·have hwk':Gr.walkB (f bb)=false:=by simpa using hwk
              have ho:Gr.openB f blen g bb=false:=Gr.open_no hwk';have hsk:=hide (skip_step (uh hI1) hlt (uh hcd') hd (fun _ h=>absurd h (by rw [←uh hbb',ho];simp)));clear ho hwk;rcases (show d=0∨d=1∨d=2∨d=3 by omega) with rfl|rfl|rfl|rfl;all_goals
               simp only [Gr.dxOf,Gr.dyOf,Int.add_zero,Int.add_neg_eq_sub] at hinB hbe hat;go_wp2_with (first | (go_at_call 76;refine (refIn_any _ _ _).mono ?_;rintro e w' ⟨rfl,hw⟩;subst w') | (go_at_call 45;refine (refAt_any G _ _ _ f _ _ _ (uh hcw) (uh hf')).mono ?_;rintro e w' ⟨rfl,hw⟩;subst w') | (go_at_call 75;refine (refWalk_any _ _).mono ?_;rintro e w' ⟨rfl,hw⟩;subst w'));go_roundw;case rel=>exact ⟨_,ny,F,by omega,by go_num,uh hown1,uh hA1,uh hsk,hB⟩
               case measure=>simp [intOf]
            ·have hsk:=hide (skip_step (uh hI1) hlt (uh hcd') hd (fun _ _=>by rw [←uh hbb'];omega));rcases (show d=0∨d=1∨d=2∨d=3 by omega) with rfl|rfl|rfl|rfl;all_goals
              simp only [Gr.dxOf,Gr.dyOf,Int.add_zero,Int.add_neg_eq_sub] at hinB hbe hat;go_wp2_with (first | (go_at_call 76;refine (refIn_any _ _ _).mono ?_;rintro e w' ⟨rfl,hw⟩;subst w') | (go_at_call 45;refine (refAt_any G _ _ _ f _ _ _ (uh hcw) (uh hf')).mono ?_;rintro e w' ⟨rfl,hw⟩;subst w') | (go_at_call 75;refine (refWalk_any _ _).mono ?_;rintro e w' ⟨rfl,hw⟩;subst w'));go_roundw;case rel=>exact ⟨_,ny,F,by omega,by go_num,uh hown1,uh hA1,uh hsk,hB⟩
              case measure=>simp [intOf]
           ·have hinB:Gr.inB ((c:Int) % 24+Gr.dxOf d) ((c:Int) / 24+Gr.dyOf d)=false:=by
             cases hh:Gr.inB ((c:Int) % 24+Gr.dxOf d) ((c:Int) / 24+Gr.dyOf d) with
             | false=>rfl
             | true=>exact absurd (hiff.1 hh) hin
            have hsk:=hide (skip_step (uh hI1) hlt (uh hcd') hd (fun h _=>absurd h hin));clear hin hiff;have hat:True:=trivial;have hbe:True:=trivial;rcases (show d=0∨d=1∨d=2∨d=3 by omega) with rfl|rfl|rfl|rfl;all_goals
             simp only [Gr.dxOf,Gr.dyOf,Int.add_zero,Int.add_neg_eq_sub] at hinB hbe hat;go_wp2_with (first | (go_at_call 76;refine (refIn_any _ _ _).mono ?_;rintro e w' ⟨rfl,hw⟩;subst w') | (go_at_call 45;refine (refAt_any G _ _ _ f _ _ _ (uh hcw) (uh hf')).mono ?_;rintro e w' ⟨rfl,hw⟩;subst w') | (go_at_call 75;refine (refWalk_any _ _).mono ?_;rintro e w' ⟨rfl,hw⟩;subst w'));go_roundw;case rel=>exact ⟨_,ny,F,by omega,by go_num,uh hown1,uh hA1,uh hsk,hB⟩
             case measure=>simp [intOf]
          ·have hd':¬(d:Int)<4:=by omega
           obtain rfl:d=4:=by omega
           have hnx:Hid (Gr.Inv (fun i=>Gr.openB f blen g i=true) (Gr.tgt f t tlen) F (row ++ ny) (k+1) 0):=by
            have h:=(uh hI1).next;rw [List.nil_append,List.length_nil,Nat.zero_add] at h;exact h
           clear hI1;go_wp2;go_roundw;case rel=>exact ⟨k+1,row ++ ny,F,by simp;omega,by go_num,uh hown1,uh hA1,uh hnx,hB⟩
           case measure=>simp [intOf];omega
        ·have hge:¬(k:Int)<(row.length:Int):=by omega
         have hfin:=hide ((uh hI1).done (by omega));clear hvx;go_wp2;go_ret;exact ⟨F,⟨G,rfl,Nat.le_of_eq (uh hG').symm,uh hA1,by rw [←uh hG'];exact hB⟩,uh hfin⟩

end Go.Proofs.YtldgbkjceildfaaGreat
