import Derived.Test.YtapgkgbpekkdjaaPart06
import Derived.ScopeJumps
import Derived.WalkMore
namespace Go.Proofs.Ytapgkgbpekkdjaa
open Go.RowKit

theorem get_mid (pre ring nx:List Nat) (k:Nat) (h:k<ring.length):(pre ++ ring ++ nx)[pre.length+k]?.getD 0=ring[k]?.getD 0:=by
 rw [List.getElem?_append_left (by simp;omega),List.getElem?_append_right (by omega)]
 congr 2
 omega

theorem mark_step {op tg:Nat→Prop} {F:Nat→Int} {pre ring ny:List Nat} {k d c b:Nat} (hI:Gr.Inv op tg F (pre ++ ring ++ ny) (pre.length+k) d) (hk:k<ring.length) (hc:c=ring[k]?.getD 0) (hd:d<4)
  (hn:Gr.nbIn c d) (hb:b=Gr.nbOf c d) (ho:op b) (hneg:F b<0):Gr.Inv op tg (Gr.upd F b (F c+1)) (pre ++ ring ++ (ny ++ [b])) (pre.length+k) (d+1):=by
 have e:=get_mid pre ring ny k hk
 rw [←hc] at e
 have h:=hI.mark (fun i hi ht=>by have:=(hI.zero i hi).2 ht;omega) (by simp;omega) hd (by rw [e];exact hn) (by rw [e,←hb];exact ho) (by rw [e,←hb];exact hneg)
 rw [e,←hb,List.append_assoc] at h
 exact h

theorem skip_step {op tg:Nat→Prop} {F:Nat→Int} {pre ring ny:List Nat} {k d c:Nat} (hI:Gr.Inv op tg F (pre ++ ring ++ ny) (pre.length+k) d) (hk:k<ring.length) (hc:c=ring[k]?.getD 0) (hd:d<4)
  (hs:Gr.nbIn c d→op (Gr.nbOf c d)→0≤F (Gr.nbOf c d)):Gr.Inv op tg F (pre ++ ring ++ ny) (pre.length+k) (d+1):=by
 have e:=get_mid pre ring ny k hk
 rw [←hc] at e
 exact hI.skip (by simp;omega) hd (by rw [e];exact hs)

theorem inv_bd {op tg:Nat→Prop} {F:Nat→Int} {pre ring ny:List Nat} {k d c:Nat} (hI:Gr.Inv op tg F (pre ++ ring ++ ny) (pre.length+k) d) (hk:k<ring.length) (hc:c=ring[k]?.getD 0):0≤F c∧F c≤400∧ny.length<384:=by
 have e:=get_mid pre ring ny k hk
 rw [←hc] at e
 have h:=hI.lt (a:=pre.length+k) (by simp;omega)
 rw [e] at h
 have hl:=hI.len
 simp at hl
 refine ⟨h.2,?_,by omega⟩
 have:=hI.high (F c).toNat c h.1 (by omega)
 omega

theorem Gr.inB_nb (c d:Nat) (dx dy:Int) (hx:dx=Gr.dxOf d) (hy:dy=Gr.dyOf d):Gr.inB ((c:Int) % 24+dx) ((c:Int) / 24+dy)=true↔Gr.nbIn c d:=by
 rw [Gr.inB_iff,Gr.nbIn,hx,hy]
 omega


open Go.RowKit

def Gr.tgt (f t:Nat→Int) (tlen:Nat) (i:Nat):Prop:=Gr.walkB (f i)=true∧∃j,j<tlen∧t j=(i:Int)

theorem Gr.kind_in (f:Nat→Int) (c:Nat) (h:c<384):Gr.kind 384 f (c:Int)=f c:=by
 unfold Gr.kind
 rw [if_pos (by omega),Int.toNat_natCast]


open Go.RowKit

def IsFieldOf (w:World) (op tg:Nat→Prop) (e:Ending) (w':World):Prop:=∃F,Made w 3 384 (Ints F) e w'∧Gr.IsField op tg F

end Go.Proofs.Ytapgkgbpekkdjaa
