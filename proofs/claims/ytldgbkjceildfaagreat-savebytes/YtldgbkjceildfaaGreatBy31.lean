import Derived.Test.YtldgbkjceildfaaGreatBy26
import Derived.Test.YtldgbkjceildfaaGreatBy30
namespace Go.Proofs.YtldgbkjceildfaaGreat

theorem Sn.ent_sane {c:Nat→Int} {E I:Nat→Nat→Int} (hS:Cr.Sane c E I) {k:Nat} (hk:k<32):Sn.entC c E k=0:=by
 have hr:=hS.fit.rows k hk;have g0:=hr.1;have g1:=hr.2.1;unfold Sn.entC;by_cases h0:E k 0=0
 ·have hz:∀j,j≠1→j<11→E k j=0:=fun j j1 hj=>by
   rcases hr.2.2 with hz|ht
   ·exact hz j hj j1
   ·omega
  have hf:Sn.freeB (E k)=true:=by
   unfold Sn.freeB;rw [decide_eq_true_eq];exact ⟨hz 2 (by omega) (by omega),hz 3 (by omega) (by omega),hz 4 (by omega) (by omega),hz 5 (by omega) (by omega),hz 6 (by omega) (by omega),hz 7 (by omega) (by omega),hz 8 (by omega) (by omega),hz 9 (by omega) (by omega),hz 10 (by omega) (by omega)⟩
  rw [if_pos (by omega),if_pos ⟨g0,g1⟩,if_pos h0,if_pos hf]
 ·have ht:=hr.taken h0;have hbo:=hS.set.born k hk h0;obtain ⟨p1,p2,p3,p4,p5⟩:=hS.set.stands.on k hk h0;have h1:Sn.soundB (E k)=true:=by
   unfold Sn.soundB;rw [decide_eq_true_eq];exact ⟨hbo.1,hbo.2.1,hbo.2.2,by omega,by omega,by omega,by omega,by omega,by omega⟩
  have h2:Sn.aloneB c E k=true:=by
   unfold Sn.aloneB;have hat:Gr.at 384 c (E k 3) (E k 4)=c (E k 4*24+E k 3).toNat:=Gr.at_in ((Gr.inB_iff _ _).2 (by omega)) (by omega);rw [hat,p5,Bool.true_and,decide_eq_true_eq];exact En.first_none fun j hj=>by
    by_cases e:E j 0=0
    ·simp [En.atQ,e]
    ·by_cases x3:E j 3=E k 3
     ·by_cases x4:E j 4=E k 4
      ·have:=hS.set.stands.apart j k (by omega) hk e h0 x3 x4;omega
      ·simp [En.atQ,x4]
     ·simp [En.atQ,x3]
  have h3:Sn.seatedB E k=true:=by
   unfold Sn.seatedB;by_cases k1:E k 0=1
   ·rw [if_pos k1,decide_eq_true_eq];have hs:=hS.seats.seat k hk k1;refine ⟨by omega,by omega,En.first_none fun j hj=>?_⟩;by_cases e:E j 0=1
    ·by_cases x:E j 2=E k 2
     ·have:=hS.seats.one j k (by omega) hk e k1 x;omega
     ·simp [En.heroQ,x]
    ·simp [En.heroQ,e]
   ·rw [if_neg k1,decide_eq_true_eq];exact hS.seats.none k hk h0 k1
  rw [if_pos (by omega),if_pos ⟨g0,g1⟩,if_neg h0,if_pos ⟨h1,h2,h3⟩]

theorem Sn.head_good {s g c:Nat→Int} {E I:Nat→Nat→Int} (hG:Cr.Good ⟨s,g,c,E,I⟩) (a1:0≤s 1) (a2:s 1<1073741824):Sn.headB s g=true:=by
 have f1:1≤s 2:=hG.f1;have f3:s 2≤3:=hG.f3;have s0:0≤s 3:=hG.s0;have s2:s 3≤2:=hG.s2;unfold Sn.headB Sn.numB;rw [Bool.and_eq_true,decide_eq_true_eq];refine ⟨Sn.goldsB_of fun t ht=>?_,⟨a1,a2,f1,f3,s0,s2⟩⟩;unfold Sn.goldB;rw [decide_eq_true_eq];exact hG.gold t ht

theorem Sn.chk_good {s g c:Nat→Int} {E I:Nat→Nat→Int} (hG:Cr.Good ⟨s,g,c,E,I⟩) (a1:0≤s 1) (a2:s 1<1073741824):Sn.Chk s g c E I 0:=by
 obtain ⟨u,hu,hfu,hcu,hu1⟩:=Cr.up_stair hG.floor;obtain ⟨u',d,hu'',hd,h3,h4⟩:=hG.floor.stairs;unfold Sn.Chk;rw [if_pos (Sn.head_good hG a1 a2),if_pos (Sn.mx_le.2 fun i _=>(hG.floor.five i).2),if_pos ⟨Sn.cnt_one hcu hu (fun i _ e=>hu1 i e),Sn.cnt_one ((h4 d).2 rfl) hd (fun i _ e=>(h4 i).1 e)⟩,if_pos (Sn.rowC_zero fun k hk=>Sn.ent_sane hG.sane hk)];exact .inl ⟨rfl,hG.sane.fit.ok⟩


open Go.RowKit

theorem Sn.placed_small {c r:Nat→Int} (h:Gd.Placed c r):(0≤r 0∧r 0≤255)∧(0≤r 1∧r 1≤255)∧(0≤r 2∧r 2≤255)∧0≤r 3∧r 3≤255:=by
 obtain ⟨h1,h2,h|h|h|h⟩:=h
 ·have:=(Gr.inB_iff _ _).1 h.2.1;omega
 ·omega
 ·omega
 ·omega

end Go.Proofs.YtldgbkjceildfaaGreat
