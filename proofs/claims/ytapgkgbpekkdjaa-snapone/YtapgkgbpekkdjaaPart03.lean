import Derived.Test.YtapgkgbpekkdjaaPart01
namespace Go.Proofs.Ytapgkgbpekkdjaa
open Go.RowKit

set_option maxHeartbeats 400000 in
theorem isCell_any (x y:Int) (w:World) :
  Calls Try.prog 80 #[.int .i64 x,.int .i64 y] w fun e w'=>e=.returned (.bool (Gr.inB x y))∧w'=w:=by
 by_cases h1:0≤x
 ·by_cases h2:x<24
  ·by_cases h3:0≤y
   ·by_cases h4:y<16
    ·have hd:=hide ((Gr.inB_iff x y).2 ⟨h1,h2,h3,h4⟩)
     go_enter Try.func80,Try.ntmps80
     go_wp2
     go_ret
     exact ⟨ret_bool (uh hd).symm,rfl⟩
    ·have hd:=hide ((Gr.inB_no x y).2 (by omega))
     go_enter Try.func80,Try.ntmps80
     go_wp2
     go_ret
     exact ⟨ret_bool (uh hd).symm,rfl⟩
   ·have hd:=hide ((Gr.inB_no x y).2 (by omega))
    go_enter Try.func80,Try.ntmps80
    go_wp2
    go_ret
    exact ⟨ret_bool (uh hd).symm,rfl⟩
  ·have hd:=hide ((Gr.inB_no x y).2 (by omega))
   go_enter Try.func80,Try.ntmps80
   go_wp2
   go_ret
   exact ⟨ret_bool (uh hd).symm,rfl⟩
 ·have hd:=hide ((Gr.inB_no x y).2 (by omega))
  go_enter Try.func80,Try.ntmps80
  go_wp2
  go_ret
  exact ⟨ret_bool (uh hd).symm,rfl⟩

set_option maxHeartbeats 400000 in
theorem refIn_any (x y:Int) (w:World) :
  Calls Try.prog 78 #[.int .i64 x,.int .i64 y] w fun e w'=>e=.returned (.bool (Gr.inB x y))∧w'=w:=by
 by_cases h1:0≤x
 ·by_cases h2:x<24
  ·by_cases h3:0≤y
   ·by_cases h4:y<16
    ·have hd:=hide ((Gr.inB_iff x y).2 ⟨h1,h2,h3,h4⟩)
     go_enter Try.func78,Try.ntmps78
     go_wp2
     go_ret
     exact ⟨ret_bool (uh hd).symm,rfl⟩
    ·have hd:=hide ((Gr.inB_no x y).2 (by omega))
     go_enter Try.func78,Try.ntmps78
     go_wp2
     go_ret
     exact ⟨ret_bool (uh hd).symm,rfl⟩
   ·have hd:=hide ((Gr.inB_no x y).2 (by omega))
    go_enter Try.func78,Try.ntmps78
    go_wp2
    go_ret
    exact ⟨ret_bool (uh hd).symm,rfl⟩
  ·have hd:=hide ((Gr.inB_no x y).2 (by omega))
   go_enter Try.func78,Try.ntmps78
   go_wp2
   go_ret
   exact ⟨ret_bool (uh hd).symm,rfl⟩
 ·have hd:=hide ((Gr.inB_no x y).2 (by omega))
  go_enter Try.func78,Try.ntmps78
  go_wp2
  go_ret
  exact ⟨ret_bool (uh hd).symm,rfl⟩

theorem number_any (x y:Int) (w:World) (h1:-1000≤x) (h2:x≤1000) (h3:-1000≤y) (h4:y≤1000) :
  Calls Try.prog 81 #[.int .i64 x,.int .i64 y] w fun e w'=>e=.returned (.int .i64 (y*24+x))∧w'=w:=by
 go_enter Try.func81,Try.ntmps81
 go_wp2
 go_ret
 exact ⟨rfl,rfl⟩

set_option maxHeartbeats 800000 in
theorem at_any (B:Nat) (a:Option Addr) (len cap:Nat) (f:Nat→Int) (x y:Int) (w:World) (h:Vec B w a len (Byts f)) (hf:∀i,0≤f i∧f i≤255) :
  Calls Try.prog 72 #[.slice a len cap,.int .i64 x,.int .i64 y] w fun e w'=>e=.returned (.int .i64 (Gr.at len f x y))∧w'=w:=by
 have hm:len≤9223372036854775807:=h.1
 by_cases hin:Gr.inB x y=true
 ·obtain ⟨h1,h2,h3,h4⟩:=(Gr.inB_iff x y).1 hin
  obtain ⟨k,hk⟩:∃k:Nat,y*24+x=(k:Int):=⟨(y*24+x).toNat,by omega⟩
  by_cases hl:k<len
  ·have hd:Hid (Gr.at len f x y=f k):=by
    show Gr.at len f x y=f k
    unfold Gr.at
    rw [if_pos ⟨hin,by omega⟩,hk,Int.toNat_natCast]
   obtain ⟨b,off,rfl,_,hc⟩:=h.at hl
   have hc':w.cell? ⟨b,off+k,none⟩=some (.int .u8 (f k)):=hc
   have hfk:=hf k
   obtain ⟨hf1,hf2⟩:=hfk
   have hl':(k:Int)<(len:Int):=by omega
   clear hc h hf
   go_enter Try.func72,Try.ntmps72
   go_wp2_with (first | (go_at_call 80;refine (isCell_any _ _ _).mono ?_;rintro e w' ⟨rfl,rfl⟩) | (go_at_call 81;refine (number_any _ _ _ (by omega) (by omega) (by omega) (by omega)).mono ?_;rintro e w' ⟨rfl,rfl⟩))
   go_ret
   exact ⟨rti (uh hd).symm,rfl⟩
  ·have hd:Hid (Gr.at len f x y=0):=by
    show Gr.at len f x y=0
    unfold Gr.at
    rw [if_neg]
    rintro ⟨_,h⟩
    omega
   have hl':(len:Int)≤(k:Int):=by omega
   clear h hf
   go_enter Try.func72,Try.ntmps72
   go_wp2_with (first | (go_at_call 80;refine (isCell_any _ _ _).mono ?_;rintro e w' ⟨rfl,rfl⟩) | (go_at_call 81;refine (number_any _ _ _ (by omega) (by omega) (by omega) (by omega)).mono ?_;rintro e w' ⟨rfl,rfl⟩))
   go_ret
   exact ⟨rti (uh hd).symm,rfl⟩
 ·have hin':Gr.inB x y=false:=by simpa using hin
  have hd:Hid (Gr.at len f x y=0):=by
   show Gr.at len f x y=0
   unfold Gr.at
   rw [if_neg]
   rintro ⟨h,_⟩
   exact hin h
  clear hin h hf
  go_enter Try.func72,Try.ntmps72
  go_wp2_with (first | (go_at_call 80;refine (isCell_any _ _ _).mono ?_;rintro e w' ⟨rfl,rfl⟩))
  go_ret
  exact ⟨rti (uh hd).symm,rfl⟩

set_option maxHeartbeats 800000 in
theorem refAt_any (B:Nat) (a:Option Addr) (len cap:Nat) (f:Nat→Int) (x y:Int) (w:World) (h:Vec B w a len (Byts f)) (hf:∀i,0≤f i∧f i≤255) :
  Calls Try.prog 56 #[.slice a len cap,.int .i64 x,.int .i64 y] w fun e w'=>e=.returned (.int .i64 (Gr.at len f x y))∧w'=w:=by
 have hm:len≤9223372036854775807:=h.1
 by_cases hin:Gr.inB x y=true
 ·obtain ⟨h1,h2,h3,h4⟩:=(Gr.inB_iff x y).1 hin
  obtain ⟨k,hk⟩:∃k:Nat,y*24+x=(k:Int):=⟨(y*24+x).toNat,by omega⟩
  by_cases hl:k<len
  ·have hd:Hid (Gr.at len f x y=f k):=by
    show Gr.at len f x y=f k
    unfold Gr.at
    rw [if_pos ⟨hin,by omega⟩,hk,Int.toNat_natCast]
   obtain ⟨b,off,rfl,_,hc⟩:=h.at hl
   have hc':w.cell? ⟨b,off+k,none⟩=some (.int .u8 (f k)):=hc
   have hfk:=hf k
   obtain ⟨hf1,hf2⟩:=hfk
   have hl':(k:Int)<(len:Int):=by omega
   clear hc h hf
   go_enter Try.func56,Try.ntmps56
   go_wp2_with (first | (go_at_call 78;refine (refIn_any _ _ _).mono ?_;rintro e w' ⟨rfl,rfl⟩))
   go_ret
   exact ⟨rti (uh hd).symm,rfl⟩
  ·have hd:Hid (Gr.at len f x y=0):=by
    show Gr.at len f x y=0
    unfold Gr.at
    rw [if_neg]
    rintro ⟨_,h⟩
    omega
   have hl':(len:Int)≤(k:Int):=by omega
   clear h hf
   go_enter Try.func56,Try.ntmps56
   go_wp2_with (first | (go_at_call 78;refine (refIn_any _ _ _).mono ?_;rintro e w' ⟨rfl,rfl⟩))
   go_ret
   exact ⟨rti (uh hd).symm,rfl⟩
 ·have hin':Gr.inB x y=false:=by simpa using hin
  have hd:Hid (Gr.at len f x y=0):=by
   show Gr.at len f x y=0
   unfold Gr.at
   rw [if_neg]
   rintro ⟨h,_⟩
   exact hin h
  clear hin h hf
  go_enter Try.func56,Try.ntmps56
  go_wp2_with (first | (go_at_call 78;refine (refIn_any _ _ _).mono ?_;rintro e w' ⟨rfl,rfl⟩))
  go_ret
  exact ⟨rti (uh hd).symm,rfl⟩

set_option maxHeartbeats 400000 in
theorem walk_any (k:Int) (w:World) :
  Calls Try.prog 71 #[.int .i64 k] w fun e w'=>e=.returned (.bool (Gr.walkB k))∧w'=w:=by
 by_cases h:k=1∨k=2∨k=3∨k=4∨k=5
 ·rcases h with rfl | rfl | rfl | rfl | rfl
  all_goals
   go_enter Try.func71,Try.ntmps71
   go_wp2
   go_ret
   exact ⟨rfl,rfl⟩
 ·have e1:(k == 1)=false:=by simp;omega
  have e2:(k == 2)=false:=by simp;omega
  have e3:(k == 3)=false:=by simp;omega
  have e4:(k == 4)=false:=by simp;omega
  have e5:(k == 5)=false:=by simp;omega
  have hd:Hid (Gr.walkB k=false):=by show Gr.walkB k=false;simp only [Gr.walkB,decide_eq_false_iff_not];omega
  clear h
  go_enter Try.func71,Try.ntmps71
  go_wp2
  go_ret
  exact ⟨ret_bool (uh hd).symm,rfl⟩

set_option maxHeartbeats 400000 in
theorem refWalk_any (k:Int) (w:World) :
  Calls Try.prog 20 #[.int .i64 k] w fun e w'=>e=.returned (.bool (Gr.walkB k))∧w'=w:=by
 by_cases h1:1≤k
 ·by_cases h2:k≤5
  ·have hd:=hide ((Gr.walkB_iff k).2 ⟨h1,h2⟩)
   go_enter Try.func20,Try.ntmps20
   go_wp2
   go_ret
   exact ⟨ret_bool (uh hd).symm,rfl⟩
  ·have hd:Hid (Gr.walkB k=false):=by show Gr.walkB k=false;simp only [Gr.walkB,decide_eq_false_iff_not];omega
   go_enter Try.func20,Try.ntmps20
   go_wp2
   go_ret
   exact ⟨ret_bool (uh hd).symm,rfl⟩
 ·have hd:Hid (Gr.walkB k=false):=by show Gr.walkB k=false;simp only [Gr.walkB,decide_eq_false_iff_not];omega
  go_enter Try.func20,Try.ntmps20
  go_wp2
  go_ret
  exact ⟨ret_bool (uh hd).symm,rfl⟩

end Go.Proofs.Ytapgkgbpekkdjaa
