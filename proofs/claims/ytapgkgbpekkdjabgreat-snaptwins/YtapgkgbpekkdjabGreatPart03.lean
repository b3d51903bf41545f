import Derived.Test.YtapgkgbpekkdjabGreatPart01
namespace Go.Proofs.YtapgkgbpekkdjabGreat
open Go.RowKit

set_option maxHeartbeats 400000 in
theorem isCell_any (x y:Int) (w:World) :
  Calls Tryz.prog 101 #[.int .i64 x,.int .i64 y] w fun e w'=>e=.returned (.bool (Gr.inB x y))∧w'=w:=by
 by_cases h1:0≤x
 ·by_cases h2:x<24
  ·by_cases h3:0≤y
   ·by_cases h4:y<16
    ·have hd:=hide ((Gr.inB_iff x y).2 ⟨h1,h2,h3,h4⟩)
     go_enter Tryz.func101,Tryz.ntmps101
     go_wp2
     go_ret
     exact ⟨ret_bool (uh hd).symm,rfl⟩
    ·have hd:=hide ((Gr.inB_no x y).2 (by omega))
     go_enter Tryz.func101,Tryz.ntmps101
     go_wp2
     go_ret
     exact ⟨ret_bool (uh hd).symm,rfl⟩
   ·have hd:=hide ((Gr.inB_no x y).2 (by omega))
    go_enter Tryz.func101,Tryz.ntmps101
    go_wp2
    go_ret
    exact ⟨ret_bool (uh hd).symm,rfl⟩
  ·have hd:=hide ((Gr.inB_no x y).2 (by omega))
   go_enter Tryz.func101,Tryz.ntmps101
   go_wp2
   go_ret
   exact ⟨ret_bool (uh hd).symm,rfl⟩
 ·have hd:=hide ((Gr.inB_no x y).2 (by omega))
  go_enter Tryz.func101,Tryz.ntmps101
  go_wp2
  go_ret
  exact ⟨ret_bool (uh hd).symm,rfl⟩

set_option maxHeartbeats 400000 in
theorem refIn_any (x y:Int) (w:World) :
  Calls Tryz.prog 67 #[.int .i64 x,.int .i64 y] w fun e w'=>e=.returned (.bool (Gr.inB x y))∧w'=w:=by
 by_cases h1:0≤x
 ·by_cases h2:x<24
  ·by_cases h3:0≤y
   ·by_cases h4:y<16
    ·have hd:=hide ((Gr.inB_iff x y).2 ⟨h1,h2,h3,h4⟩)
     go_enter Tryz.func67,Tryz.ntmps67
     go_wp2
     go_ret
     exact ⟨ret_bool (uh hd).symm,rfl⟩
    ·have hd:=hide ((Gr.inB_no x y).2 (by omega))
     go_enter Tryz.func67,Tryz.ntmps67
     go_wp2
     go_ret
     exact ⟨ret_bool (uh hd).symm,rfl⟩
   ·have hd:=hide ((Gr.inB_no x y).2 (by omega))
    go_enter Tryz.func67,Tryz.ntmps67
    go_wp2
    go_ret
    exact ⟨ret_bool (uh hd).symm,rfl⟩
  ·have hd:=hide ((Gr.inB_no x y).2 (by omega))
   go_enter Tryz.func67,Tryz.ntmps67
   go_wp2
   go_ret
   exact ⟨ret_bool (uh hd).symm,rfl⟩
 ·have hd:=hide ((Gr.inB_no x y).2 (by omega))
  go_enter Tryz.func67,Tryz.ntmps67
  go_wp2
  go_ret
  exact ⟨ret_bool (uh hd).symm,rfl⟩

theorem number_any (x y:Int) (w:World) (h1:-1000≤x) (h2:x≤1000) (h3:-1000≤y) (h4:y≤1000) :
  Calls Tryz.prog 102 #[.int .i64 x,.int .i64 y] w fun e w'=>e=.returned (.int .i64 (y*24+x))∧w'=w:=by
 go_enter Tryz.func102,Tryz.ntmps102
 go_wp2
 go_ret
 exact ⟨rfl,rfl⟩

set_option maxHeartbeats 800000 in
theorem at_any (B:Nat) (a:Option Addr) (len cap:Nat) (f:Nat→Int) (x y:Int) (w:World) (h:Vec B w a len (Byts f)) (hf:∀i,0≤f i∧f i≤255) :
  Calls Tryz.prog 93 #[.slice a len cap,.int .i64 x,.int .i64 y] w fun e w'=>e=.returned (.int .i64 (Gr.at len f x y))∧w'=w:=by
 have hm:len≤9223372036854775807:=h.1
 by_cases hin:Gr.inB x y=true
 ·obtain ⟨h1,h2,h3,h4⟩:=(Gr.inB_iff x y).1 hin
  obtain ⟨k,hk⟩:∃k:Nat,y*24+x=(k:Int):=⟨(y*24+x).toNat,by omega⟩
  by_cases hl:k<len
  ·have hd:Hid (Gr.at len f x y=f k):=by
    show Gr.at len f x y=f k
    unfold Gr.at
    rw [if_pos ⟨hin,by omega⟩,hk,Int.toNat_natCast]
   obtain ⟨b,off,rfl,_,hc⟩:=h.at hl
   have hc':w.cell? ⟨b,off+k,none⟩=some (.int .u8 (f k)):=hc
   have hfk:=hf k
   obtain ⟨hf1,hf2⟩:=hfk
   have hl':(k:Int)<(len:Int):=by omega
   clear hc h hf
   go_enter Tryz.func93,Tryz.ntmps93
   go_wp2_with (first | (go_at_call 101;refine (isCell_any _ _ _).mono ?_;rintro e w' ⟨rfl,rfl⟩) | (go_at_call 102;refine (number_any _ _ _ (by omega) (by omega) (by omega) (by omega)).mono ?_;rintro e w' ⟨rfl,rfl⟩))
   go_ret
   exact ⟨rti (uh hd).symm,rfl⟩
  ·have hd:Hid (Gr.at len f x y=0):=by
    show Gr.at len f x y=0
    unfold Gr.at
    rw [if_neg]
    rintro ⟨_,h⟩
    omega
   have hl':(len:Int)≤(k:Int):=by omega
   clear h hf
   go_enter Tryz.func93,Tryz.ntmps93
   go_wp2_with (first | (go_at_call 101;refine (isCell_any _ _ _).mono ?_;rintro e w' ⟨rfl,rfl⟩) | (go_at_call 102;refine (number_any _ _ _ (by omega) (by omega) (by omega) (by omega)).mono ?_;rintro e w' ⟨rfl,rfl⟩))
   go_ret
   exact ⟨rti (uh hd).symm,rfl⟩
 ·have hin':Gr.inB x y=false:=by simpa using hin
  have hd:Hid (Gr.at len f x y=0):=by
   show Gr.at len f x y=0
   unfold Gr.at
   rw [if_neg]
   rintro ⟨h,_⟩
   exact hin h
  clear hin h hf
  go_enter Tryz.func93,Tryz.ntmps93
  go_wp2_with (first | (go_at_call 101;refine (isCell_any _ _ _).mono ?_;rintro e w' ⟨rfl,rfl⟩))
  go_ret
  exact ⟨rti (uh hd).symm,rfl⟩

set_option maxHeartbeats 800000 in
theorem refAt_any (B:Nat) (a:Option Addr) (len cap:Nat) (f:Nat→Int) (x y:Int) (w:World) (h:Vec B w a len (Byts f)) (hf:∀i,0≤f i∧f i≤255) :
  Calls Tryz.prog 35 #[.slice a len cap,.int .i64 x,.int .i64 y] w fun e w'=>e=.returned (.int .i64 (Gr.at len f x y))∧w'=w:=by
 have hm:len≤9223372036854775807:=h.1
 by_cases hin:Gr.inB x y=true
 ·obtain ⟨h1,h2,h3,h4⟩:=(Gr.inB_iff x y).1 hin
  obtain ⟨k,hk⟩:∃k:Nat,y*24+x=(k:Int):=⟨(y*24+x).toNat,by omega⟩
  by_cases hl:k<len
  ·have hd:Hid (Gr.at len f x y=f k):=by
    show Gr.at len f x y=f k
    unfold Gr.at
    rw [if_pos ⟨hin,by omega⟩,hk,Int.toNat_natCast]
   obtain ⟨b,off,rfl,_,hc⟩:=h.at hl
   have hc':w.cell? ⟨b,off+k,none⟩=some (.int .u8 (f k)):=hc
   have hfk:=hf k
   obtain ⟨hf1,hf2⟩:=hfk
   have hl':(k:Int)<(len:Int):=by omega
   clear hc h hf
   go_enter Tryz.func35,Tryz.ntmps35
   go_wp2_with (first | (go_at_call 67;refine (refIn_any _ _ _).mono ?_;rintro e w' ⟨rfl,rfl⟩))
   go_ret
   exact ⟨rti (uh hd).symm,rfl⟩
  ·have hd:Hid (Gr.at len f x y=0):=by
    show Gr.at len f x y=0
    unfold Gr.at
    rw [if_neg]
    rintro ⟨_,h⟩
    omega
   have hl':(len:Int)≤(k:Int):=by omega
   clear h hf
   go_enter Tryz.func35,Tryz.ntmps35
   go_wp2_with (first | (go_at_call 67;refine (refIn_any _ _ _).mono ?_;rintro e w' ⟨rfl,rfl⟩))
   go_ret
   exact ⟨rti (uh hd).symm,rfl⟩
 ·have hin':Gr.inB x y=false:=by simpa using hin
  have hd:Hid (Gr.at len f x y=0):=by
   show Gr.at len f x y=0
   unfold Gr.at
   rw [if_neg]
   rintro ⟨h,_⟩
   exact hin h
  clear hin h hf
  go_enter Tryz.func35,Tryz.ntmps35
  go_wp2_with (first | (go_at_call 67;refine (refIn_any _ _ _).mono ?_;rintro e w' ⟨rfl,rfl⟩))
  go_ret
  exact ⟨rti (uh hd).symm,rfl⟩

set_option maxHeartbeats 400000 in
theorem walk_any (k:Int) (w:World) :
  Calls Tryz.prog 92 #[.int .i64 k] w fun e w'=>e=.returned (.bool (Gr.walkB k))∧w'=w:=by
 by_cases h:k=1∨k=2∨k=3∨k=4∨k=5
 ·rcases h with rfl | rfl | rfl | rfl | rfl
  all_goals
   go_enter Tryz.func92,Tryz.ntmps92
   go_wp2
   go_ret
   exact ⟨rfl,rfl⟩
 ·have e1:(k == 1)=false:=by simp;omega
  have e2:(k == 2)=false:=by simp;omega
  have e3:(k == 3)=false:=by simp;omega
  have e4:(k == 4)=false:=by simp;omega
  have e5:(k == 5)=false:=by simp;omega
  have hd:Hid (Gr.walkB k=false):=by show Gr.walkB k=false;simp only [Gr.walkB,decide_eq_false_iff_not];omega
  clear h
  go_enter Tryz.func92,Tryz.ntmps92
  go_wp2
  go_ret
  exact ⟨ret_bool (uh hd).symm,rfl⟩

set_option maxHeartbeats 400000 in
theorem refWalk_any (k:Int) (w:World) :
  Calls Tryz.prog 66 #[.int .i64 k] w fun e w'=>e=.returned (.bool (Gr.walkB k))∧w'=w:=by
 by_cases h1:1≤k
 ·by_cases h2:k≤5
  ·have hd:=hide ((Gr.walkB_iff k).2 ⟨h1,h2⟩)
   go_enter Tryz.func66,Tryz.ntmps66
   go_wp2
   go_ret
   exact ⟨ret_bool (uh hd).symm,rfl⟩
  ·have hd:Hid (Gr.walkB k=false):=by show Gr.walkB k=false;simp only [Gr.walkB,decide_eq_false_iff_not];omega
   go_enter Tryz.func66,Tryz.ntmps66
   go_wp2
   go_ret
   exact ⟨ret_bool (uh hd).symm,rfl⟩
 ·have hd:Hid (Gr.walkB k=false):=by show Gr.walkB k=false;simp only [Gr.walkB,decide_eq_false_iff_not];omega
  go_enter Tryz.func66,Tryz.ntmps66
  go_wp2
  go_ret
  exact ⟨ret_bool (uh hd).symm,rfl⟩

theorem Gr.clear_of_no {k:Int} (h:Gr.walkB k=false):Gr.clearB k=false:=by
 simp only [Gr.walkB,Gr.clearB,decide_eq_false_iff_not] at *;omega

theorem Gr.clear_of_yes {k:Int} (h:Gr.walkB k=true):Gr.clearB k=(k != 2):=by
 simp only [Gr.walkB,decide_eq_true_eq] at h
 rw [Bool.eq_iff_iff]
 simp [Gr.clearB];omega

set_option maxHeartbeats 400000 in
theorem refClear_any (k:Int) (w:World) :
  Calls Tryz.prog 88 #[.int .i64 k] w fun e w'=>e=.returned (.bool (Gr.clearB k))∧w'=w:=by
 by_cases h:Gr.walkB k=true
 ·have hd:=hide (Gr.clear_of_yes h)
  go_enter Tryz.func88,Tryz.ntmps88
  go_wp2_with (go_at_call 66;refine (refWalk_any _ _).mono ?_;rintro e w' ⟨rfl,rfl⟩)
  go_ret
  exact ⟨ret_bool (uh hd).symm,rfl⟩
 ·have h':Gr.walkB k=false:=by simpa using h
  have hd:=hide (Gr.clear_of_no h')
  clear h
  go_enter Tryz.func88,Tryz.ntmps88
  go_wp2_with (go_at_call 66;refine (refWalk_any _ _).mono ?_;rintro e w' ⟨rfl,rfl⟩)
  go_ret
  exact ⟨ret_bool (uh hd).symm,rfl⟩

theorem Gr.near_neg (p n:Int) (hn:0<n) (h:(2*p+n).tmod (2*n)<0):(2*p+n).tdiv (2*n) - 1=Gr.near p n:=by
 unfold Gr.near
 have h0:=Int.mul_tdiv_add_tmod (2*p+n) (2*n)
 have h1:=Int.mul_ediv_add_emod (2*p+n) (2*n)
 have h2:=Int.emod_nonneg (2*p+n) (b:=2*n) (by omega)
 have h3:=Int.emod_lt_of_pos (2*p+n) (b:=2*n) (by omega)
 have h4:=Int.lt_tmod_of_pos (2*p+n) (b:=2*n) (by omega)
 generalize (2*p+n).tdiv (2*n)=q at *
 generalize (2*p+n) / (2*n)=r at *
 generalize (2*p+n).tmod (2*n)=s at *
 generalize (2*p+n) % (2*n)=t at *
 have:(2*n)*(q - 1)=(2*n)*q - 2*n:=by rw [Int.mul_sub,Int.mul_one]
 have e:(2*n)*(q - 1 - r)=t - s - 2*n:=by rw [Int.mul_sub];omega
 rcases Int.lt_trichotomy (q - 1 - r) 0 with g | g | g
 ·have:(2*n)*(q - 1 - r)≤(2*n)*(-1):=Int.mul_le_mul_of_nonneg_left (by omega) (by omega)
  omega
 ·omega
 ·have:(2*n)*1≤(2*n)*(q - 1 - r):=Int.mul_le_mul_of_nonneg_left (by omega) (by omega)
  omega

theorem Gr.near_pos (p n:Int) (hn:0<n) (h:¬(2*p+n).tmod (2*n)<0):(2*p+n).tdiv (2*n)=Gr.near p n:=by
 unfold Gr.near
 have h0:=Int.mul_tdiv_add_tmod (2*p+n) (2*n)
 have h1:=Int.mul_ediv_add_emod (2*p+n) (2*n)
 have h2:=Int.emod_nonneg (2*p+n) (b:=2*n) (by omega)
 have h3:=Int.emod_lt_of_pos (2*p+n) (b:=2*n) (by omega)
 have h4:=Int.tmod_lt_of_pos (2*p+n) (b:=2*n) (by omega)
 generalize (2*p+n).tdiv (2*n)=q at *
 generalize (2*p+n) / (2*n)=r at *
 generalize (2*p+n).tmod (2*n)=s at *
 generalize (2*p+n) % (2*n)=t at *
 have e:(2*n)*(q - r)=t - s:=by rw [Int.mul_sub];omega
 rcases Int.lt_trichotomy (q - r) 0 with g | g | g
 ·have:(2*n)*(q - r)≤(2*n)*(-1):=Int.mul_le_mul_of_nonneg_left (by omega) (by omega)
  omega
 ·omega
 ·have:(2*n)*1≤(2*n)*(q - r):=Int.mul_le_mul_of_nonneg_left (by omega) (by omega)
  omega

theorem Gr.tdiv_bd (p n:Int) (h1:-1000≤p) (h2:p≤1000) (h3:n≤100) (h4:0<n):-2100≤(2*p+n).tdiv (2*n)∧(2*p+n).tdiv (2*n)≤2100:=by
 have h:((2*p+n).tdiv (2*n)).natAbs≤(2*p+n).natAbs:=by
  rw [Int.natAbs_tdiv]
  exact Nat.div_le_self _ _
 omega

set_option maxHeartbeats 400000 in
theorem off_any (p n:Int) (w:World) (h1:-1000≤p) (h2:p≤1000) (h3:n≤100) (h4:0<n) :
  Calls Tryz.prog 99 #[.int .i64 p,.int .i64 n] w fun e w'=>e=.returned (.int .i64 (Gr.near p n))∧w'=w:=by
 obtain ⟨b1,b2⟩:=Gr.tdiv_bd p n h1 h2 h3 h4
 by_cases hs:0≤2*p+n
 ·have e:(2*p+n).tmod (2*n)=(2*p+n) % (2*n):=Int.tmod_eq_emod_of_nonneg hs
  have hn:=Int.emod_nonneg (2*p+n) (b:=2*n) (by omega)
  have hd:=hide (Gr.near_pos p n h4 (by omega))
  have e2:(2*p+n).tdiv (2*n)=(2*p+n) / (2*n):=Int.tdiv_eq_ediv_of_nonneg hs
  rw [e2] at b1 b2
  clear e e2
  go_enter Tryz.func99,Tryz.ntmps99
  go_wp2
  go_ret
  exact ⟨rti rfl,rfl⟩
 ·by_cases hn:(2*p+n).tmod (2*n)<0
  ·have hd:=hide (Gr.near_neg p n h4 hn)
   go_enter Tryz.func99,Tryz.ntmps99
   go_wp2
   go_ret
   exact ⟨rti (uh hd),rfl⟩
  ·have hd:=hide (Gr.near_pos p n h4 hn)
   go_enter Tryz.func99,Tryz.ntmps99
   go_wp2
   go_ret
   exact ⟨rti (uh hd),rfl⟩

end Go.Proofs.YtapgkgbpekkdjabGreat
