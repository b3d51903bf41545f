import Derived.Test.YtapgkgbpekkdjaaPart03
namespace Go.Proofs.Ytapgkgbpekkdjaa
open Go.RowKit

def Gr.kind (len:Nat) (f:Nat→Int) (c:Int):Int:=if 0≤c∧c<384∧c.toNat<len then f c.toNat else 0

theorem Gr.kind_at (len:Nat) (f:Nat→Int) (c:Int) (h:0≤c):Gr.at len f (c % 24) (c / 24)=Gr.kind len f c:=by
 have e:c / 24*24+c % 24=c:=by omega
 have hi:=Gr.inB_iff (c % 24) (c / 24)
 unfold Gr.at Gr.kind
 rw [e]
 by_cases hc:c<384∧c.toNat<len
 ·rw [if_pos ⟨hi.2 (by omega),hc.2⟩,if_pos ⟨h,hc⟩]
 ·rw [if_neg (fun hh=>hc ⟨by have:=hi.1 hh.1;omega,hh.2⟩),if_neg (by omega)]

def Gr.find (len:Nat) (f:Nat→Int) (kind:Int):Int:=Gr.findFrom f kind (min len 384) 0

theorem Gr.find_on (f:Nat→Int) (kind:Int) (n k:Nat) (hk:k<n):Gr.findFrom f kind (n - k) k=if f k=kind then (k:Int) else Gr.findFrom f kind (n - (k+1)) (k+1):=by
 obtain ⟨m,hm⟩:∃m,n - k=m+1:=⟨n - k - 1,by omega⟩
 rw [hm,show n - (k+1)=m by omega]
 rfl

theorem Gr.find_off (f:Nat→Int) (kind:Int) (n:Nat):Gr.findFrom f kind (n - n) n=-1:=by
 rw [Nat.sub_self];rfl

set_option maxHeartbeats 800000 in
theorem refFind_any (B:Nat) (a:Option Addr) (len cap:Nat) (f:Nat→Int) (kind:Int) (w:World) (h:Vec B w a len (Byts f)) (hf:∀i,0≤f i∧f i≤255) :
  Calls Try.prog 45 #[.slice a len cap,.int .i64 kind] w fun e w'=>e=.returned (.int .i64 (Gr.find len f kind))∧w'=w:=by
 have hm:len≤9223372036854775807:=h.1
 have hf':=hide hf
 have hv:=hide h
 obtain ⟨n,hn⟩:∃n:Nat,n=min len 384:=⟨_,rfl⟩
 have hR:Hid (Gr.find len f kind=Gr.findFrom f kind (n - 0) 0):=by
  show Gr.find len f kind=_
  unfold Gr.find
  rw [hn]
  rfl
 have hn1:n≤len:=by omega
 have hn2:n≤384:=by omega
 have hn3:¬n<len→n=len:=by omega
 have hN:=hide hn
 clear hf h hn
 go_enter Try.func45,Try.ntmps45
 go_wp2_with fail
 go_loop [5] (fun i=>∃k:Nat,k≤n∧i=.int .i64 k∧Gr.findFrom f kind (n - k) k=Gr.find len f kind) (fun i=>n - (intOf i).toNat)
 case atStart=>exact ⟨0,Nat.zero_le _,rfl,(uh hR).symm⟩
 case round =>
  obtain ⟨k,hk,rfl,hr⟩:=hrel
  have hrr:=hide hr
  clear hr hn3
  by_cases hlt:k<n
  ·obtain ⟨b,off,rfl,_,hc⟩:=((uh hv).taken n hn1).at hlt
   have hc':w.cell? ⟨b,off+k,none⟩=some (.int .u8 (f k)):=hc
   obtain ⟨f1,f2⟩:=(uh hf') k
   clear hc
   have hlt':(k:Int)<(len:Int):=by omega
   have hlt2:(k:Int)<384:=by omega
   have hon:=hide (Gr.find_on f kind n k hlt)
   by_cases he:f k=kind
   ·have he':(f k == kind)=true:=by simpa using he
    have hH:=hide he
    clear he
    go_wp2
    go_ret
    refine ⟨rti ?_,rfl⟩
    rw [←uh hrr,uh hon,if_pos (uh hH)]
   ·have he':(f k == kind)=false:=by simpa using he
    go_wp2
    go_round
    case rel =>
     refine ⟨k+1,by omega,by go_num,?_⟩
     rw [←uh hrr,uh hon,if_neg he]
    case measure=>simp [intOf];omega
  ·have hkn:k=n:=by omega
   have hfin:Hid (Gr.find len f kind=-1):=by
    show Gr.find len f kind=-1
    rw [←uh hrr,hkn]
    exact Gr.find_off f kind n
   by_cases hkl:(k:Int)<(len:Int)
   ·have hk3:¬(k:Int)<384:=by have:=uh hN;omega
    clear hkn
    go_wp2
    go_ret
    exact ⟨rti (uh hfin).symm,rfl⟩
   ·clear hkn
    go_wp2
    go_ret
    exact ⟨rti (uh hfin).symm,rfl⟩

end Go.Proofs.Ytapgkgbpekkdjaa
