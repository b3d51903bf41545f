import Derived.Test.YtapgkgbpekkdjabGreatPart03
namespace Go.Proofs.YtapgkgbpekkdjabGreat
open Go.RowKit

def Gr.kind (len:Nat) (f:Nat→Int) (c:Int):Int:=if 0≤c∧c<384∧c.toNat<len then f c.toNat else 0

theorem Gr.kind_at (len:Nat) (f:Nat→Int) (c:Int) (h:0≤c):Gr.at len f (c % 24) (c / 24)=Gr.kind len f c:=by
 have e:c / 24*24+c % 24=c:=by omega
 have hi:=Gr.inB_iff (c % 24) (c / 24)
 unfold Gr.at Gr.kind
 rw [e]
 by_cases hc:c<384∧c.toNat<len
 ·rw [if_pos ⟨hi.2 (by omega),hc.2⟩,if_pos ⟨h,hc⟩]
 ·rw [if_neg (fun hh=>hc ⟨by have:=hi.1 hh.1;omega,hh.2⟩),if_neg (by omega)]

def Gr.find (len:Nat) (f:Nat→Int) (kind:Int):Int:=Gr.findFrom f kind (min len 384) 0

theorem Gr.find_on (f:Nat→Int) (kind:Int) (n k:Nat) (hk:k<n):Gr.findFrom f kind (n - k) k=if f k=kind then (k:Int) else Gr.findFrom f kind (n - (k+1)) (k+1):=by
 obtain ⟨m,hm⟩:∃m,n - k=m+1:=⟨n - k - 1,by omega⟩
 rw [hm,show n - (k+1)=m by omega]
 rfl

theorem Gr.find_off (f:Nat→Int) (kind:Int) (n:Nat):Gr.findFrom f kind (n - n) n=-1:=by
 rw [Nat.sub_self];rfl

set_option maxHeartbeats 800000 in
theorem refFind_any (B:Nat) (a:Option Addr) (len cap:Nat) (f:Nat→Int) (kind:Int) (w:World) (h:Vec B w a len (Byts f)) (hf:∀i,0≤f i∧f i≤255) :
  Calls Tryz.prog 39 #[.slice a len cap,.int .i64 kind] w fun e w'=>e=.returned (.int .i64 (Gr.find len f kind))∧w'=w:=by
 have hm:len≤9223372036854775807:=h.1
 have hf':=hide hf
 have hv:=hide h
 obtain ⟨n,hn⟩:∃n:Nat,n=min len 384:=⟨_,rfl⟩
 have hR:Hid (Gr.find len f kind=Gr.findFrom f kind (n - 0) 0):=by
  show Gr.find len f kind=_
  unfold Gr.find
  rw [hn]
  rfl
 have hn1:n≤len:=by omega
 have hn2:n≤384:=by omega
 have hn3:¬n<len→n=len:=by omega
 have hN:=hide hn
 clear hf h hn
 go_enter Tryz.func39,Tryz.ntmps39
 go_wp2_with fail
 go_loop [5] (fun i=>∃k:Nat,k≤n∧i=.int .i64 k∧Gr.findFrom f kind (n - k) k=Gr.find len f kind) (fun i=>n - (intOf i).toNat)
 case atStart=>exact ⟨0,Nat.zero_le _,rfl,(uh hR).symm⟩
 case round =>
  obtain ⟨k,hk,rfl,hr⟩:=hrel
  have hrr:=hide hr
  clear hr hn3
  by_cases hlt:k<n
  ·obtain ⟨b,off,rfl,_,hc⟩:=((uh hv).taken n hn1).at hlt
   have hc':w.cell? ⟨b,off+k,none⟩=some (.int .u8 (f k)):=hc
   obtain ⟨f1,f2⟩:=(uh hf') k
   clear hc
   have hlt':(k:Int)<(len:Int):=by omega
   have hlt2:(k:Int)<384:=by omega
   have hon:=hide (Gr.find_on f kind n k hlt)
   by_cases he:f k=kind
   ·have he':(f k == kind)=true:=by simpa using he
    have hH:=hide he
    clear he
    go_wp2
    go_ret
    refine ⟨rti ?_,rfl⟩
    rw [←uh hrr,uh hon,if_pos (uh hH)]
   ·have he':(f k == kind)=false:=by simpa using he
    go_wp2
    go_round
    case rel =>
     refine ⟨k+1,by omega,by go_num,?_⟩
     rw [←uh hrr,uh hon,if_neg he]
    case measure=>simp [intOf];omega
  ·have hkn:k=n:=by omega
   have hfin:Hid (Gr.find len f kind=-1):=by
    show Gr.find len f kind=-1
    rw [←uh hrr,hkn]
    exact Gr.find_off f kind n
   by_cases hkl:(k:Int)<(len:Int)
   ·have hk3:¬(k:Int)<384:=by have:=uh hN;omega
    clear hkn
    go_wp2
    go_ret
    exact ⟨rti (uh hfin).symm,rfl⟩
   ·clear hkn
    go_wp2
    go_ret
    exact ⟨rti (uh hfin).symm,rfl⟩


open Go.RowKit

def Dc.fold (x c:Int):Int:=bits BinOp.xor IntKind.u64 x (x / c)

def Dc.m (x:Int):Int :=
 Dc.fold (IntKind.u64.wrap (Dc.fold (IntKind.u64.wrap (Dc.fold x 1073741824*13787848793156543929)) 134217728*10723151780598845931)) 2147483648

theorem Dc.m_bd (x:Int):0≤Dc.m x∧Dc.m x<18446744073709551616:=by
 have h:=wf_bits BinOp.xor IntKind.u64 (IntKind.u64.wrap (Dc.fold (IntKind.u64.wrap (Dc.fold x 1073741824*13787848793156543929)) 134217728*10723151780598845931)) (IntKind.u64.wrap (Dc.fold (IntKind.u64.wrap (Dc.fold x 1073741824*13787848793156543929)) 134217728*10723151780598845931) / 2147483648)
 simp only [Lit.wf,Bool.and_eq_true,decide_eq_true_eq,show IntKind.u64.min=0 from by decide,show IntKind.u64.max=18446744073709551615 from by decide] at h
 obtain ⟨h1,h2⟩:=h
 exact ⟨h1,Int.lt_of_le_of_lt h2 (by decide)⟩

theorem m_any (x:Int) (w:World) :
  Calls Tryz.prog 100 #[.int .u64 x] w fun e w'=>e=.returned (.int .u64 (Dc.m x))∧w'=w:=by
 go_enter Tryz.func100,Tryz.ntmps100
 go_wp2
 go_ret
 exact ⟨rfl,rfl⟩

def Dc.step (x v:Int):Int:=Dc.m (IntKind.u64.wrap (bits BinOp.xor IntKind.u64 x (IntKind.u64.wrap v)+11400714819323198485))

def Dc.mix (seed:Int) (zs:List Int):Int:=zs.foldl Dc.step (Dc.m (IntKind.u64.wrap (IntKind.u64.wrap seed+11400714819323198485)))

theorem Dc.mix_bd (seed:Int) (zs:List Int):0≤Dc.mix seed zs∧Dc.mix seed zs<18446744073709551616:=by
 unfold Dc.mix
 generalize hx:Dc.m (IntKind.u64.wrap (IntKind.u64.wrap seed+11400714819323198485))=x
 have h:0≤x∧x<18446744073709551616:=by rw [←hx];exact Dc.m_bd _
 clear hx
 induction zs generalizing x with
 | nil=>exact h
 | cons z zs ih=>exact ih _ (Dc.m_bd _)

theorem Dc.mix_more (seed:Int) (zs:List Int) (k:Nat) (h:k<zs.length):Dc.m (IntKind.u64.wrap (bits BinOp.xor IntKind.u64 (Dc.mix seed (zs.take k)) (IntKind.u64.wrap (zs[k]?.getD 0))+11400714819323198485))=Dc.mix seed (zs.take (k+1)):=by
 show Dc.step (Dc.mix seed (zs.take k)) (zs[k]?.getD 0)=_
 have e:zs.take (k+1)=zs.take k ++ [zs[k]?.getD 0]:=by
  rw [List.take_add_one,List.getElem?_eq_getElem h];rfl
 rw [e]
 simp only [Dc.mix,List.foldl_append,List.foldl_cons,List.foldl_nil]

def Row (w:World) (a:Option Addr) (len:Nat) (zs:List Int):Prop :=
 zs.length=len∧len≤maxLen∧(len=0∨∃b off,a=some ⟨b,off,none⟩∧∀i,i<len→w.cell? ⟨b,off+i,none⟩=some (.int .i64 (zs[i]?.getD 0)))

theorem refMix_none (seed:Int) (a:Option Addr) (cap:Nat) (w:World) :
  Calls Tryz.prog 89 #[.int .i64 seed,.slice a 0 cap] w fun e w'=>e=.returned (.int .u64 (Dc.mix seed []))∧w'=w:=by
 go_enter Tryz.func89,Tryz.ntmps89
 go_wp2_with fail
 refine (m_any _ _).mono ?_
 rintro e w1 ⟨rfl,rfl⟩
 go_wp2_with fail
 refine wp_loop_rounds 1 ?_
 rw [rounds_succ]
 go_wp2
 go_ret
 exact ⟨rfl,rfl⟩

theorem refMix_some (seed:Int) (b off:Nat) (len cap:Nat) (zs:List Int) (w:World) (hz:zs.length=len) (hm:len≤9223372036854775807)
  (hc:∀i,i<len→w.cell? ⟨b,off+i,none⟩=some (.int .i64 (zs[i]?.getD 0))) :
  Calls Tryz.prog 89 #[.int .i64 seed,.slice (some ⟨b,off,none⟩) len cap] w fun e w'=>e=.returned (.int .u64 (Dc.mix seed zs))∧w'=w:=by
 go_enter Tryz.func89,Tryz.ntmps89
 go_wp2_with fail
 refine (m_any _ _).mono ?_
 rintro e w1 ⟨rfl,rfl⟩
 go_wp2_with fail
 go_loop [5,6] (fun x i=>∃k:Nat,k≤len∧i=.int .i64 k∧x=.int .u64 (Dc.mix seed (zs.take k))) (fun _ i=>len - (intOf i).toNat)
 case atStart=>exact ⟨0,Nat.zero_le _,rfl,rfl⟩
 case round =>
  obtain ⟨k,hk,rfl,rfl⟩:=hrel
  have hcell:k<len→w1.cell? ⟨b,off+k,none⟩=some (.int .i64 (zs[k]?.getD 0)):=fun h=>hc k h
  go_wp2_with fail
  ·refine (m_any _ _).mono ?_
   rintro e w2 ⟨rfl,rfl⟩
   have hlt:k<len:=by assumption
   have hstep:=hide (Dc.mix_more seed zs k (by omega))
   go_wp2
   go_round
   case rel =>
    refine ⟨k+1,by omega,by go_num,?_⟩
    rw [←uh hstep,List.getElem?_eq_getElem (by omega)]
    rfl
   case measure=>simp [intOf];omega
  ·obtain rfl:k=len:=by omega
   go_ret
   rw [List.take_of_length_le (by omega)]
   exact ⟨rfl,rfl⟩

theorem refMix_row (seed:Int) (a:Option Addr) (len cap:Nat) (zs:List Int) (w:World) (h:Row w a len zs) :
  Calls Tryz.prog 89 #[.int .i64 seed,.slice a len cap] w fun e w'=>e=.returned (.int .u64 (Dc.mix seed zs))∧w'=w:=by
 obtain ⟨hz,hm,rfl | ⟨b,off,rfl,hc⟩⟩:=h
 ·obtain rfl:=List.eq_nil_of_length_eq_zero hz
  exact refMix_none _ _ _ _
 ·exact refMix_some _ _ _ _ _ _ _ hz hm hc

def Dc.die (n seed:Int) (zs:List Int):Int:=if n<1 then 0 else Dc.mix seed zs % n

theorem Dc.die_bd (n seed:Int) (zs:List Int) (h:1≤n):0≤Dc.die n seed zs∧Dc.die n seed zs<n:=by
 unfold Dc.die
 rw [if_neg (by omega)]
 exact ⟨Int.emod_nonneg _ (by omega),Int.emod_lt_of_pos _ (by omega)⟩

theorem Dc.die_low (n seed:Int) (zs:List Int) (h:n<1):Dc.die n seed zs=0:=if_pos h

set_option maxHeartbeats 400000 in
theorem refDie_row (n seed:Int) (a:Option Addr) (len cap:Nat) (zs:List Int) (w:World) (h:Row w a len zs) (hn:n≤9223372036854775807) :
  Calls Tryz.prog 72 #[.int .i64 n,.int .i64 seed,.slice a len cap] w fun e w'=>e=.returned (.int .i64 (Dc.die n seed zs))∧w'=w:=by
 by_cases hl:n<1
 ·have hd:=hide (Dc.die_low n seed zs hl)
  clear h
  go_enter Tryz.func72,Tryz.ntmps72
  go_wp2
  go_ret
  rw [uh hd]
  exact ⟨rfl,rfl⟩
 ·have hd:=hide (show Dc.die n seed zs=Dc.mix seed zs % n from if_neg hl)
  have hb:=Dc.mix_bd seed zs
  have h1:=Int.emod_nonneg (Dc.mix seed zs) (show n≠0 by omega)
  have h2:=Int.emod_lt_of_pos (Dc.mix seed zs) (show 0<n by omega)
  have hr:=hide h
  clear h
  obtain ⟨hb1,hb2⟩:=hb
  go_enter Tryz.func72,Tryz.ntmps72
  go_wp2_with fail
  refine (refMix_row _ _ _ _ _ _ (uh hr)).mono ?_
  rintro e w1 ⟨rfl,rfl⟩
  go_wp2
  go_ret
  rw [uh hd]
  exact ⟨rfl,rfl⟩

theorem Row.taken {w:World} {a:Option Addr} {len:Nat} {zs:List Int} (h:Row w a len zs) (k:Nat) (hk:k≤len):Row w a k (zs.take k):=by
 obtain ⟨hz,hm,h0 | ⟨b,off,ha,hc⟩⟩:=h
 ·exact ⟨by simp;omega,Nat.le_trans hk hm,.inl (by omega)⟩
 ·exact ⟨by simp;omega,Nat.le_trans hk hm,.inr ⟨b,off,ha,fun i hi=>by rw [hc i (by omega),List.getElem?_take,if_pos hi]⟩⟩

end Go.Proofs.YtapgkgbpekkdjabGreat
