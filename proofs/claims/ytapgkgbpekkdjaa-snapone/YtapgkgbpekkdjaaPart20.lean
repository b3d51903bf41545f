import Derived.Test.YtapgkgbpekkdjaaPart19
namespace Go.Proofs.Ytapgkgbpekkdjaa
open Go.RowKit

theorem run_eq_place (a b c a' b' c':Int) (w:World):(binOp .eql 95 (.agg #[.int .i64 a,.int .i64 b,.int .i64 c]) (.agg #[.int .i64 a',.int .i64 b',.int .i64 c'])).run Try.prog w=.ok (.bool (decide (a=a') && (decide (b=b') && decide (c=c')))) w:=by
 by_cases h1:a=a' <;> by_cases h2:b=b' <;> by_cases h3:c=c' <;> simp [go_sem,h1,h2,h3]

theorem run_eq_item (k a b c k' a' b' c':Int) (w:World):(binOp .eql 47 (.agg #[.int .i64 k,.int .i64 a,.int .i64 b,.int .i64 c]) (.agg #[.int .i64 k',.int .i64 a',.int .i64 b',.int .i64 c'])).run Try.prog w=.ok (.bool (decide (k=k') && (decide (a=a') && (decide (b=b') && decide (c=c'))))) w:=by
 by_cases h0:k=k' <;> by_cases h1:a=a' <;> by_cases h2:b=b' <;> by_cases h3:c=c' <;> simp [go_sem,h0,h1,h2,h3]

theorem run_ne_item (k a b c k' a' b' c':Int) (w:World):(binOp .neq 47 (.agg #[.int .i64 k,.int .i64 a,.int .i64 b,.int .i64 c]) (.agg #[.int .i64 k',.int .i64 a',.int .i64 b',.int .i64 c'])).run Try.prog w=.ok (.bool (!(decide (k=k') && (decide (a=a') && (decide (b=b') && decide (c=c')))))) w:=by
 by_cases h0:k=k' <;> by_cases h1:a=a' <;> by_cases h2:b=b' <;> by_cases h3:c=c' <;> simp [go_sem,h0,h1,h2,h3]

theorem goodsPlace_any (k p a b:Int) (w:World):Calls Try.prog 55 #[.agg #[.int .i64 k,.int .i64 p,.int .i64 a,.int .i64 b]] w (Says w (.agg #[.int .i64 p,.int .i64 a,.int .i64 b])):=by
 have hg:=hide (fun (o1 o2:Obj)=>gal (World.grownBy_alloc w o1 none) o2)
 go_enter Try.func55,Try.ntmps55
 go_wp2
 refine bodyPost_ret (v:=.agg #[.int .i64 p,.int .i64 a,.int .i64 b]) (by simp [results,Try.results55,go_sem]) rfl ?_
 exact ⟨rfl,uh hg _ _⟩

theorem wornBy_any (seat kind:Int) (h0:0≤kind) (h1:kind≤100) (w:World):Calls Try.prog 77 #[.int .i64 seat,.int .i64 kind] w (Says w (.agg #[.int .i64 3,.int .i64 seat,.int .i64 (kind - 2)])):=by
 have hg:=hide (fun (o1:Obj)=>World.grownBy_alloc w o1 none)
 go_enter Try.func77,Try.ntmps77
 go_wp2
 refine bodyPost_ret (v:=.agg #[.int .i64 3,.int .i64 seat,.int .i64 (kind - 2)]) (by simp [results,Try.results77,go_sem]) rfl ?_
 exact ⟨rfl,uh hg _⟩

def Gd.serves (k input:Int):Bool:=if input=6 then decide (k=1) else if input=7 then decide (k=2) || decide (k=3) else true

theorem serves_any (k input:Int) (w:World):Calls Try.prog 76 #[.int .i64 k,.int .i64 input] w fun e w'=>e=.returned (.bool (Gd.serves k input))∧w'=w:=by
 unfold Gd.serves
 by_cases h6:input=6
 ·rw [if_pos h6]
  go_enter Try.func76,Try.ntmps76
  go_wp2
  go_ret
  exact ⟨rfl,rfl⟩
 ·rw [if_neg h6]
  by_cases h7:input=7
  ·rw [if_pos h7]
   by_cases h2:k=2
   ·subst h2
    go_enter Try.func76,Try.ntmps76
    go_wp2
    go_ret
    exact ⟨rfl,rfl⟩
   ·rw [decide_eq_false h2]
    by_cases h3:k=3
    ·subst h3
     go_enter Try.func76,Try.ntmps76
     go_wp2
     go_ret
     exact ⟨rfl,rfl⟩
    ·rw [decide_eq_false h3]
     have h2':(k == 2)=false:=by simp [h2]
     have h3':(k == 3)=false:=by simp [h3]
     go_enter Try.func76,Try.ntmps76
     go_wp2
     go_ret
     exact ⟨by simp,rfl⟩
  ·rw [if_neg h7]
   go_enter Try.func76,Try.ntmps76
   go_wp2
   go_ret
   exact ⟨rfl,rfl⟩

def Gd.isSeat (s:Int):Bool:=decide (0≤s∧s<4)

theorem isSeat_any (s:Int) (w:World):Calls Try.prog 75 #[.int .i64 s] w fun e w'=>e=.returned (.bool (Gd.isSeat s))∧w'=w:=by
 unfold Gd.isSeat
 by_cases h0:0≤s
 ·have e:decide (0≤s∧s<4)=decide (s<4):=by simp [h0]
  rw [e]
  go_enter Try.func75,Try.ntmps75
  go_wp2
  go_ret
  exact ⟨rfl,rfl⟩
 ·have e:decide (0≤s∧s<4)=false:=by simp [h0]
  rw [e]
  go_enter Try.func75,Try.ntmps75
  go_wp2
  go_ret
  exact ⟨rfl,rfl⟩

def Gd.zeroB (k p a b:Int):Bool:=decide (k=0∧p=0∧a=0∧b=0)

theorem isGone_yes (w:World):Calls Try.prog 52 #[.agg #[.int .i64 0,.int .i64 0,.int .i64 0,.int .i64 0]] w (Says w (.bool true)):=by
 have hg:=hide (fun (o1:Obj)=>World.grownBy_alloc w o1 none)
 go_enter Try.func52,Try.ntmps52
 go_wp2
 go_ret
 exact ⟨rfl,uh hg _⟩

theorem isGone_no (k p a b:Int) (h:Gd.zeroB k p a b=false) (w:World):Calls Try.prog 52 #[.agg #[.int .i64 k,.int .i64 p,.int .i64 a,.int .i64 b]] w (Says w (.bool false)):=by
 have hg:=hide (fun (o1:Obj)=>World.grownBy_alloc w o1 none)
 have h':¬(k=0∧p=0∧a=0∧b=0):=of_decide_eq_false h
 have e:=hide h'
 clear h h'
 go_enter Try.func52,Try.ntmps52
 go_wp2
 all_goals first | exact absurd (And.intro ‹k=0› (And.intro ‹p=0› (And.intro ‹a=0› ‹b=0›))) (uh e) | (go_ret;exact ⟨rfl,uh hg _⟩)

theorem isGone_any (k p a b:Int) (w:World):Calls Try.prog 52 #[.agg #[.int .i64 k,.int .i64 p,.int .i64 a,.int .i64 b]] w (Says w (.bool (Gd.zeroB k p a b))):=by
 by_cases h:Gd.zeroB k p a b=true
 ·rw [h]
  obtain ⟨rfl,rfl,rfl,rfl⟩:k=0∧p=0∧a=0∧b=0:=of_decide_eq_true h
  exact isGone_yes w
 ·have h':Gd.zeroB k p a b=false:=by simpa using h
  rw [h']
  exact isGone_no k p a b h' w

end Go.Proofs.Ytapgkgbpekkdjaa
