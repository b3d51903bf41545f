import Derived.Test.YtldgbkjceildfaaGreatBy07
namespace Go.Proofs.YtldgbkjceildfaaGreat
open Go.RowKit

def En.stats (k:Int):Nat→Int
 | 0=>if 1≤k∧k≤4 then k else 0
 | 5=>if k=1 then 20 else if k=2 then 4 else if k=3 then 9 else if k=4 then 6 else 0
 | 6=>if k=1 then 20 else if k=2 then 4 else if k=3 then 9 else if k=4 then 6 else 0
 | 7=>if k=1 then 5 else if k=2 then 2 else if k=3 then 4 else if k=4 then 3 else 0
 | 8=>if k=1 then 1 else if k=3 then 1 else 0
 | _=>0

theorem En.stats_none {k:Int} (h:¬(1≤k∧k≤4)):En.cells (En.stats k)=En.cells (fun _=>0):=by
 have h1:k≠1:=by omega
 have h2:k≠2:=by omega
 have h3:k≠3:=by omega
 have h4:k≠4:=by omega
 simp [En.cells,En.stats,h,h1,h2,h3,h4]

set_option maxHeartbeats 4000000 in
theorem entStats_any (k:Int) (w:World):Calls Tryz.prog 115 #[.int .i64 k] w (Says w (.agg (En.cells (En.stats k)))):=by
 by_cases h:1≤k∧k≤4
 ·rcases (show k=1∨k=2∨k=3∨k=4 by omega) with rfl|rfl|rfl|rfl;all_goals
   clear h;go_enter Tryz.func115,Tryz.ntmps115;go_wp2
   go_returns
   exact ⟨rfl,World.grownBy_alloc _ _ _⟩
 ·rw [En.stats_none h];have h1:k≠1:=by omega
  have h2:k≠2:=by omega
  have h3:k≠3:=by omega
  have h4:k≠4:=by omega
  clear h;go_enter Tryz.func115,Tryz.ntmps115;go_wp2
  go_returns
  exact ⟨rfl,World.grownBy_alloc _ _ _⟩

set_option maxHeartbeats 4000000 in
theorem entRefStats_any (k:Int) (w:World):Calls Tryz.prog 40 #[.int .i64 k] w (Says w (.agg (En.cells (En.stats k)))):=by
 by_cases h:1≤k∧k≤4
 ·rcases (show k=1∨k=2∨k=3∨k=4 by omega) with rfl|rfl|rfl|rfl;all_goals
   clear h;go_enter Tryz.func40,Tryz.ntmps40;go_wp2
   go_returns
   exact ⟨rfl,World.grownBy_alloc _ _ _⟩
 ·rw [En.stats_none h];have h1:k≠1:=by omega
  have h2:k≠2:=by omega
  have h3:k≠3:=by omega
  have h4:k≠4:=by omega
  clear h;go_enter Tryz.func40,Tryz.ntmps40;go_wp2
  go_returns
  exact ⟨rfl,World.grownBy_alloc _ _ _⟩

end Go.Proofs.YtldgbkjceildfaaGreat
