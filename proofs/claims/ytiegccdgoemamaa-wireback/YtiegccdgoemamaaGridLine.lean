/-
  Lines: what both packages hand back, in memory of their own.
-/
import Derived.Test.YtiegccdgoemamaaGridArr
import Derived.Test.YtiegccdgoemamaaGridLineMath
import Derived.Laws.AppendOwnNone
namespace Go.Proofs.Ytiegccdgoemamaa
open Go.RowKit

theorem max4 (ts : Array TypeId) (t : TypeId) (a b c d n : Int) (w : World) (h : max (max a b) (max c d) = n) :
    (Builtin.max_ ts t #[.int .i64 a, .int .i64 b, .int .i64 c, .int .i64 d]).run Try.prog w = .ok (.int .i64 n) w := by
  have e : (Builtin.max_ ts t #[.int .i64 a, .int .i64 b, .int .i64 c, .int .i64 d]).run Try.prog w = .ok (.int .i64 (if d > (if c > (if b > a then b else a) then c else (if b > a then b else a)) then d else (if c > (if b > a then b else a) then c else (if b > a then b else a)))) w := by
    simp [Builtin.max_, Builtin.max2]
  rw [e]
  congr 2
  omega

theorem max2 (ts : Array TypeId) (t : TypeId) (a b n : Int) (w : World) (h : max a b = n) :
    (Builtin.max_ ts t #[.int .i64 a, .int .i64 b]).run Try.prog w = .ok (.int .i64 n) w := by
  rw [run_max_int2]
  congr 2
  omega

def Gr.lnRow (x0 y0 x1 y1 : Int) (k : Nat) : List Int := (List.range k).map (Gr.ln x0 y0 x1 y1)

theorem ln_more (x0 y0 x1 y1 : Int) (k : Nat) (v : Int) (h : v = Gr.ln x0 y0 x1 y1 k) :
    (Gr.lnRow x0 y0 x1 y1 k).map (Value.int .i64) ++ [.int .i64 v] = (Gr.lnRow x0 y0 x1 y1 (k + 1)).map (Value.int .i64) := by
  unfold Gr.lnRow
  rw [List.range_succ, h]; simp

section
attribute [-go_sem] run_max_int2

end

end Go.Proofs.Ytiegccdgoemamaa
