/-
  Orders: every step is as the document says.
-/
import Derived.Test.YteffpdofcgbokaaGreatLScript
import Derived.Test.YteffpdofcgbokaaGreatLOrd
namespace Go.Proofs.YteffpdofcgbokaaGreat
open Go.RowKit

set_option maxRecDepth 100000 in
set_option maxHeartbeats 1000000 in
theorem orders_all (a : Option Addr) (len cap : Nat) (V : Nat → OpD) (w : World) (hlen : len ≤ 9223372036854775807) (hV : OpsIn w a len V) (hok : ∀ i, i < len → OpOk (V i)) :
    Calls Tryz.prog 5 #[.slice a len cap] w fun e w' => e = .returned (.bool true) ∧ Below w.heap.size w w' := by
  have hu := upTo_none a len cap V 3 4 w hlen hV (fun i hi h1 h2 p w1 => plays_ord (V i) p w1 (hok i hi) h1 h2)
  have HU := hide hu
  clear hu hV hok
  go_enter Tryz.func5, Tryz.ntmps5
  go_wp2_with fail
  refine (unhide HU).mono ?_
  rintro e w1 ⟨rfl, hb1⟩
  go_wp2
  go_ret
  exact ⟨rfl, hb1⟩
end Go.Proofs.YteffpdofcgbokaaGreat
