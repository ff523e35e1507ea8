/-
  'laws.FnExactFit': for all arguments the law returns true and the arguments read as before. No condition.
-/
import Derived.Test.YtcfkginbkammoaaL10
import Derived.Test.YtcfkginbkammoaaL17
namespace Go.Proofs.Ytcfkginbkammoaa
theorem fnExactFit_proved : Rows.FnExactFitSaid :=
  exactFit_holds (gq := stepFit) (fun a b c d h tv pv M w hs hm => spFit_any a b c d h hs hm) (fun a b c d h tv pv M w hs hm => imFit_any a b c d h hs hm)

end Go.Proofs.Ytcfkginbkammoaa
