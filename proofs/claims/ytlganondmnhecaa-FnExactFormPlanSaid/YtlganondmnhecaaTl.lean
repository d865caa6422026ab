/- FnExactFormPlan, said. -/
import Derived.Test.YtlganondmnhecaaTh
import Derived.Test.YtlganondmnhecaaTk
namespace Go.Proofs.Ytlganondmnhecaa
theorem said : Rows.FnExactFormPlanSaid := said_of Pl.implPlan
end Go.Proofs.Ytlganondmnhecaa
