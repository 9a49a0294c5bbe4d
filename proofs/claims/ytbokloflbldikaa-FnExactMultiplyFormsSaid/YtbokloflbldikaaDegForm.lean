
import Derived.Test.YtbokloflbldikaaIsFormB
namespace Go.Proofs.Ytbokloflbldikaa
open Go.RowKit Go.Deep
theorem isForm_degs {zs : List Int} {ts : List Tm} (h : isForm zs ts = true) : degsOk zs = true := by
  simp only [isForm, Bool.and_eq_true] at h; exact h.1
end Go.Proofs.Ytbokloflbldikaa
