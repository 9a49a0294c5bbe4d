
import Derived.Test.YtikldofmpkidbaaSumK
import Derived.Test.YtikldofmpkidbaaResult
namespace Go.Proofs.Ytikldofmpkidbaa
open Go.RowKit Go.Deep
theorem ownR_nil (w:World) (B:Nat):OwnR w B (.slice none 0 0) []:=World.ownsRow_nil _ _ _ _
end Go.Proofs.Ytikldofmpkidbaa
