/- rat.Parse of what is a fraction's text with a lower number. -/
import Derived.Test.YtmcijgnbdnpanaaRatG
import Derived.IntWalk
namespace Go.Proofs.Ytmcijgnbdnpanaa
open Go Go.RowKit

end Go.Proofs.Ytmcijgnbdnpanaa
