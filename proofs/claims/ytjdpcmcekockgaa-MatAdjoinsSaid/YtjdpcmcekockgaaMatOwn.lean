/- The landed mat's own contracts (commit f8f2e27): all. -/
import Derived.Test.YtjdpcmcekockgaaMatOwnC
import Derived.Test.YtjdpcmcekockgaaMatOwnPw
import Derived.Test.YtjdpcmcekockgaaMatOwnD
import Derived.Test.YtjdpcmcekockgaaMatOwnE
import Derived.Test.YtjdpcmcekockgaaMatKerF
namespace Go.Proofs.Ytjdpcmcekockgaa
open Go.RowKit
end Go.Proofs.Ytjdpcmcekockgaa
