/- Layer 16: what the landed rw's functions answer, all of it. -/
import Derived.Test.YtpkegfochfkkcaaRwH
namespace Go.Proofs.Ytpkegfochfkkcaa
end Go.Proofs.Ytpkegfochfkkcaa
