/- Layer 16: what the landed rw's functions answer, all of it. -/
import Derived.Test.YtakojjljnnooaaaRwH
namespace Go.Proofs.Ytakojjljnnooaaa
end Go.Proofs.Ytakojjljnnooaaa
