/- Lowest terms of fractions. No walk. -/
import Derived.Test.YtdamadkhbeonaaaFI
namespace Go.Proofs.Ytdamadkhbeonaaa
end Go.Proofs.Ytdamadkhbeonaaa
