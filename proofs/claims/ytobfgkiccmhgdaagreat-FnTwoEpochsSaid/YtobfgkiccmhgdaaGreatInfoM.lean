/- The type MacRow's facts. Nothing here is a claim. -/
import Derived.Test.YtobfgkiccmhgdaaGreatBase
namespace Go.Proofs.YtobfgkiccmhgdaaGreat
open Go.RowKit Go.Lib

theorem Tryz.info72 : (Tryz.prog.info? 72).map (fun i => (i.zero, i.size, i.bytes)) = some (some (.agg #[.string ⟨#[]⟩, .int .i64 0]), 2, 24) := by kernel_rfl
end Go.Proofs.YtobfgkiccmhgdaaGreat
