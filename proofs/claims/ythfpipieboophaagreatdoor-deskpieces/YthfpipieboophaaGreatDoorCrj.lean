/- What the row of DeskPieces tells of the program's reach: each fact by itself (together they pass the lid on memory). -/
import Derived.Test.YthfpipieboophaaGreatDoorRows
import Derived.JoinedOf
import Derived.KernelRfl
namespace Go.Proofs.YthfpipieboophaaGreatDoor
set_option maxRecDepth 100000
theorem dp_place : (Rows.deskPiecesRow.inPlace == Tryz.prog.inPlace 5) = true := by kernel_rfl
theorem dp_unfollowed : (Rows.deskPiecesRow.unfollowed == Tryz.prog.unfollowed 5) = true := by kernel_rfl
theorem dp_recurses : (Rows.deskPiecesRow.recurses == Tryz.prog.recurses 5) = true := by kernel_rfl
theorem dp_named : (Rows.deskPiecesRow.named == Tryz.prog.varsNamed 5) = true := by kernel_rfl
theorem dp_joined : joinedFacts Tryz.prog 5 Tryz.f5 Rows.deskPiecesSpec Rows.deskPiecesRow = true := by
  unfold joinedFacts
  rw [dp_place, dp_unfollowed, dp_recurses, dp_named]
  kernel_rfl
end Go.Proofs.YthfpipieboophaaGreatDoor
