import Derived.JoinedOf
import Derived.Test.YthfpipieboophaaGreatDoorRows
namespace Go.Proofs.YthfpipieboophaaGreatDoor
set_option maxRecDepth 100000
set_option maxHeartbeats 40000000
theorem Nv:(Rows.deskAnswersRow.inPlace==Tryz.prog.inPlace 6)=true:=by kernel_rfl
theorem zu:(Rows.deskAnswersRow.unfollowed==Tryz.prog.unfollowed 6)=true:=by kernel_rfl
theorem Dv:(Rows.deskAnswersRow.recurses==Tryz.prog.recurses 6)=true:=by kernel_rfl
theorem Nw:(Rows.deskAnswersRow.named==Tryz.prog.varsNamed 6)=true:=by kernel_rfl
theorem KC:joinedFacts Tryz.prog 6 Tryz.f6 Rows.deskAnswersSpec Rows.deskAnswersRow=true:=by
 unfold joinedFacts;rw[Nv,zu,Dv,Nw]
 kernel_rfl
end Go.Proofs.YthfpipieboophaaGreatDoor
