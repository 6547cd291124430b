/- What the proof of this claim stands on, part 4: an evaluator of the model, proved right, and what it answers for functions of the program. -/
import Derived.Test.YthmpmakgacnelaaGreatDoorPk02
/- The whole, of its parts. Made by program. -/
namespace Go.Ev
set_option maxRecDepth 1000000
theorem gAll : Good ⟨3, [], .v (.bool true)⟩ := good [t9, t41, t42, t43, t44, t45, t46, t47, t48, t49, t53, t116, t335, t599, t635, t637, t639, t642, t646, t653, t659, t662, t665] ⟨g9, g41, g42, g43, g44, g45, g46, g47, g48, g49, g53, g116, g335, g599, g635, g637, g639, g642, g646, g653, g659, g662, g665, trivial⟩ [u638, u640, u644] ⟨k638, k640, k644, trivial⟩ (by kernel_rfl) (by kernel_rfl)
end Go.Ev
