import Derived.Test.YtilapcegpjjlfaaGreatDoorTold
import Derived.Conc.MuLib
import Derived.Conc.MuLone
import Derived.KernelRfl
namespace Go.Proofs.YtilapcegpjjlfaaGreatDoor
set_option linter.unusedSimpArgs false
set_option linter.unusedVariables false
abbrev muLink : Go.Conc.Locks.MuLink := { lock := 102, unlock := 103, ilock := 156, iunlock := 157, lockSlow := 187, unlockSlow := 190, disable := 183, enable := 185, acquire := 186, relMerge := 188, cas32 := 184, add32 := 189, tMutex := 124, tIMutex := 122, tPMutex := 230, tPIMutex := 259, tPI32 := 261, tUP := 168, tNoCopy := 119, tU32 := 120 }
theorem muLib : Go.Conc.Locks.MuLib Tryz.prog muLink :=
  ⟨Tryz.func102, Tryz.func103, Tryz.func156, Tryz.func157, Tryz.func183, Tryz.func185, Tryz.func186, Tryz.func188, Tryz.func184, Tryz.func189, Tryz.underlying122, Tryz.runUnderlying122, Tryz.sizeOf122, Tryz.isAgg122, Tryz.zeroValue122, Tryz.underlying124, Tryz.runUnderlying124, Tryz.sizeOf124, Tryz.isAgg124, Tryz.zeroValue124, Tryz.underlying230, Tryz.runUnderlying230, Tryz.sizeOf230, Tryz.isAgg230, Tryz.zeroValue230, Tryz.underlying259, Tryz.runUnderlying259, Tryz.sizeOf259, Tryz.isAgg259, Tryz.zeroValue259, Tryz.underlying261, Tryz.runUnderlying261, Tryz.sizeOf261, Tryz.isAgg261, Tryz.zeroValue261, Tryz.underlying168, Tryz.runUnderlying168, Tryz.sizeOf168, Tryz.isAgg168, Tryz.zeroValue168, Tryz.underlying119, Tryz.runUnderlying119, Tryz.sizeOf119, Tryz.isAgg119, Tryz.zeroValue119, Tryz.underlying21, Tryz.runUnderlying21, Tryz.sizeOf21, Tryz.isAgg21, Tryz.zeroValue21, (by kernel_rfl)⟩
end Go.Proofs.YtilapcegpjjlfaaGreatDoor
