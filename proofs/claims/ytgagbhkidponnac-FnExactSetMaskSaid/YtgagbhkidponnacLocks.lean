/-
  The lock of package sync, as the seat's text holds it.
-/
import Derived.Test.YtgagbhkidponnacProg
import Derived.Conc.MuLone
import Derived.KernelRfl
namespace Go.Proofs.Ytgagbhkidponnac
open Go Go.Conc.Locks
set_option linter.unusedVariables false

abbrev muLink : MuLink := { lock := 108, unlock := 109, ilock := 130, iunlock := 131, lockSlow := 144, unlockSlow := 147, disable := 140, enable := 142, acquire := 143, relMerge := 145, cas32 := 141, add32 := 146, tMutex := 90, tIMutex := 88, tPMutex := 136, tPIMutex := 141, tPI32 := 143, tUP := 145, tNoCopy := 85, tU32 := 86 }
set_option maxRecDepth 8000 in
theorem muLib : MuLib Try.prog muLink where
  f_lock := by kernel_rfl
  f_unlock := by kernel_rfl
  f_ilock := by kernel_rfl
  f_iunlock := by kernel_rfl
  f_disable := by kernel_rfl
  f_enable := by kernel_rfl
  f_acquire := by kernel_rfl
  f_relMerge := by kernel_rfl
  f_cas32 := by kernel_rfl
  f_add32 := by kernel_rfl
  underlying_tIMutex := Try.underlying88
  runUnderlying_tIMutex := Try.runUnderlying88
  sizeOf_tIMutex := Try.sizeOf88
  isAgg_tIMutex := Try.isAgg88
  zeroValue_tIMutex := Try.zeroValue88
  underlying_tMutex := Try.underlying90
  runUnderlying_tMutex := Try.runUnderlying90
  sizeOf_tMutex := Try.sizeOf90
  isAgg_tMutex := Try.isAgg90
  zeroValue_tMutex := Try.zeroValue90
  underlying_tPMutex := Try.underlying136
  runUnderlying_tPMutex := Try.runUnderlying136
  sizeOf_tPMutex := Try.sizeOf136
  isAgg_tPMutex := Try.isAgg136
  zeroValue_tPMutex := Try.zeroValue136
  underlying_tPIMutex := Try.underlying141
  runUnderlying_tPIMutex := Try.runUnderlying141
  sizeOf_tPIMutex := Try.sizeOf141
  isAgg_tPIMutex := Try.isAgg141
  zeroValue_tPIMutex := Try.zeroValue141
  underlying_tPI32 := Try.underlying143
  runUnderlying_tPI32 := Try.runUnderlying143
  sizeOf_tPI32 := Try.sizeOf143
  isAgg_tPI32 := Try.isAgg143
  zeroValue_tPI32 := Try.zeroValue143
  underlying_tUP := Try.underlying145
  runUnderlying_tUP := Try.runUnderlying145
  sizeOf_tUP := Try.sizeOf145
  isAgg_tUP := Try.isAgg145
  zeroValue_tUP := Try.zeroValue145
  underlying_tNoCopy := Try.underlying85
  runUnderlying_tNoCopy := Try.runUnderlying85
  sizeOf_tNoCopy := Try.sizeOf85
  isAgg_tNoCopy := Try.isAgg85
  zeroValue_tNoCopy := Try.zeroValue85
  underlying_t21 := Try.underlying21
  runUnderlying_t21 := Try.runUnderlying21
  sizeOf_t21 := Try.sizeOf21
  isAgg_t21 := Try.isAgg21
  zeroValue_t21 := Try.zeroValue21
  room_tIMutex := by kernel_rfl

end Go.Proofs.Ytgagbhkidponnac
