/- What layer 12's speaks looks at: its file. Conditions: those written in each theorem. -/
import Derived.Test.YtedocnidgiglaaaTL
import Derived.Test.YtedocnidgiglaaaJC
import Derived.Test.YtedocnidgiglaaaTI
namespace Go.Proofs.Ytedocnidgiglaaa
open Go.RowKit
set_option linter.unusedVariables false
def vS (l : List Nat) : ByteArray := ⟨(fieldsL false (fullL true sSizes 10) l 10).toArray⟩
def vE : ByteArray := ⟨(fieldsL false (fullL true eSizes 13) [0, 0, 1, 0, 0, 69, 0, ehs true, phs true, 0, shs true, 4, 1] 13).toArray⟩
def vI : ByteArray := ⟨(identL false true 0 0 []).toArray⟩
def vT : ByteArray := ⟨#[0, 97, 98, 99, 0]⟩
def vR (i : Nat) : Nat := if i = 0 then 1 else 2
def vW : ByteArray := ((vI ++ vE) ++ vT) ++ recT (vS [0, 0, 0, 0, 0, 0, 0, 0, 0, 0]) (vS [0, 3, 0, 0, 64, 5, 0, 0, 0, 0]) (fun i => vS [vR i, 8, 0, 0, 0, 0, 0, 0, 0, 0]) 2
theorem vW_err : parseErr (Pop.popF 64) vW = 0 := by kernel_rfl
theorem vW_n : nSec vW = 4 := by kernel_rfl
theorem vW_nm : nameS vW = 1 := by kernel_rfl
theorem vW_size : vW.size = 325 := by kernel_rfl
theorem vW_ok : tabE (fSec vW) 4 1 = 0 := by kernel_rfl
theorem vW_tab : tabN (fSec vW) 4 vW 1 = vT := by kernel_rfl
theorem vW_all : allB vT (fun i => fSec vW i 0) 4 = true := by kernel_rfl
theorem vW_0 : strAt vT (fSec vW 0 0) = ⟨#[]⟩ := by kernel_rfl
theorem vW_1 : strAt vT (fSec vW 1 0) = ⟨#[]⟩ := by kernel_rfl
theorem vW_2 : strAt vT (fSec vW 2 0) = ⟨#[97, 98, 99]⟩ := by kernel_rfl
theorem vW_3 : strAt vT (fSec vW 3 0) = ⟨#[98, 99]⟩ := by kernel_rfl
end Go.Proofs.Ytedocnidgiglaaa
