import PyProof.Rows.All
import Wide.All
import OpenK.AllK
import Wide.FinOn
import PySem.Challenge.RW_whichhouse_k01_constants_and_errors
open PySem PySem.W PySem.W.X PyProof.Rows
set_option Elab.async false
set_option maxRecDepth 100000 in
set_option maxHeartbeats 0 in
theorem PySem.Challenge.cw_whichhouse_k01_constants_and_errors_holds : PySem.Challenge.rw_whichhouse_k01_constants_and_errors.Holds := by
  open_z
