import PyProof.Rows.All
import Wide.All
import OpenK.AllK
import Wide.FinOn
import PySem.Challenge.RW_perfectgraphs_k11_whole_minimally_imperf
set_option Elab.async false
set_option linter.all false
set_option maxRecDepth 100000
