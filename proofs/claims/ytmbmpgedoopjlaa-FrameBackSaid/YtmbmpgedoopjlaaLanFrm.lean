/- The landed frame answers as Own14 asks. -/
import Derived.Test.YtmbmpgedoopjlaaLanFrmB
import Derived.Test.YtmbmpgedoopjlaaLanFrmC
namespace Go.Proofs.Ytmbmpgedoopjlaa
open Go.RowKit

theorem ok : Own14 where
  right := Lan14.Right_any
  begins := fun _ _ _ _ C => Lan14.Begins_came C
  bytes := fun f w h => Lan14.Bytes_ok f w h
  no := fun f w h => Lan14.Bytes_no f w h
  read := fun _ _ _ _ C _ => Lan14.Read_came C
end Go.Proofs.Ytmbmpgedoopjlaa
