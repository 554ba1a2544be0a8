import Derived.Shelf.Small.Strs
import Derived.Test.YtnmaknnnmjfhkagGreatDoorProg
namespace Go.Proofs.YtnmaknnnmjfhkagGreatDoor
open Go.Shelf
def cRen:Go.Shelf.Ren:=⟨fun | 106=>207 | 213=>256 | 265=>282 | n=>n,fun | 9=>9 | 3=>3 | n=>n,fun | n=>n⟩
theorem cLays106:Go.Proofs.Lays.n106 Tryz.prog cRen:={
 mixed:=by kernel_rfl
 f106:=Tryz.func207.trans (congrArg some (by kernel_rfl))
 f213:=Tryz.func256.trans (congrArg some (by kernel_rfl))
 f265:=Tryz.func282.trans (congrArg some (by kernel_rfl))
 t3:=Tryz.underlying3
 a3:=Tryz.isAgg3
 z3:=Tryz.sizeOf3
 v3:=Tryz.zeroValue3
 t9:=Tryz.underlying9
 a9:=Tryz.isAgg9
 z9:=Tryz.sizeOf9
 v9:=Tryz.zeroValue9 }
def cmpB (a b:ByteArray):Int:=Lib.compareBytes a.data.toList b.data.toList
open Go.RowKit in
theorem compare_i (a b:ByteArray) (w:World):Calls Tryz.prog 207 #[.string a,.string b] w fun e w'=>e=.returned (.int .i64 (cmpB a b))/\w'=w:=Any.strings_Compare cLays106 a b w
end Go.Proofs.YtnmaknnnmjfhkagGreatDoor
