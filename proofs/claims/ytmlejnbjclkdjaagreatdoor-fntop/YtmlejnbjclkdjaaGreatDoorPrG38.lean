import Derived.Test.YtmlejnbjclkdjaaGreatDoorPrAl
import Derived.Shelf.Strings.Builder1
import Derived.Test.YtmlejnbjclkdjaaGreatDoorProg
import Derived.Conc.MuLone
import Derived.KernelRfl
set_option maxHeartbeats 16000000
set_option maxRecDepth 8000
set_option linter.all false
namespace Go.Proofs.YtmlejnbjclkdjaaGreatDoor
section
open Tryz
open Go.Shelf
def sd:Go.Shelf.Ren:=⟨fun|166=>149|240=>195|276=>218|169=>151|n=>n,fun|0=>0|3=>3|4=>4|5=>5|9=>9|20=>20|37=>22|70=>219|72=>221|75=>91|80=>105|164=>148|127=>264|n=>n,fun|n=>n⟩
theorem qW:Go.Proofs.Lays.n166 prog sd:={
 mixed:=κ
 f166:=func149.j (CX some κ)
 f240:=func195.j (CX some κ)
 f276:=func218.j (CX some κ)
 t0:=underlying0
 a0:=isAgg0
 z0:=sizeOf0
 v0:=zeroValue0
 t3:=underlying3
 a3:=isAgg3
 z3:=sizeOf3
 v3:=zeroValue3
 t4:=underlying4
 a4:=isAgg4
 z4:=sizeOf4
 v4:=zeroValue4
 t9:=underlying9
 a9:=isAgg9
 z9:=sizeOf9
 v9:=zeroValue9
 t20:=underlying20
 a20:=isAgg20
 z20:=sizeOf20
 v20:=zeroValue20
 t37:=underlying22
 a37:=isAgg22
 z37:=sizeOf22
 v37:=zeroValue22
 t70:=underlying219
 a70:=isAgg219
 z70:=sizeOf219
 v70:=zeroValue219
 t72:=underlying221
 a72:=isAgg221
 z72:=sizeOf221
 v72:=zeroValue221
 t75:=underlying91
 a75:=isAgg91
 z75:=sizeOf91
 v75:=zeroValue91
 t164:=underlying148
 a164:=isAgg148
 z164:=sizeOf148
 v164:=zeroValue148 }
theorem uS:Go.Proofs.Lays.n169 prog sd:={
 mixed:=κ
 f169:=func151.j (CX some κ)
 t0:=underlying0
 a0:=isAgg0
 z0:=sizeOf0
 v0:=zeroValue0
 t3:=underlying3
 a3:=isAgg3
 z3:=sizeOf3
 v3:=zeroValue3
 t9:=underlying9
 a9:=isAgg9
 z9:=sizeOf9
 v9:=zeroValue9
 t37:=underlying22
 a37:=isAgg22
 z37:=sizeOf22
 v37:=zeroValue22
 t70:=underlying219
 a70:=isAgg219
 z70:=sizeOf219
 v70:=zeroValue219
 t72:=underlying221
 a72:=isAgg221
 z72:=sizeOf221
 v72:=zeroValue221
 t127:=underlying264
 a127:=isAgg264
 z127:=sizeOf264
 v127:=zeroValue264 }
theorem kx:Builder.Extra prog sd:={
 sizeBuilder:=κ
 liesBuilder:=κ
 t5:=underlying5
 a5:=isAgg5
 z5:=sizeOf5
 v5:=zeroValue5
 infoByte:=κ
 cellsByte:=κ
 sizeByte:=κ
 neB5:=by decide }
open Go.RowKit in
theorem zy(B b:Nat)(bs:List Nc)(s:Y)(w:Nb)(h:Lib.IsBuilder 221 5 B b bs w)(c:bs.length+s.size<=140737488355328)(d:B<=w.heap.size):Calls prog 149 #[Mv b 0,Mz s] w λe a=>e=M3 (.tuple #[.int .i64 s.size,.nilIface])/\(Lib.BuilderAt 221 5 B b (Mv b 0) (bs++Lib.strCells s) a/\Below B w a):=Any.Builder_WriteString qW kx B b bs s w h c d
open Go.RowKit in
theorem Bu(B b:Nat)(l:List UInt8)(w:Nb)(h:Lib.IsBuilder 221 5 B b (Lib.byteCells l) w)(a:B<=w.heap.size):Calls prog 151 #[Mv b 0] w λe c=>e=M3 (Mz ⟨l.toArray⟩)/\Below B w c:=Any.Builder_String_any uS kx B b l w h a
end
section
open Tryz
abbrev Ml:Go.Conc.Locks.MuLink:={ lock:=70,unlock:=71,ilock:=125,iunlock:=126,lockSlow:=177,unlockSlow:=180,disable:=173,enable:=175,acquire:=176,relMerge:=178,cas32:=174,add32:=179,tMutex:=74,tIMutex:=72,tPMutex:=190,tPIMutex:=247,tPI32:=249,tUP:=148,tNoCopy:=69,tU32:=70 }
theorem tS:Go.Conc.Locks.MuLib prog Ml :=⟨func70,func71,func125,func126,func173,func175,func176,func178,func174,func179,underlying72,runUnderlying72,sizeOf72,isAgg72,zeroValue72,underlying74,runUnderlying74,sizeOf74,isAgg74,zeroValue74,underlying190,runUnderlying190,sizeOf190,isAgg190,zeroValue190,underlying247,runUnderlying247,sizeOf247,isAgg247,zeroValue247,underlying249,runUnderlying249,sizeOf249,isAgg249,zeroValue249,underlying148,runUnderlying148,sizeOf148,isAgg148,zeroValue148,underlying69,runUnderlying69,sizeOf69,isAgg69,zeroValue69,underlying21,runUnderlying21,sizeOf21,isAgg21,zeroValue21,κ⟩
