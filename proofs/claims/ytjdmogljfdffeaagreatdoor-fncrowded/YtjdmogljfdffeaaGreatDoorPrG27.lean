import Derived.Test.YtjdmogljfdffeaaGreatDoorPrAl
import Derived.Shelf.Strings.Builder1
import Derived.Test.YtjdmogljfdffeaaGreatDoorProg
import Derived.Conc.MuLone
import Derived.KernelRfl
set_option maxHeartbeats 16000000
set_option maxRecDepth 8000
set_option linter.all false
namespace Go.Proofs.YtjdmogljfdffeaaGreatDoor
section
open Tryz
open Go.Shelf
def sn:Go.Shelf.Ren:=⟨fun|166=>75|240=>114|276=>150|169=>77|n=>n,fun|0=>0|3=>3|4=>4|5=>5|9=>9|20=>20|37=>22|70=>121|72=>123|75=>125|80=>131|164=>207|127=>171|n=>n,fun|n=>n⟩
theorem qV:Go.Proofs.Lays.n166 prog sn:={
 mixed:=κ
 f166:=func75.j (BY some κ)
 f240:=func114.j (BY some κ)
 f276:=func150.j (BY some κ)
 t0:=underlying0
 a0:=isAgg0
 z0:=sizeOf0
 v0:=zeroValue0
 t3:=underlying3
 a3:=isAgg3
 z3:=sizeOf3
 v3:=zeroValue3
 t4:=underlying4
 a4:=isAgg4
 z4:=sizeOf4
 v4:=zeroValue4
 t9:=underlying9
 a9:=isAgg9
 z9:=sizeOf9
 v9:=zeroValue9
 t20:=underlying20
 a20:=isAgg20
 z20:=sizeOf20
 v20:=zeroValue20
 t37:=underlying22
 a37:=isAgg22
 z37:=sizeOf22
 v37:=zeroValue22
 t70:=underlying121
 a70:=isAgg121
 z70:=sizeOf121
 v70:=zeroValue121
 t72:=underlying123
 a72:=isAgg123
 z72:=sizeOf123
 v72:=zeroValue123
 t75:=underlying125
 a75:=isAgg125
 z75:=sizeOf125
 v75:=zeroValue125
 t164:=underlying207
 a164:=isAgg207
 z164:=sizeOf207
 v164:=zeroValue207 }
theorem tY:Go.Proofs.Lays.n169 prog sn:={
 mixed:=κ
 f169:=func77.j (BY some κ)
 t0:=underlying0
 a0:=isAgg0
 z0:=sizeOf0
 v0:=zeroValue0
 t3:=underlying3
 a3:=isAgg3
 z3:=sizeOf3
 v3:=zeroValue3
 t9:=underlying9
 a9:=isAgg9
 z9:=sizeOf9
 v9:=zeroValue9
 t37:=underlying22
 a37:=isAgg22
 z37:=sizeOf22
 v37:=zeroValue22
 t70:=underlying121
 a70:=isAgg121
 z70:=sizeOf121
 v70:=zeroValue121
 t72:=underlying123
 a72:=isAgg123
 z72:=sizeOf123
 v72:=zeroValue123
 t127:=underlying171
 a127:=isAgg171
 z127:=sizeOf171
 v127:=zeroValue171 }
theorem mg:Builder.Extra prog sn:={
 sizeBuilder:=κ
 liesBuilder:=κ
 t5:=underlying5
 a5:=isAgg5
 z5:=sizeOf5
 v5:=zeroValue5
 infoByte:=κ
 cellsByte:=κ
 sizeByte:=κ
 neB5:=by decide }
open Go.RowKit in
theorem ce(B b:Nat)(bs:List Value)(s:ByteArray)(w:World)(h:Lib.IsBuilder 123 5 B b bs w)(c:bs.length+s.size<=140737488355328)(d:B<=w.heap.size):Calls prog 75 #[.pointer (some ⟨b,0,none⟩),.string s] w λe a=>e=.returned (.tuple #[.int .i64 s.size,.nilIface])/\(Lib.BuilderAt 123 5 B b (.pointer (some ⟨b,0,none⟩)) (bs++Lib.strCells s) a/\Below B w a):=Any.Builder_WriteString qV mg B b bs s w h c d
open Go.RowKit in
theorem Al(B b:Nat)(l:List UInt8)(w:World)(h:Lib.IsBuilder 123 5 B b (Lib.byteCells l) w)(a:B<=w.heap.size):Calls prog 77 #[.pointer (some ⟨b,0,none⟩)] w λe c=>e=.returned (.string ⟨l.toArray⟩)/\Below B w c:=Any.Builder_String_any tY mg B b l w h a
end
section
open Tryz
abbrev Jn:Go.Conc.Locks.MuLink:={ lock:=60,unlock:=61,ilock:=104,iunlock:=105,lockSlow:=146,unlockSlow:=149,disable:=142,enable:=144,acquire:=145,relMerge:=147,cas32:=143,add32:=148,tMutex:=62,tIMutex:=60,tPMutex:=158,tPIMutex:=203,tPI32:=205,tUP:=207,tNoCopy:=57,tU32:=58 }
theorem tG:Go.Conc.Locks.MuLib prog Jn :=⟨func60,func61,func104,func105,func142,func144,func145,func147,func143,func148,underlying60,runUnderlying60,sizeOf60,isAgg60,zeroValue60,underlying62,runUnderlying62,sizeOf62,isAgg62,zeroValue62,underlying158,runUnderlying158,sizeOf158,isAgg158,zeroValue158,underlying203,runUnderlying203,sizeOf203,isAgg203,zeroValue203,underlying205,runUnderlying205,sizeOf205,isAgg205,zeroValue205,underlying207,runUnderlying207,sizeOf207,isAgg207,zeroValue207,underlying57,runUnderlying57,sizeOf57,isAgg57,zeroValue57,underlying21,runUnderlying21,sizeOf21,isAgg21,zeroValue21,κ⟩
