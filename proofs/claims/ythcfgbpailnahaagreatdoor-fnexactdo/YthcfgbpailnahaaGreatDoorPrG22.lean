import Derived.Test.YthcfgbpailnahaaGreatDoorPrAl
import Derived.Shelf.Strings.Builder1
import Derived.Test.YthcfgbpailnahaaGreatDoorProg
import Derived.Conc.MuLone
import Derived.KernelRfl
set_option maxHeartbeats 16000000
set_option maxRecDepth 8000
set_option linter.all false
namespace Go.Proofs.YthcfgbpailnahaaGreatDoor
section
open Tryz
open Go.Shelf
def kr:Go.Shelf.Ren:=⟨fun|166=>168|240=>212|276=>233|169=>170|n=>n,fun|0=>0|3=>3|4=>4|5=>5|9=>9|20=>20|37=>172|70=>215|72=>217|75=>223|80=>227|164=>245|127=>267|n=>n,fun|n=>n⟩
def zk:Go.Proofs.Lays.n166 prog kr:={
 mixed:=by kernel_rfl
 f166:=func168.j (BT some (by kernel_rfl))
 f240:=func212.j (BT some (by kernel_rfl))
 f276:=func233.j (BT some (by kernel_rfl))
 t0:=underlying0
 a0:=isAgg0
 z0:=sizeOf0
 v0:=zeroValue0
 t3:=underlying3
 a3:=isAgg3
 z3:=sizeOf3
 v3:=zeroValue3
 t4:=underlying4
 a4:=isAgg4
 z4:=sizeOf4
 v4:=zeroValue4
 t9:=underlying9
 a9:=isAgg9
 z9:=sizeOf9
 v9:=zeroValue9
 t20:=underlying20
 a20:=isAgg20
 z20:=sizeOf20
 v20:=zeroValue20
 t37:=underlying172
 a37:=isAgg172
 z37:=sizeOf172
 v37:=zeroValue172
 t70:=underlying215
 a70:=isAgg215
 z70:=sizeOf215
 v70:=zeroValue215
 t72:=underlying217
 a72:=isAgg217
 z72:=sizeOf217
 v72:=zeroValue217
 t75:=underlying223
 a75:=isAgg223
 z75:=sizeOf223
 v75:=zeroValue223
 t164:=underlying245
 a164:=isAgg245
 z164:=sizeOf245
 v164:=zeroValue245 }
def pF:Go.Proofs.Lays.n169 prog kr:={
 mixed:=by kernel_rfl
 f169:=func170.j (BT some (by kernel_rfl))
 t0:=underlying0
 a0:=isAgg0
 z0:=sizeOf0
 v0:=zeroValue0
 t3:=underlying3
 a3:=isAgg3
 z3:=sizeOf3
 v3:=zeroValue3
 t9:=underlying9
 a9:=isAgg9
 z9:=sizeOf9
 v9:=zeroValue9
 t37:=underlying172
 a37:=isAgg172
 z37:=sizeOf172
 v37:=zeroValue172
 t70:=underlying215
 a70:=isAgg215
 z70:=sizeOf215
 v70:=zeroValue215
 t72:=underlying217
 a72:=isAgg217
 z72:=sizeOf217
 v72:=zeroValue217
 t127:=underlying267
 a127:=isAgg267
 z127:=sizeOf267
 v127:=zeroValue267 }
def gh:Builder.Extra prog kr:={
 sizeBuilder:=by kernel_rfl
 liesBuilder:=by kernel_rfl
 t5:=underlying5
 a5:=isAgg5
 z5:=sizeOf5
 v5:=zeroValue5
 infoByte:=by kernel_rfl
 cellsByte:=by kernel_rfl
 sizeByte:=by kernel_rfl
 neB5:=by decide }
open Go.RowKit in
def sd(B b:Nat)(bs:List Value)(s:ByteArray)(w:World)(h:Lib.IsBuilder 217 5 B b bs w)(aA:bs.length+s.size<=140737488355328)(aB:B<=w.heap.size):Calls prog 168 #[.pointer (some ⟨b,0,none⟩),.string s] w λe w'=>e=.returned (.tuple #[.int .i64 s.size,.nilIface])/\(Lib.BuilderAt 217 5 B b (.pointer (some ⟨b,0,none⟩)) (bs++Lib.strCells s) w'/\Below B w w'):=Any.Builder_WriteString zk gh B b bs s w h aA aB
open Go.RowKit in
def wP(B b:Nat)(l:List UInt8)(w:World)(h:Lib.IsBuilder 217 5 B b (Lib.byteCells l) w)(aA:B<=w.heap.size):Calls prog 170 #[.pointer (some ⟨b,0,none⟩)] w λe w'=>e=.returned (.string ⟨l.toArray⟩)/\Below B w w':=Any.Builder_String_any pF gh B b l w h aA
end
section
open Tryz
abbrev It:Go.Conc.Locks.MuLink:={ lock:=87,unlock:=88,ilock:=141,iunlock:=142,lockSlow:=191,unlockSlow:=194,disable:=187,enable:=189,acquire:=190,relMerge:=192,cas32:=188,add32:=193,tMutex:=86,tIMutex:=84,tPMutex:=195,tPIMutex:=241,tPI32:=243,tUP:=245,tNoCopy:=81,tU32:=82 }
def oI:Go.Conc.Locks.MuLib prog It :=⟨func87,func88,func141,func142,func187,func189,func190,func192,func188,func193,underlying84,runUnderlying84,sizeOf84,isAgg84,zeroValue84,underlying86,runUnderlying86,sizeOf86,isAgg86,zeroValue86,underlying195,runUnderlying195,sizeOf195,isAgg195,zeroValue195,underlying241,runUnderlying241,sizeOf241,isAgg241,zeroValue241,underlying243,runUnderlying243,sizeOf243,isAgg243,zeroValue243,underlying245,runUnderlying245,sizeOf245,isAgg245,zeroValue245,underlying81,runUnderlying81,sizeOf81,isAgg81,zeroValue81,underlying21,runUnderlying21,sizeOf21,isAgg21,zeroValue21,(by kernel_rfl)⟩
