import Derived.Test.YthcfgbpailnahaaGreatDoorPrAl
import Derived.WalkKit
import Derived.LaidEql
import Derived.Stop.Asserts
import Derived.RowKitTokens
import Derived.Test.YthcfgbpailnahaaGreatDoorProg
set_option linter.all false
set_option maxHeartbeats 16000000
namespace Go.Proofs.YthcfgbpailnahaaGreatDoor
open Tryz
open Go.RowKit Go.Extern.Stop Go.Stop Go.Extern
def Cc(t:Value)(w:World):Calls prog 240 #[.nilIface,t] w λe w'=>e=.returned (.bool false)/\w'=w:=by
 go_enter func240,ntmps240;go_wp2;go_ret;exact⟨rfl,rfl⟩
def Dq(t:Addr)(w:World):(ReflectliteValue.unpack (.iface 301 (.pointer (some t)))).run prog w
 =.ok (.agg #[.pointer (some ⟨3,301,none⟩),.pointer (some ⟨w.heap.size,0,none⟩),.int .u64 150]) (w.alloc (.cells #[.pointer (some t)] 301)):=by kernel_rfl
def uI(a:Addr)(w:World):(ReflectliteValue.methodAny (ReflectliteValue.valueError "reflectlite.Value.Type" 0) (λt _ _ _=>ReflectliteType.toType t) #[.agg #[.pointer (some ⟨3,301,none⟩),.pointer (some a),.int .u64 150]]).run prog w
 =.ok (.iface 318 (.agg #[.pointer (some ⟨3,301,none⟩)])) w:=by kernel_rfl
def Gx(j:Nat)(h:Value)(w:World):(Go.method (j+1) 318 (.agg #[h]) "Kind").run prog w=.ok (264,h) w:=by kernel_rfl
def Aw(w:World):((ReflectliteType.abiMethod λt=>(λa:Nat=>Value.int IntKind.u8 (a:Int)) <$> Rtype.kind t) #[.pointer (some ⟨3,301,none⟩)]).run prog w=.ok (.int .u8 22) w:=by kernel_rfl
def sI(w:World):((ReflectliteType.abiMethod λt=>(λa:Nat=>Value.int IntKind.u8 (a:Int)) <$> Rtype.kind t) #[.pointer (some ⟨3,299,none⟩)]).run prog w=.ok (.int .u8 22) w:=by kernel_rfl
def nW(z:Sem Value)(f:TypeId->Addr->Nat->Nat->Sem Value)(v:Value):ReflectliteValue.method z f #[v]=(do match <-ReflectliteValue.parts v with|none=>z|some (t,a,fl)=>f t a fl (fl % 32)):=rfl
def wt(a:Addr)(w:World):(ReflectliteValue.parts (.agg #[.pointer (some ⟨3,301,none⟩),.pointer (some a),.int .u64 150])).run prog w=.ok (some (301,a,150)) w:=by kernel_rfl
def vY(a p:Addr)(W:World)(ha:W.cell? a=some (.pointer (some p))):(ReflectliteValue.method (ReflectliteValue.valueError "reflectlite.Value.IsNil" 0) ReflectliteValue.isNil #[.agg #[.pointer (some ⟨3,301,none⟩),.pointer (some a),.int .u64 150]]).run prog W=.ok (.bool false) W:=by
 rw[nW];simp only[GY,wt,Result.andThen];simp[ReflectliteValue.isNil,loadVar,isAgg,underlying,underlying301,ha,Result.andThen]
def tM(j:Nat)(h:Value)(w:World):(Go.method (j+1) 318 (.agg #[h]) "Elem").run prog w=.ok (296,.agg #[h]) w:=by kernel_rfl
def xY(j:Nat)(h:Value)(w:World):(Go.method (j+1) 318 (.agg #[h]) "Implements").run prog w=.ok (297,.agg #[h]) w:=by kernel_rfl
def Dn(j:Nat)(h:Value)(w:World):(Go.method (j+1) 318 (.agg #[h]) "AssignableTo").run prog w=.ok (294,.agg #[h]) w:=by kernel_rfl
def Ak(w:World):(ReflectliteType.method ReflectliteType.elem #[.agg #[.pointer (some ⟨3,301,none⟩)]]).run prog w=.ok (.iface 318 (.agg #[.pointer (some ⟨3,299,none⟩)])) w:=by kernel_rfl
def zE(w:World):(ReflectliteType.relation "Implements" ReflectliteType.implements_ #[.agg #[.pointer (some ⟨3,299,none⟩)],.iface 318 (.agg #[.pointer (some ⟨3,223,none⟩)])]).run prog w=.ok (.bool true) w:=by kernel_rfl
def Er(v:Value)(w:World):(ReflectliteType.typeOf #[.iface 299 v]).run prog w=.ok (.iface 318 (.agg #[.pointer (some ⟨3,299,none⟩)])) w:=by kernel_rfl
def Ez(w:World):(ReflectliteType.relation "AssignableTo" ReflectliteType.assignableTo #[.agg #[.pointer (some ⟨3,299,none⟩)],.iface 318 (.agg #[.pointer (some ⟨3,299,none⟩)])]).run prog w=.ok (.bool true) w:=by kernel_rfl
def xX(e:Addr)(w:World):(ReflectliteValue.unpack (.iface 299 (.pointer (some e)))).run prog w
 =.ok (.agg #[.pointer (some ⟨3,299,none⟩),.pointer (some ⟨w.heap.size,0,none⟩),.int .u64 150]) (w.alloc (.cells #[.pointer (some e)] 299)):=by kernel_rfl
def Af(w:World):(Rtype.elem? 301).run prog w=.ok (some 299) w:=by kernel_rfl
def Ib(p:Addr)(w:World):(ReflectliteValue.mk 299 p ReflectliteValue.flagAddr).run prog w=.ok (.agg #[.pointer (some ⟨3,299,none⟩),.pointer (some p),.int .u64 406]) w:=by kernel_rfl
def Dw(a p:Addr)(W:World)(ha:W.cell? a=some (.pointer (some p))):(ReflectliteValue.method (ReflectliteValue.valueError "reflectlite.Value.Elem" 0) ReflectliteValue.elem #[.agg #[.pointer (some ⟨3,301,none⟩),.pointer (some a),.int .u64 150]]).run prog W
  =.ok (.agg #[.pointer (some ⟨3,299,none⟩),.pointer (some p),.int .u64 406]) W:=by
 rw[nW];simp only[GY,wt,Result.andThen];simp[ReflectliteValue.elem,loadVar,isAgg,underlying,underlying301,ha,Result.andThen,Af,Ib]
def C0(v x:Value):ReflectliteValue.set #[v,x]=(do
  let (some (dst,a,fl),some (src,b,_)):=(<-ReflectliteValue.parts v,<-ReflectliteValue.parts x)
   | unsupported (.noEntry "extern/(internal/reflectlite.Value).Set.zeroValue")
  if fl / ReflectliteValue.flagAddr % 2 == 0 then unsupported (.noEntry "extern/(internal/reflectlite.Value).Set.unaddressable")
  let val <-loadVar src b
  if <-Rtype.directlyAssignable dst src then storeVar dst a val
  else if <-Rtype.implements dst src then
   if (<-Rtype.kind src) == 20 then
    match val with
    | .nilIface=>unsupported (.noEntry "extern/reflectlite: a nil value of one interface type handed on as a value of another")
    | _=>storeVar dst a val
   else storeVar dst a (.iface src val)
  else panicString ("reflectlite.Set: value of type "++(<-Rtype.spelt src)++ " is not assignable to type "++(<-Rtype.spelt dst))
  pure (.tuple #[])):=rfl
def wY(a:Addr)(w:World):(ReflectliteValue.parts (.agg #[.pointer (some ⟨3,299,none⟩),.pointer (some a),.int .u64 406])).run prog w=.ok (some (299,a,406)) w:=by kernel_rfl
def tZ(a:Addr)(w:World):(ReflectliteValue.parts (.agg #[.pointer (some ⟨3,299,none⟩),.pointer (some a),.int .u64 150])).run prog w=.ok (some (299,a,150)) w:=by kernel_rfl
def wN(w:World):(Rtype.directlyAssignable 299 299).run prog w=.ok true w:=by kernel_rfl
def D4(ta b e:Addr)(aA:Value)(W:World)(hb:W.cell? b=some (.pointer (some e)))(ht:W.cell? ta=some aA)(hf:W.frozen? ta=false):(ReflectliteValue.set #[.agg #[.pointer (some ⟨3,299,none⟩),.pointer (some ta),.int .u64 406],.agg #[.pointer (some ⟨3,299,none⟩),.pointer (some b),.int .u64 150]]).run prog W
  =.ok (.tuple #[]) (W.setCell ta (.pointer (some e))):=by
 rw[C0];simp only[GY,wY,tZ,Result.andThen];simp[ReflectliteValue.flagAddr,loadVar,isAgg,underlying,underlying299,hb,Result.andThen,wN,storeVar,Value.cells,storeCells,Addr.add];rw[run_store prog W ta _ _ (by rfl)];simp[ht,hf]
def Gp(e t:Addr)(aC:Value)(w:World)(hg:w.cell? ⟨0,0,none⟩=some (.iface 318 (.agg #[.pointer (some ⟨3,223,none⟩)])))(aA:w.cell? t=some aC)(aD:w.frozen? t=false):Calls prog 240 #[.iface 299 (.pointer (some e)),.iface 301 (.pointer (some t))] w λev w'=>ev=.returned (.bool true)/\w'=((((w.alloc (.cells #[.pointer (some t)] 301)).alloc (.cells #[.pointer (some ⟨3,301,none⟩),.pointer (some ⟨w.heap.size,0,none⟩),.int .u64 150] 305)).alloc (.cells #[.pointer (some ⟨3,301,none⟩),.pointer (some ⟨w.heap.size,0,none⟩),.int .u64 150] 305)).alloc (.cells #[.pointer (some e)] 299)).setCell t (.pointer (some e)):=by
 have h6:=@EC prog 243 _ (λargs=>ReflectliteValue.unpack (args.getD 0 (.tuple #[]))) func243 (by kernel_rfl) (by kernel_rfl) (by kernel_rfl) (by kernel_rfl)
 have h7:=@EC prog 244 _ (ReflectliteValue.methodAny (ReflectliteValue.valueError "reflectlite.Value.Type" 0) (λt _ _ _=>ReflectliteType.toType t)) func244 (by kernel_rfl) (by kernel_rfl) (by kernel_rfl) (by kernel_rfl)
 have h8:=@EC prog 245 _ (ReflectliteValue.method (ReflectliteValue.valueError "reflectlite.Value.IsNil" 0) ReflectliteValue.isNil) func245 (by kernel_rfl) (by kernel_rfl) (by kernel_rfl) (by kernel_rfl)
 have aK:=@EC prog 264 _ (ReflectliteType.abiMethod λt=>do pure (.int .u8 (<-Rtype.kind t))) func264 (by kernel_rfl) (by kernel_rfl) (by kernel_rfl) (by kernel_rfl);have aM:=@EC prog 296 _ (ReflectliteType.method ReflectliteType.elem) func296 (by kernel_rfl) (by kernel_rfl) (by kernel_rfl) (by kernel_rfl)
 have aN:=@EC prog 297 _ (ReflectliteType.relation "Implements" ReflectliteType.implements_) func297 (by kernel_rfl) (by kernel_rfl) (by kernel_rfl) (by kernel_rfl)
 have aH:=@EC prog 247 _ ReflectliteType.typeOf func247 (by kernel_rfl) (by kernel_rfl) (by kernel_rfl) (by kernel_rfl)
 have aL:=@EC prog 294 _ (ReflectliteType.relation "AssignableTo" ReflectliteType.assignableTo) func294 (by kernel_rfl) (by kernel_rfl) (by kernel_rfl) (by kernel_rfl)
 have aI:=@EC prog 248 _ (ReflectliteValue.method (ReflectliteValue.valueError "reflectlite.Value.Elem" 0) ReflectliteValue.elem) func248 (by kernel_rfl) (by kernel_rfl) (by kernel_rfl) (by kernel_rfl)
 have aJ:=@EC prog 249 _ ReflectliteValue.set func249 (by kernel_rfl) (by kernel_rfl) (by kernel_rfl) (by kernel_rfl);have tO:=Er;have mA:=Dn;have aF:=Ez;have aS:=xX;have f6:=Dq;have f7:=uI;have mK:=Gx;have mE:=tM;have mI:=xY;have aR:=Aw;have aQ:=sI;have aG:=Ak;have aP:=zE;have n8:=vY ⟨w.heap.size,0,none⟩ t ((w.alloc (.cells #[.pointer (some t)] 301)).alloc (.cells #[.pointer (some ⟨3,301,none⟩),.pointer (some ⟨w.heap.size,0,none⟩),.int .u64 150] 305)) (by simp)
 have aE:0<w.heap.size:=by
  rcases GD w.heap.size with h0|h
  ·simp[World.cell?,h0]at hg
  exact h
 have aO:((w.alloc (.cells #[.pointer (some t)] 301)).alloc (.cells #[.pointer (some ⟨3,301,none⟩),.pointer (some ⟨w.heap.size,0,none⟩),.int .u64 150] 305)).cell? ⟨0,0,none⟩=some (.iface 318 (.agg #[.pointer (some ⟨3,223,none⟩)])):=by
  rw[FK _ _ ⟨0,0,none⟩ (by simp),FK _ _ ⟨0,0,none⟩ aE];exact hg
 have aB:t.block<w.heap.size:=by
  rcases GN t.block w.heap.size with h|h
  ·exact h
  simp[World.cell?,DW h]at aA
 have el:=Dw ⟨w.heap.size,0,none⟩ t (((w.alloc (.cells #[.pointer (some t)] 301)).alloc (.cells #[.pointer (some ⟨3,301,none⟩),.pointer (some ⟨w.heap.size,0,none⟩),.int .u64 150] 305)).alloc (.cells #[.pointer (some ⟨3,301,none⟩),.pointer (some ⟨w.heap.size,0,none⟩),.int .u64 150] 305)) (by rw[FK _ _ ⟨w.heap.size,0,none⟩ (by simp;omega)];simp)
 have st:=D4 t ⟨w.heap.size+1+1+1,0,none⟩ e aC ((((w.alloc (.cells #[.pointer (some t)] 301)).alloc (.cells #[.pointer (some ⟨3,301,none⟩),.pointer (some ⟨w.heap.size,0,none⟩),.int .u64 150] 305)).alloc (.cells #[.pointer (some ⟨3,301,none⟩),.pointer (some ⟨w.heap.size,0,none⟩),.int .u64 150] 305)).alloc (.cells #[.pointer (some e)] 299))
  (by rw[DT _ _ _ _ (by simp)];rfl)
  (by rw[FK _ _ t (by simp;omega),FK _ _ t (by simp;omega),FK _ _ t (by simp;omega),FK _ _ t aB];exact aA)
  (by rw[GV _ _ t (by simp;omega),GV _ _ t (by simp;omega),GV _ _ t (by simp;omega),GV _ _ t (Nat.ne_of_lt aB)];exact aD)
 go_enter func240,ntmps240;go_wp2;refine GE 1 ?_;rw[IR];go_wp2;go_ret;exact⟨rfl,rfl⟩
