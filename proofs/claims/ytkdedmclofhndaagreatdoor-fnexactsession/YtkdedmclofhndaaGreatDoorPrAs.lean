import Derived.Test.YtkdedmclofhndaaGreatDoorPrAl
import Derived.WalkKit
import Derived.LaidEql
import Derived.Stop.Asserts
import Derived.RowKitTokens
import Derived.Test.YtkdedmclofhndaaGreatDoorProg
set_option maxHeartbeats 16000000
namespace Go.Proofs.YtkdedmclofhndaaGreatDoor
open Tryz
set_option maxRecDepth 20000
open Go.RowKit Go.Extern.Stop Go.Stop Go.Extern
theorem Je(t:qD)(w:xV):Calls prog 177 #[.nilIface,t] w λe a=>e=yT (yR false)/\a=w:=by
 go_enter func177,ntmps177;go_wp2;go_ret;exact⟨rfl,rfl⟩
theorem Kj(t:Addr)(w:xV):(ReflectliteValue.unpack (.iface 209 (.pointer (some t)))).run prog w
 =.ok (.agg #[zW 10 209,zW w.heap.size 0,.int .u64 150]) (w.alloc (.cells #[.pointer (some t)] 209)):=κ
theorem Ct(a:Addr)(w:xV):(ReflectliteValue.methodAny (ReflectliteValue.valueError "reflectlite.Value.Type" 0) (λt _ _ _=>ReflectliteType.toType t) #[.agg #[zW 10 209,.pointer (some a),.int .u64 150]]).run prog w
 =.ok (.iface 320 (.agg #[zW 10 209])) w:=κ
theorem Nd(j:Nat)(h:qD)(w:xV):(Go.method (j+1) 320 (.agg #[h]) "Kind").run prog w=.ok (317,h) w:=κ
theorem Ij(w:xV):((ReflectliteType.abiMethod λt=>(λa:Nat=>Value.int IntKind.u8 (a:Int)) <$> Rtype.kind t) #[zW 10 209]).run prog w=.ok (.int .u8 22) w:=κ
theorem Aq(w:xV):((ReflectliteType.abiMethod λt=>(λa:Nat=>Value.int IntKind.u8 (a:Int)) <$> Rtype.kind t) #[zW 10 207]).run prog w=.ok (.int .u8 22) w:=κ
theorem vD(z:Sem qD)(f:TypeId->Addr->Nat->Nat->Sem qD)(v:qD):ReflectliteValue.method z f #[v]=(do match <-ReflectliteValue.parts v with|none=>z|some (t,a,fl)=>f t a fl (fl % 32)):=rfl
theorem rM(a:Addr)(w:xV):(ReflectliteValue.parts (.agg #[zW 10 209,.pointer (some a),.int .u64 150])).run prog w=.ok (some (209,a,150)) w:=κ
theorem Ep(a p:Addr)(W:xV)(b:W.cell? a=some (.pointer (some p))):(ReflectliteValue.method (ReflectliteValue.valueError "reflectlite.Value.IsNil" 0) ReflectliteValue.isNil #[.agg #[zW 10 209,.pointer (some a),.int .u64 150]]).run prog W=.ok (yR false) W:=by
 rw[vD];simp only[IC,rM,Result.andThen];simp[ReflectliteValue.isNil,loadVar,isAgg,underlying,underlying209,b,Result.andThen]
theorem By(j:Nat)(h:qD)(w:xV):(Go.method (j+1) 320 (.agg #[h]) "Elem").run prog w=.ok (334,.agg #[h]) w:=κ
theorem F0(j:Nat)(h:qD)(w:xV):(Go.method (j+1) 320 (.agg #[h]) "Implements").run prog w=.ok (335,.agg #[h]) w:=κ
theorem Kf(j:Nat)(h:qD)(w:xV):(Go.method (j+1) 320 (.agg #[h]) "AssignableTo").run prog w=.ok (332,.agg #[h]) w:=κ
theorem H4(w:xV):(ReflectliteType.method ReflectliteType.elem #[.agg #[zW 10 209]]).run prog w=.ok (.iface 320 (.agg #[zW 10 207])) w:=κ
theorem Hc(w:xV):(ReflectliteType.relation "Implements" ReflectliteType.implements_ #[.agg #[zW 10 207],.iface 320 (.agg #[zW 10 57])]).run prog w=.ok (yR true) w:=κ
theorem Lk(v:qD)(w:xV):(ReflectliteType.typeOf #[.iface 207 v]).run prog w=.ok (.iface 320 (.agg #[zW 10 207])) w:=κ
theorem Lt(w:xV):(ReflectliteType.relation "AssignableTo" ReflectliteType.assignableTo #[.agg #[zW 10 207],.iface 320 (.agg #[zW 10 207])]).run prog w=.ok (yR true) w:=κ
theorem Fz(e:Addr)(w:xV):(ReflectliteValue.unpack (.iface 207 (.pointer (some e)))).run prog w
 =.ok (.agg #[zW 10 207,zW w.heap.size 0,.int .u64 150]) (w.alloc (.cells #[.pointer (some e)] 207)):=κ
theorem Hx(w:xV):(Rtype.elem? 209).run prog w=.ok (some 207) w:=κ
theorem N7(p:Addr)(w:xV):(ReflectliteValue.mk 207 p ReflectliteValue.flagAddr).run prog w=.ok (.agg #[zW 10 207,.pointer (some p),.int .u64 406]) w:=κ
theorem Ks(a p:Addr)(W:xV)(b:W.cell? a=some (.pointer (some p))):(ReflectliteValue.method (ReflectliteValue.valueError "reflectlite.Value.Elem" 0) ReflectliteValue.elem #[.agg #[zW 10 209,.pointer (some a),.int .u64 150]]).run prog W
  =.ok (.agg #[zW 10 207,.pointer (some p),.int .u64 406]) W:=by
 rw[vD];simp only[IC,rM,Result.andThen];simp[ReflectliteValue.elem,loadVar,isAgg,underlying,underlying209,b,Result.andThen,Hx,N7]
theorem J2(v x:qD):ReflectliteValue.set #[v,x]=(do
  let (some (dst,a,fl),some (src,b,_)):=(<-ReflectliteValue.parts v,<-ReflectliteValue.parts x)
   | unsupported (.noEntry "extern/(internal/reflectlite.Value).Set.zeroValue")
  if fl / ReflectliteValue.flagAddr % 2 == 0 then unsupported (.noEntry "extern/(internal/reflectlite.Value).Set.unaddressable")
  let val <-loadVar src b
  if <-Rtype.directlyAssignable dst src then storeVar dst a val
  else if <-Rtype.implements dst src then
   if (<-Rtype.kind src) == 20 then
    match val with
    | .nilIface=>unsupported (.noEntry "extern/reflectlite: a nil value of one interface type handed on as a value of another")
    | _=>storeVar dst a val
   else storeVar dst a (.iface src val)
  else panicString ("reflectlite.Set: value of type "++(<-Rtype.spelt src)++ " is not assignable to type "++(<-Rtype.spelt dst))
  pure (.tuple #[])):=rfl
theorem Fc(a:Addr)(w:xV):(ReflectliteValue.parts (.agg #[zW 10 207,.pointer (some a),.int .u64 406])).run prog w=.ok (some (207,a,406)) w:=κ
theorem Ci(a:Addr)(w:xV):(ReflectliteValue.parts (.agg #[zW 10 207,.pointer (some a),.int .u64 150])).run prog w=.ok (some (207,a,150)) w:=κ
theorem E0(w:xV):(Rtype.directlyAssignable 207 207).run prog w=.ok true w:=κ
theorem Kz(a b e:Addr)(c:qD)(W:xV)(d:W.cell? b=some (.pointer (some e)))(g:W.cell? a=some c)(f:W.frozen? a=false):(ReflectliteValue.set #[.agg #[zW 10 207,.pointer (some a),.int .u64 406],.agg #[zW 10 207,.pointer (some b),.int .u64 150]]).run prog W
  =.ok (.tuple #[]) (W.setCell a (.pointer (some e))):=by
 rw[J2];simp only[IC,Fc,Ci,Result.andThen];simp[ReflectliteValue.flagAddr,loadVar,isAgg,underlying,underlying207,d,Result.andThen,E0,storeVar,Value.cells,storeCells,Addr.add];rw[run_store prog W a _ _ ρ];simp[g,f]
theorem M6(e t:Addr)(c:qD)(w:xV)(d:w.cell? (yA 1 0)=some (.iface 320 (.agg #[zW 10 57])))(b:w.cell? t=some c)(f:w.frozen? t=false):Calls prog 177 #[.iface 207 (.pointer (some e)),.iface 209 (.pointer (some t))] w λa g=>a=yT (yR true)/\g=((((w.alloc (.cells #[.pointer (some t)] 209)).alloc (.cells #[zW 10 209,zW w.heap.size 0,.int .u64 150] 265)).alloc (.cells #[zW 10 209,zW w.heap.size 0,.int .u64 150] 265)).alloc (.cells #[.pointer (some e)] 207)).setCell t (.pointer (some e)):=by
 have A:=@EF prog 239 _ (λa=>ReflectliteValue.unpack (a.getD 0 (.tuple #[]))) func239 κ κ κ κ
 have B:=@EF prog 240 _ (ReflectliteValue.methodAny (ReflectliteValue.valueError "reflectlite.Value.Type" 0) (λt _ _ _=>ReflectliteType.toType t)) func240 κ κ κ κ
 have C:=@EF prog 241 _ (ReflectliteValue.method (ReflectliteValue.valueError "reflectlite.Value.IsNil" 0) ReflectliteValue.isNil) func241 κ κ κ κ
 have n:=@EF prog 317 _ (ReflectliteType.abiMethod λt=>do pure (.int .u8 (<-Rtype.kind t))) func317 κ κ κ κ;have p:=@EF prog 334 _ (ReflectliteType.method ReflectliteType.elem) func334 κ κ κ κ
 have q:=@EF prog 335 _ (ReflectliteType.relation "Implements" ReflectliteType.implements_) func335 κ κ κ κ
 have k:=@EF prog 284 _ ReflectliteType.typeOf func284 κ κ κ κ
 have o:=@EF prog 332 _ (ReflectliteType.relation "AssignableTo" ReflectliteType.assignableTo) func332 κ κ κ κ
 have l:=@EF prog 285 _ (ReflectliteValue.method (ReflectliteValue.valueError "reflectlite.Value.Elem" 0) ReflectliteValue.elem) func285 κ κ κ κ
 have m:=@EF prog 286 _ ReflectliteValue.set func286 κ κ κ κ;have J:=Lk;have D:=Kf;have i:=Lt;have x:=Fz;have y:=Kj;have z:=Ct;have G:=Nd;have E:=By;have F:=F0;have v:=Ij;have u:=Aq;have j:=H4;have s:=Hc;have H:=Ep (yA w.heap.size 0) t ((w.alloc (.cells #[.pointer (some t)] 209)).alloc (.cells #[zW 10 209,zW w.heap.size 0,.int .u64 150] 265)) σ
 have g:1<w.heap.size:=by
  rcases FX 1 w.heap.size with h|h
  ·exact h
  simp[World.cell?,EG h]at d
 have r:((w.alloc (.cells #[.pointer (some t)] 209)).alloc (.cells #[zW 10 209,zW w.heap.size 0,.int .u64 150] 265)).cell? (yA 1 0)=some (.iface 320 (.agg #[zW 10 57])):=by
  rw[GD _ _ (yA 1 0) τ,GD _ _ (yA 1 0) g];exact d
 have a:t.block<w.heap.size:=by
  rcases FX t.block w.heap.size with h|h
  ·exact h
  simp[World.cell?,EG h]at b
 have h:=Ks (yA w.heap.size 0) t (((w.alloc (.cells #[.pointer (some t)] 209)).alloc (.cells #[zW 10 209,zW w.heap.size 0,.int .u64 150] 265)).alloc (.cells #[zW 10 209,zW w.heap.size 0,.int .u64 150] 265)) (by rw[GD _ _ (yA w.heap.size 0) τ];simp)
 have I:=Kz t (yA (w.heap.size+1+1+1) 0) e c ((((w.alloc (.cells #[.pointer (some t)] 209)).alloc (.cells #[zW 10 209,zW w.heap.size 0,.int .u64 150] 265)).alloc (.cells #[zW 10 209,zW w.heap.size 0,.int .u64 150] 265)).alloc (.cells #[.pointer (some e)] 207))
  (by rw[EH _ _ _ _ σ];rfl)
  (by rw[GD _ _ t τ,GD _ _ t τ,GD _ _ t τ,GD _ _ t a];exact b)
  (by rw[IK _ _ t τ,IK _ _ t τ,IK _ _ t τ,IK _ _ t (Nat.ne_of_lt a)];exact f)
 go_enter func177,ntmps177;go_wp2;refine wp_loop_rounds 1 ?_;rw[rounds_succ];go_wp2;go_ret;exact⟨rfl,rfl⟩
