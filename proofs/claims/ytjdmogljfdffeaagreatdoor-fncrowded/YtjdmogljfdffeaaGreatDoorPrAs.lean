import Derived.Test.YtjdmogljfdffeaaGreatDoorPrAl
import Derived.WalkKit
import Derived.LaidEql
import Derived.Stop.Asserts
import Derived.RowKitTokens
import Derived.Test.YtjdmogljfdffeaaGreatDoorProg
set_option maxHeartbeats 16000000
namespace Go.Proofs.YtjdmogljfdffeaaGreatDoor
open Tryz
set_option maxRecDepth 20000
open Go.RowKit Go.Extern.Stop Go.Stop Go.Extern
theorem Ei(t:Value)(w:World):Calls prog 193 #[.nilIface,t] w λe a=>e=.returned (.bool false)/\a=w:=by
 go_enter func193,ntmps193;go_wp2;go_ret;exact⟨rfl,rfl⟩
theorem Fr(t:Addr)(w:World):(ReflectliteValue.unpack (.iface 247 (.pointer (some t)))).run prog w
 =.ok (.agg #[.pointer (some ⟨3,247,none⟩),.pointer (some ⟨w.heap.size,0,none⟩),.int .u64 150]) (w.alloc (.cells #[.pointer (some t)] 247)):=κ
theorem yK(a:Addr)(w:World):(ReflectliteValue.methodAny (ReflectliteValue.valueError "reflectlite.Value.Type" 0) (λt _ _ _=>ReflectliteType.toType t) #[.agg #[.pointer (some ⟨3,247,none⟩),.pointer (some a),.int .u64 150]]).run prog w
 =.ok (.iface 263 (.agg #[.pointer (some ⟨3,247,none⟩)])) w:=κ
theorem In(j:Nat)(h:Value)(w:World):(Go.method (j+1) 263 (.agg #[h]) "Kind").run prog w=.ok (217,h) w:=κ
theorem Dk(w:World):((ReflectliteType.abiMethod λt=>(λa:Nat=>Value.int IntKind.u8 (a:Int)) <$> Rtype.kind t) #[.pointer (some ⟨3,247,none⟩)]).run prog w=.ok (.int .u8 22) w:=κ
theorem wY(w:World):((ReflectliteType.abiMethod λt=>(λa:Nat=>Value.int IntKind.u8 (a:Int)) <$> Rtype.kind t) #[.pointer (some ⟨3,245,none⟩)]).run prog w=.ok (.int .u8 22) w:=κ
theorem sO(z:Sem Value)(f:TypeId->Addr->Nat->Nat->Sem Value)(v:Value):ReflectliteValue.method z f #[v]=(do match <-ReflectliteValue.parts v with|none=>z|some (t,a,fl)=>f t a fl (fl % 32)):=rfl
theorem pM(a:Addr)(w:World):(ReflectliteValue.parts (.agg #[.pointer (some ⟨3,247,none⟩),.pointer (some a),.int .u64 150])).run prog w=.ok (some (247,a,150)) w:=κ
theorem zW(a p:Addr)(W:World)(b:W.cell? a=some (.pointer (some p))):(ReflectliteValue.method (ReflectliteValue.valueError "reflectlite.Value.IsNil" 0) ReflectliteValue.isNil #[.agg #[.pointer (some ⟨3,247,none⟩),.pointer (some a),.int .u64 150]]).run prog W=.ok (.bool false) W:=by
 rw[sO];simp only[GX,pM,Result.andThen];simp[ReflectliteValue.isNil,loadVar,isAgg,underlying,underlying247,b,Result.andThen]
theorem xV(j:Nat)(h:Value)(w:World):(Go.method (j+1) 263 (.agg #[h]) "Elem").run prog w=.ok (249,.agg #[h]) w:=κ
theorem Bo(j:Nat)(h:Value)(w:World):(Go.method (j+1) 263 (.agg #[h]) "Implements").run prog w=.ok (250,.agg #[h]) w:=κ
theorem Fo(j:Nat)(h:Value)(w:World):(Go.method (j+1) 263 (.agg #[h]) "AssignableTo").run prog w=.ok (247,.agg #[h]) w:=κ
theorem Db(w:World):(ReflectliteType.method ReflectliteType.elem #[.agg #[.pointer (some ⟨3,247,none⟩)]]).run prog w=.ok (.iface 263 (.agg #[.pointer (some ⟨3,245,none⟩)])) w:=κ
theorem Ck(w:World):(ReflectliteType.relation "Implements" ReflectliteType.implements_ #[.agg #[.pointer (some ⟨3,245,none⟩)],.iface 263 (.agg #[.pointer (some ⟨3,125,none⟩)])]).run prog w=.ok (.bool true) w:=κ
theorem Gv(v:Value)(w:World):(ReflectliteType.typeOf #[.iface 245 v]).run prog w=.ok (.iface 263 (.agg #[.pointer (some ⟨3,245,none⟩)])) w:=κ
theorem G0(w:World):(ReflectliteType.relation "AssignableTo" ReflectliteType.assignableTo #[.agg #[.pointer (some ⟨3,245,none⟩)],.iface 263 (.agg #[.pointer (some ⟨3,245,none⟩)])]).run prog w=.ok (.bool true) w:=κ
theorem Bm(e:Addr)(w:World):(ReflectliteValue.unpack (.iface 245 (.pointer (some e)))).run prog w
 =.ok (.agg #[.pointer (some ⟨3,245,none⟩),.pointer (some ⟨w.heap.size,0,none⟩),.int .u64 150]) (w.alloc (.cells #[.pointer (some e)] 245)):=κ
theorem Da(w:World):(Rtype.elem? 247).run prog w=.ok (some 245) w:=κ
theorem Je(p:Addr)(w:World):(ReflectliteValue.mk 245 p ReflectliteValue.flagAddr).run prog w=.ok (.agg #[.pointer (some ⟨3,245,none⟩),.pointer (some p),.int .u64 406]) w:=κ
theorem Fy(a p:Addr)(W:World)(b:W.cell? a=some (.pointer (some p))):(ReflectliteValue.method (ReflectliteValue.valueError "reflectlite.Value.Elem" 0) ReflectliteValue.elem #[.agg #[.pointer (some ⟨3,247,none⟩),.pointer (some a),.int .u64 150]]).run prog W
  =.ok (.agg #[.pointer (some ⟨3,245,none⟩),.pointer (some p),.int .u64 406]) W:=by
 rw[sO];simp only[GX,pM,Result.andThen];simp[ReflectliteValue.elem,loadVar,isAgg,underlying,underlying247,b,Result.andThen,Da,Je]
theorem Fb(v x:Value):ReflectliteValue.set #[v,x]=(do
  let (some (dst,a,fl),some (src,b,_)):=(<-ReflectliteValue.parts v,<-ReflectliteValue.parts x)
   | unsupported (.noEntry "extern/(internal/reflectlite.Value).Set.zeroValue")
  if fl / ReflectliteValue.flagAddr % 2 == 0 then unsupported (.noEntry "extern/(internal/reflectlite.Value).Set.unaddressable")
  let val <-loadVar src b
  if <-Rtype.directlyAssignable dst src then storeVar dst a val
  else if <-Rtype.implements dst src then
   if (<-Rtype.kind src) == 20 then
    match val with
    | .nilIface=>unsupported (.noEntry "extern/reflectlite: a nil value of one interface type handed on as a value of another")
    | _=>storeVar dst a val
   else storeVar dst a (.iface src val)
  else panicString ("reflectlite.Set: value of type "++(<-Rtype.spelt src)++ " is not assignable to type "++(<-Rtype.spelt dst))
  pure (.tuple #[])):=rfl
theorem Aq(a:Addr)(w:World):(ReflectliteValue.parts (.agg #[.pointer (some ⟨3,245,none⟩),.pointer (some a),.int .u64 406])).run prog w=.ok (some (245,a,406)) w:=κ
theorem yE(a:Addr)(w:World):(ReflectliteValue.parts (.agg #[.pointer (some ⟨3,245,none⟩),.pointer (some a),.int .u64 150])).run prog w=.ok (some (245,a,150)) w:=κ
theorem Aj(w:World):(Rtype.directlyAssignable 245 245).run prog w=.ok true w:=κ
theorem Gf(a b e:Addr)(c:Value)(W:World)(d:W.cell? b=some (.pointer (some e)))(g:W.cell? a=some c)(f:W.frozen? a=false):(ReflectliteValue.set #[.agg #[.pointer (some ⟨3,245,none⟩),.pointer (some a),.int .u64 406],.agg #[.pointer (some ⟨3,245,none⟩),.pointer (some b),.int .u64 150]]).run prog W
  =.ok (.tuple #[]) (W.setCell a (.pointer (some e))):=by
 rw[Fb];simp only[GX,Aq,yE,Result.andThen];simp[ReflectliteValue.flagAddr,loadVar,isAgg,underlying,underlying245,d,Result.andThen,Aj,storeVar,Value.cells,storeCells,Addr.add];rw[run_store prog W a _ _ ρ];simp[g,f]
theorem Ig(e t:Addr)(c:Value)(w:World)(d:w.cell? ⟨0,0,none⟩=some (.iface 263 (.agg #[.pointer (some ⟨3,125,none⟩)])))(b:w.cell? t=some c)(f:w.frozen? t=false):Calls prog 193 #[.iface 245 (.pointer (some e)),.iface 247 (.pointer (some t))] w λa g=>a=.returned (.bool true)/\g=((((w.alloc (.cells #[.pointer (some t)] 247)).alloc (.cells #[.pointer (some ⟨3,247,none⟩),.pointer (some ⟨w.heap.size,0,none⟩),.int .u64 150] 251)).alloc (.cells #[.pointer (some ⟨3,247,none⟩),.pointer (some ⟨w.heap.size,0,none⟩),.int .u64 150] 251)).alloc (.cells #[.pointer (some e)] 245)).setCell t (.pointer (some e)):=by
 have A:=@EJ prog 196 _ (λa=>ReflectliteValue.unpack (a.getD 0 (.tuple #[]))) func196 κ κ κ κ
 have B:=@EJ prog 197 _ (ReflectliteValue.methodAny (ReflectliteValue.valueError "reflectlite.Value.Type" 0) (λt _ _ _=>ReflectliteType.toType t)) func197 κ κ κ κ
 have C:=@EJ prog 198 _ (ReflectliteValue.method (ReflectliteValue.valueError "reflectlite.Value.IsNil" 0) ReflectliteValue.isNil) func198 κ κ κ κ
 have n:=@EJ prog 217 _ (ReflectliteType.abiMethod λt=>do pure (.int .u8 (<-Rtype.kind t))) func217 κ κ κ κ;have p:=@EJ prog 249 _ (ReflectliteType.method ReflectliteType.elem) func249 κ κ κ κ
 have q:=@EJ prog 250 _ (ReflectliteType.relation "Implements" ReflectliteType.implements_) func250 κ κ κ κ
 have k:=@EJ prog 200 _ ReflectliteType.typeOf func200 κ κ κ κ
 have o:=@EJ prog 247 _ (ReflectliteType.relation "AssignableTo" ReflectliteType.assignableTo) func247 κ κ κ κ
 have l:=@EJ prog 201 _ (ReflectliteValue.method (ReflectliteValue.valueError "reflectlite.Value.Elem" 0) ReflectliteValue.elem) func201 κ κ κ κ
 have m:=@EJ prog 202 _ ReflectliteValue.set func202 κ κ κ κ;have K:=Gv;have D:=Fo;have i:=G0;have x:=Bm;have y:=Fr;have z:=yK;have G:=In;have E:=xV;have F:=Bo;have v:=Dk;have u:=wY;have j:=Db;have s:=Ck;have H:=zW ⟨w.heap.size,0,none⟩ t ((w.alloc (.cells #[.pointer (some t)] 247)).alloc (.cells #[.pointer (some ⟨3,247,none⟩),.pointer (some ⟨w.heap.size,0,none⟩),.int .u64 150] 251)) σ
 have g:0<w.heap.size:=by
  rcases FY 0 w.heap.size with h|h
  ·exact h
  simp[World.cell?,DP h]at d
 have r:((w.alloc (.cells #[.pointer (some t)] 247)).alloc (.cells #[.pointer (some ⟨3,247,none⟩),.pointer (some ⟨w.heap.size,0,none⟩),.int .u64 150] 251)).cell? ⟨0,0,none⟩=some (.iface 263 (.agg #[.pointer (some ⟨3,125,none⟩)])):=by
  rw[FV _ _ ⟨0,0,none⟩ (by first|(simp;done)|(simp;omega)),FV _ _ ⟨0,0,none⟩ g];exact d
 have a:t.block<w.heap.size:=by
  rcases FY t.block w.heap.size with h|h
  ·exact h
  simp[World.cell?,DP h]at b
 have h:=Fy ⟨w.heap.size,0,none⟩ t (((w.alloc (.cells #[.pointer (some t)] 247)).alloc (.cells #[.pointer (some ⟨3,247,none⟩),.pointer (some ⟨w.heap.size,0,none⟩),.int .u64 150] 251)).alloc (.cells #[.pointer (some ⟨3,247,none⟩),.pointer (some ⟨w.heap.size,0,none⟩),.int .u64 150] 251)) (by rw[FV _ _ ⟨w.heap.size,0,none⟩ τ];simp)
 have I:=Gf t ⟨w.heap.size+1+1+1,0,none⟩ e c ((((w.alloc (.cells #[.pointer (some t)] 247)).alloc (.cells #[.pointer (some ⟨3,247,none⟩),.pointer (some ⟨w.heap.size,0,none⟩),.int .u64 150] 251)).alloc (.cells #[.pointer (some ⟨3,247,none⟩),.pointer (some ⟨w.heap.size,0,none⟩),.int .u64 150] 251)).alloc (.cells #[.pointer (some e)] 245))
  (by rw[EC _ _ _ _ σ];rfl)
  (by rw[FV _ _ t (by first|(simp;done)|(simp;omega)),FV _ _ t (by first|(simp;done)|(simp;omega)),FV _ _ t (by first|(simp;done)|(simp;omega)),FV _ _ t a];exact b)
  (by rw[GU _ _ t τ,GU _ _ t τ,GU _ _ t τ,GU _ _ t (Nat.ne_of_lt a)];exact f)
 go_enter func193,ntmps193;go_wp2;refine wp_loop_rounds 1 ?_;rw[rounds_succ];go_wp2;go_ret;exact⟨rfl,rfl⟩
