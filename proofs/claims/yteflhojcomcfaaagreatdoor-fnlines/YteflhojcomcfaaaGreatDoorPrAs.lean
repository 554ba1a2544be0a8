import Derived.Test.YteflhojcomcfaaaGreatDoorPrAl
import Derived.WalkKit
import Derived.LaidEql
import Derived.Stop.Asserts
import Derived.RowKitTokens
import Derived.Test.YteflhojcomcfaaaGreatDoorProg
set_option maxHeartbeats 16000000
namespace Go.Proofs.YteflhojcomcfaaaGreatDoor
open Tryz
set_option maxRecDepth 20000
open Go.RowKit Go.Extern.Stop Go.Stop Go.Extern
theorem K8(t:Ra)(w:Q9):Calls prog 158 #[.nilIface,t] w λe a=>e=Q2 (Q1 false)/\a=w:=by
 go_enter func158,ntmps158;go_wp2;go_ret;exact⟨z,z⟩
theorem Mk(t:Addr)(w:Q9):(ReflectliteValue.unpack (.iface 200 (.pointer (some t)))).run prog w
 =.ok (.agg #[Dr 10 200,Dr w.heap.size 0,.int .u64 150]) (w.alloc (.cells #[.pointer (some t)] 200)):=h
theorem E9(a:Addr)(w:Q9):(ReflectliteValue.methodAny (ReflectliteValue.valueError "reflectlite.Value.Type" 0) (λt _ _ _=>ReflectliteType.toType t) #[.agg #[Dr 10 200,.pointer (some a),.int .u64 150]]).run prog w
 =.ok (.iface 318 (.agg #[Dr 10 200])) w:=h
theorem Pe(j:Nat)(a:Ra)(w:Q9):(Go.method (j+1) 318 (.agg #[a]) "Kind").run prog w=.ok (316,a) w:=h
theorem Ka(w:Q9):((ReflectliteType.abiMethod λt=>(λa:Nat=>Value.int IntKind.u8 (a:Int)) <$> Rtype.kind t) #[Dr 10 200]).run prog w=.ok (.int .u8 22) w:=h
theorem C9(w:Q9):((ReflectliteType.abiMethod λt=>(λa:Nat=>Value.int IntKind.u8 (a:Int)) <$> Rtype.kind t) #[Dr 10 198]).run prog w=.ok (.int .u8 22) w:=h
theorem yD(z:Sem Ra)(f:TypeId->Addr->Nat->Nat->Sem Ra)(v:Ra):ReflectliteValue.method z f #[v]=(do match <-ReflectliteValue.parts v with|none=>z|some (t,a,fl)=>f t a fl (fl % 32)):=rfl
theorem vD(a:Addr)(w:Q9):(ReflectliteValue.parts (.agg #[Dr 10 200,.pointer (some a),.int .u64 150])).run prog w=.ok (some (200,a,150)) w:=h
theorem Gv(a p:Addr)(W:Q9)(b:W.cell? a=some (.pointer (some p))):(ReflectliteValue.method (ReflectliteValue.valueError "reflectlite.Value.IsNil" 0) ReflectliteValue.isNil #[.agg #[Dr 10 200,.pointer (some a),.int .u64 150]]).run prog W=.ok (Q1 false) W:=by
 rw[yD];simp only[IF,vD,Result.andThen];simp[ReflectliteValue.isNil,loadVar,isAgg,underlying,underlying200,b,Result.andThen]
theorem Ei(j:Nat)(a:Ra)(w:Q9):(Go.method (j+1) 318 (.agg #[a]) "Elem").run prog w=.ok (333,.agg #[a]) w:=h
theorem Id(j:Nat)(a:Ra)(w:Q9):(Go.method (j+1) 318 (.agg #[a]) "Implements").run prog w=.ok (334,.agg #[a]) w:=h
theorem Mg(j:Nat)(a:Ra)(w:Q9):(Go.method (j+1) 318 (.agg #[a]) "AssignableTo").run prog w=.ok (331,.agg #[a]) w:=h
theorem Jy(w:Q9):(ReflectliteType.method ReflectliteType.elem #[.agg #[Dr 10 200]]).run prog w=.ok (.iface 318 (.agg #[Dr 10 198])) w:=h
theorem Jc(w:Q9):(ReflectliteType.relation "Implements" ReflectliteType.implements_ #[.agg #[Dr 10 198],.iface 318 (.agg #[Dr 10 58])]).run prog w=.ok (Q1 true) w:=h
theorem Ni(v:Ra)(w:Q9):(ReflectliteType.typeOf #[.iface 198 v]).run prog w=.ok (.iface 318 (.agg #[Dr 10 198])) w:=h
theorem Nq(w:Q9):(ReflectliteType.relation "AssignableTo" ReflectliteType.assignableTo #[.agg #[Dr 10 198],.iface 318 (.agg #[Dr 10 198])]).run prog w=.ok (Q1 true) w:=h
theorem Ic(e:Addr)(w:Q9):(ReflectliteValue.unpack (.iface 198 (.pointer (some e)))).run prog w
 =.ok (.agg #[Dr 10 198,Dr w.heap.size 0,.int .u64 150]) (w.alloc (.cells #[.pointer (some e)] 198)):=h
theorem Jv(w:Q9):(Rtype.elem? 200).run prog w=.ok (some 198) w:=h
theorem Qd(p:Addr)(w:Q9):(ReflectliteValue.mk 198 p ReflectliteValue.flagAddr).run prog w=.ok (.agg #[Dr 10 198,.pointer (some p),.int .u64 406]) w:=h
theorem Mr(a p:Addr)(W:Q9)(b:W.cell? a=some (.pointer (some p))):(ReflectliteValue.method (ReflectliteValue.valueError "reflectlite.Value.Elem" 0) ReflectliteValue.elem #[.agg #[Dr 10 200,.pointer (some a),.int .u64 150]]).run prog W
  =.ok (.agg #[Dr 10 198,.pointer (some p),.int .u64 406]) W:=by
 rw[yD];simp only[IF,vD,Result.andThen];simp[ReflectliteValue.elem,loadVar,isAgg,underlying,underlying200,b,Result.andThen,Jv,Qd]
theorem L0(v x:Ra):ReflectliteValue.set #[v,x]=(do
  let (some (dst,a,fl),some (src,b,_)):=(<-ReflectliteValue.parts v,<-ReflectliteValue.parts x)
   | unsupported (.noEntry "extern/(internal/reflectlite.Value).Set.zeroValue")
  if fl / ReflectliteValue.flagAddr % 2 == 0 then unsupported (.noEntry "extern/(internal/reflectlite.Value).Set.unaddressable")
  let val <-loadVar src b
  if <-Rtype.directlyAssignable dst src then storeVar dst a val
  else if <-Rtype.implements dst src then
   if (<-Rtype.kind src) == 20 then
    match val with
    | .nilIface=>unsupported (.noEntry "extern/reflectlite: a nil value of one interface type handed on as a value of another")
    | _=>storeVar dst a val
   else storeVar dst a (.iface src val)
  else panicString ("reflectlite.Set: value of type "++(<-Rtype.spelt src)++ " is not assignable to type "++(<-Rtype.spelt dst))
  pure (.tuple #[])):=rfl
theorem Hi(a:Addr)(w:Q9):(ReflectliteValue.parts (.agg #[Dr 10 198,.pointer (some a),.int .u64 406])).run prog w=.ok (some (198,a,406)) w:=h
theorem Eu(a:Addr)(w:Q9):(ReflectliteValue.parts (.agg #[Dr 10 198,.pointer (some a),.int .u64 150])).run prog w=.ok (some (198,a,150)) w:=h
theorem Ha(w:Q9):(Rtype.directlyAssignable 198 198).run prog w=.ok true w:=h
theorem Mw(a b e:Addr)(c:Ra)(W:Q9)(d:W.cell? b=some (.pointer (some e)))(h:W.cell? a=some c)(g:W.frozen? a=false):(ReflectliteValue.set #[.agg #[Dr 10 198,.pointer (some a),.int .u64 406],.agg #[Dr 10 198,.pointer (some b),.int .u64 150]]).run prog W
  =.ok (.tuple #[]) (W.setCell a (.pointer (some e))):=by
 rw[L0];simp only[IF,Hi,Eu,Result.andThen];simp[ReflectliteValue.flagAddr,loadVar,isAgg,underlying,underlying198,d,Result.andThen,Ha,storeVar,Value.cells,storeCells,Addr.add];rw[run_store prog W a _ _ f];simp[h,g]
theorem O6(e t:Addr)(d:Ra)(w:Q9)(f:w.cell? (Ki 1 0)=some (.iface 318 (.agg #[Dr 10 58])))(b:w.cell? t=some d)(g:w.frozen? t=false):Calls prog 158 #[.iface 198 (.pointer (some e)),.iface 200 (.pointer (some t))] w λa c=>a=Q2 (Q1 true)/\c=((((w.alloc (.cells #[.pointer (some t)] 200)).alloc (.cells #[Dr 10 200,Dr w.heap.size 0,.int .u64 150] 260)).alloc (.cells #[Dr 10 200,Dr w.heap.size 0,.int .u64 150] 260)).alloc (.cells #[.pointer (some e)] 198)).setCell t (.pointer (some e)):=by
 have E:=@EH prog 227 _ (λa=>ReflectliteValue.unpack (a.getD 0 (.tuple #[]))) func227 h h h h
 have F:=@EH prog 228 _ (ReflectliteValue.methodAny (ReflectliteValue.valueError "reflectlite.Value.Type" 0) (λt _ _ _=>ReflectliteType.toType t)) func228 h h h h
 have G:=@EH prog 229 _ (ReflectliteValue.method (ReflectliteValue.valueError "reflectlite.Value.IsNil" 0) ReflectliteValue.isNil) func229 h h h h
 have p:=@EH prog 316 _ (ReflectliteType.abiMethod λt=>do pure (.int .u8 (<-Rtype.kind t))) func316 h h h h;have s:=@EH prog 333 _ (ReflectliteType.method ReflectliteType.elem) func333 h h h h
 have u:=@EH prog 334 _ (ReflectliteType.relation "Implements" ReflectliteType.implements_) func334 h h h h
 have m:=@EH prog 282 _ ReflectliteType.typeOf func282 h h h h
 have r:=@EH prog 331 _ (ReflectliteType.relation "AssignableTo" ReflectliteType.assignableTo) func331 h h h h
 have n:=@EH prog 283 _ (ReflectliteValue.method (ReflectliteValue.valueError "reflectlite.Value.Elem" 0) ReflectliteValue.elem) func283 h h h h
 have o:=@EH prog 284 _ ReflectliteValue.set func284 h h h h;have N:=Ni;have H:=Mg;have k:=Nq;have B:=Ic;have C:=Mk;have D:=E9;have K:=Pe;have I:=Ei;have J:=Id;have A:=Ka;have y:=C9;have l:=Jy;have x:=Jc;have L:=Gv (Ki w.heap.size 0) t ((w.alloc (.cells #[.pointer (some t)] 200)).alloc (.cells #[Dr 10 200,Dr w.heap.size 0,.int .u64 150] 260)) j
 have i:1<w.heap.size:=by
  rcases FV 1 w.heap.size with a|a
  .exact a
  simp[World.cell?,EF a]at f
 have v:((w.alloc (.cells #[.pointer (some t)] 200)).alloc (.cells #[Dr 10 200,Dr w.heap.size 0,.int .u64 150] 260)).cell? (Ki 1 0)=some (.iface 318 (.agg #[Dr 10 58])):=by
  rw[GE _ _ (Ki 1 0) (by first|(simp;done)|(simp;omega)),GE _ _ (Ki 1 0) i];exact f
 have c:t.block<w.heap.size:=by
  rcases FV t.block w.heap.size with a|a
  .exact a
  simp[World.cell?,EF a]at b
 have a:=Mr (Ki w.heap.size 0) t (((w.alloc (.cells #[.pointer (some t)] 200)).alloc (.cells #[Dr 10 200,Dr w.heap.size 0,.int .u64 150] 260)).alloc (.cells #[Dr 10 200,Dr w.heap.size 0,.int .u64 150] 260)) (by rw[GE _ _ (Ki w.heap.size 0) q];simp)
 have M:=Mw t (Ki (w.heap.size+1+1+1) 0) e d ((((w.alloc (.cells #[.pointer (some t)] 200)).alloc (.cells #[Dr 10 200,Dr w.heap.size 0,.int .u64 150] 260)).alloc (.cells #[Dr 10 200,Dr w.heap.size 0,.int .u64 150] 260)).alloc (.cells #[.pointer (some e)] 198))
  (by rw[EI _ _ _ _ j];rfl)
  (by rw[GE _ _ t (by first|(simp;done)|(simp;omega)),GE _ _ t (by first|(simp;done)|(simp;omega)),GE _ _ t (by first|(simp;done)|(simp;omega)),GE _ _ t c];exact b)
  (by rw[IM _ _ t q,IM _ _ t q,IM _ _ t q,IM _ _ t (Nat.ne_of_lt c)];exact g)
 go_enter func158,ntmps158;go_wp2;refine wp_loop_rounds 1 ?_;rw[rounds_succ];go_wp2;go_ret;exact⟨z,z⟩
