import Derived.Test.YtmlejnbjclkdjaaGreatDoorPrAl
import Derived.WalkKit
import Derived.LaidEql
import Derived.Stop.Asserts
import Derived.RowKitTokens
import Derived.Test.YtmlejnbjclkdjaaGreatDoorProg
set_option maxHeartbeats 16000000
namespace Go.Proofs.YtmlejnbjclkdjaaGreatDoor
open Tryz
set_option maxRecDepth 20000
open Go.RowKit Go.Extern.Stop Go.Stop Go.Extern
theorem Gk(t:Nc)(w:Nb):Calls prog 47 #[.nilIface,t] w λe a=>e=M3 (M0 false)/\a=w:=by
 go_enter func47,ntmps47;go_wp2;go_ret;exact⟨rfl,rfl⟩
theorem Ht(t:Addr)(w:Nb):(ReflectliteValue.unpack (.iface 96 (.pointer (some t)))).run prog w
 =.ok (.agg #[Mv 3 96,Mv w.heap.size 0,.int .u64 150]) (w.alloc (.cells #[.pointer (some t)] 96)):=κ
theorem zQ(a:Addr)(w:Nb):(ReflectliteValue.methodAny (ReflectliteValue.valueError "reflectlite.Value.Type" 0) (λt _ _ _=>ReflectliteType.toType t) #[.agg #[Mv 3 96,.pointer (some a),.int .u64 150]]).run prog w
 =.ok (.iface 200 (.agg #[Mv 3 96])) w:=κ
theorem Kz(j:Nat)(h:Nc)(w:Nb):(Go.method (j+1) 200 (.agg #[h]) "Kind").run prog w=.ok (236,h) w:=κ
theorem Fi(w:Nb):((ReflectliteType.abiMethod λt=>(λa:Nat=>Value.int IntKind.u8 (a:Int)) <$> Rtype.kind t) #[Mv 3 96]).run prog w=.ok (.int .u8 22) w:=κ
theorem xV(w:Nb):((ReflectliteType.abiMethod λt=>(λa:Nat=>Value.int IntKind.u8 (a:Int)) <$> Rtype.kind t) #[Mv 3 94]).run prog w=.ok (.int .u8 22) w:=κ
theorem sX(z:Sem Nc)(f:TypeId->Addr->Nat->Nat->Sem Nc)(v:Nc):ReflectliteValue.method z f #[v]=(do match <-ReflectliteValue.parts v with|none=>z|some (t,a,fl)=>f t a fl (fl % 32)):=rfl
theorem pI(a:Addr)(w:Nb):(ReflectliteValue.parts (.agg #[Mv 3 96,.pointer (some a),.int .u64 150])).run prog w=.ok (some (96,a,150)) w:=κ
theorem Bc(a p:Addr)(W:Nb)(b:W.cell? a=some (.pointer (some p))):(ReflectliteValue.method (ReflectliteValue.valueError "reflectlite.Value.IsNil" 0) ReflectliteValue.isNil #[.agg #[Mv 3 96,.pointer (some a),.int .u64 150]]).run prog W=.ok (M0 false) W:=by
 rw[sX];simp only[IF,pI,Result.andThen];simp[ReflectliteValue.isNil,loadVar,isAgg,underlying,underlying96,b,Result.andThen]
theorem yX(j:Nat)(h:Nc)(w:Nb):(Go.method (j+1) 200 (.agg #[h]) "Elem").run prog w=.ok (248,.agg #[h]) w:=κ
theorem Ct(j:Nat)(h:Nc)(w:Nb):(Go.method (j+1) 200 (.agg #[h]) "Implements").run prog w=.ok (249,.agg #[h]) w:=κ
theorem Hq(j:Nat)(h:Nc)(w:Nb):(Go.method (j+1) 200 (.agg #[h]) "AssignableTo").run prog w=.ok (246,.agg #[h]) w:=κ
theorem Ey(w:Nb):(ReflectliteType.method ReflectliteType.elem #[.agg #[Mv 3 96]]).run prog w=.ok (.iface 200 (.agg #[Mv 3 94])) w:=κ
theorem Dt(w:Nb):(ReflectliteType.relation "Implements" ReflectliteType.implements_ #[.agg #[Mv 3 94],.iface 200 (.agg #[Mv 3 91])]).run prog w=.ok (M0 true) w:=κ
theorem I4(v:Nc)(w:Nb):(ReflectliteType.typeOf #[.iface 94 v]).run prog w=.ok (.iface 200 (.agg #[Mv 3 94])) w:=κ
theorem Ja(w:Nb):(ReflectliteType.relation "AssignableTo" ReflectliteType.assignableTo #[.agg #[Mv 3 94],.iface 200 (.agg #[Mv 3 94])]).run prog w=.ok (M0 true) w:=κ
theorem Cs(e:Addr)(w:Nb):(ReflectliteValue.unpack (.iface 94 (.pointer (some e)))).run prog w
 =.ok (.agg #[Mv 3 94,Mv w.heap.size 0,.int .u64 150]) (w.alloc (.cells #[.pointer (some e)] 94)):=κ
theorem Ew(w:Nb):(Rtype.elem? 96).run prog w=.ok (some 94) w:=κ
theorem Mc(p:Addr)(w:Nb):(ReflectliteValue.mk 94 p ReflectliteValue.flagAddr).run prog w=.ok (.agg #[Mv 3 94,.pointer (some p),.int .u64 406]) w:=κ
theorem Ic(a p:Addr)(W:Nb)(b:W.cell? a=some (.pointer (some p))):(ReflectliteValue.method (ReflectliteValue.valueError "reflectlite.Value.Elem" 0) ReflectliteValue.elem #[.agg #[Mv 3 96,.pointer (some a),.int .u64 150]]).run prog W
  =.ok (.agg #[Mv 3 94,.pointer (some p),.int .u64 406]) W:=by
 rw[sX];simp only[IF,pI,Result.andThen];simp[ReflectliteValue.elem,loadVar,isAgg,underlying,underlying96,b,Result.andThen,Ew,Mc]
theorem He(v x:Nc):ReflectliteValue.set #[v,x]=(do
  let (some (dst,a,fl),some (src,b,_)):=(<-ReflectliteValue.parts v,<-ReflectliteValue.parts x)
   | unsupported (.noEntry "extern/(internal/reflectlite.Value).Set.zeroValue")
  if fl / ReflectliteValue.flagAddr % 2 == 0 then unsupported (.noEntry "extern/(internal/reflectlite.Value).Set.unaddressable")
  let val <-loadVar src b
  if <-Rtype.directlyAssignable dst src then storeVar dst a val
  else if <-Rtype.implements dst src then
   if (<-Rtype.kind src) == 20 then
    match val with
    | .nilIface=>unsupported (.noEntry "extern/reflectlite: a nil value of one interface type handed on as a value of another")
    | _=>storeVar dst a val
   else storeVar dst a (.iface src val)
  else panicString ("reflectlite.Set: value of type "++(<-Rtype.spelt src)++ " is not assignable to type "++(<-Rtype.spelt dst))
  pure (.tuple #[])):=rfl
theorem B1(a:Addr)(w:Nb):(ReflectliteValue.parts (.agg #[Mv 3 94,.pointer (some a),.int .u64 406])).run prog w=.ok (some (94,a,406)) w:=κ
theorem zI(a:Addr)(w:Nb):(ReflectliteValue.parts (.agg #[Mv 3 94,.pointer (some a),.int .u64 150])).run prog w=.ok (some (94,a,150)) w:=κ
theorem Br(w:Nb):(Rtype.directlyAssignable 94 94).run prog w=.ok true w:=κ
theorem Ii(a b e:Addr)(c:Nc)(W:Nb)(d:W.cell? b=some (.pointer (some e)))(g:W.cell? a=some c)(f:W.frozen? a=false):(ReflectliteValue.set #[.agg #[Mv 3 94,.pointer (some a),.int .u64 406],.agg #[Mv 3 94,.pointer (some b),.int .u64 150]]).run prog W
  =.ok (.tuple #[]) (W.setCell a (.pointer (some e))):=by
 rw[He];simp only[IF,B1,zI,Result.andThen];simp[ReflectliteValue.flagAddr,loadVar,isAgg,underlying,underlying94,d,Result.andThen,Br,storeVar,Value.cells,storeCells,Addr.add];rw[run_store prog W a _ _ ρ];simp[g,f]
theorem Ks(e t:Addr)(c:Nc)(w:Nb)(d:w.cell? ⟨0,0,none⟩=some (.iface 200 (.agg #[Mv 3 91])))(b:w.cell? t=some c)(f:w.frozen? t=false):Calls prog 47 #[.iface 94 (.pointer (some e)),.iface 96 (.pointer (some t))] w λa g=>a=M3 (M0 true)/\g=((((w.alloc (.cells #[.pointer (some t)] 96)).alloc (.cells #[Mv 3 96,Mv w.heap.size 0,.int .u64 150] 151)).alloc (.cells #[Mv 3 96,Mv w.heap.size 0,.int .u64 150] 151)).alloc (.cells #[.pointer (some e)] 94)).setCell t (.pointer (some e)):=by
 have A:=@EX prog 91 _ (λa=>ReflectliteValue.unpack (a.getD 0 (.tuple #[]))) func91 κ κ κ κ
 have B:=@EX prog 92 _ (ReflectliteValue.methodAny (ReflectliteValue.valueError "reflectlite.Value.Type" 0) (λt _ _ _=>ReflectliteType.toType t)) func92 κ κ κ κ
 have C:=@EX prog 93 _ (ReflectliteValue.method (ReflectliteValue.valueError "reflectlite.Value.IsNil" 0) ReflectliteValue.isNil) func93 κ κ κ κ
 have n:=@EX prog 236 _ (ReflectliteType.abiMethod λt=>do pure (.int .u8 (<-Rtype.kind t))) func236 κ κ κ κ;have p:=@EX prog 248 _ (ReflectliteType.method ReflectliteType.elem) func248 κ κ κ κ
 have q:=@EX prog 249 _ (ReflectliteType.relation "Implements" ReflectliteType.implements_) func249 κ κ κ κ
 have k:=@EX prog 141 _ ReflectliteType.typeOf func141 κ κ κ κ
 have o:=@EX prog 246 _ (ReflectliteType.relation "AssignableTo" ReflectliteType.assignableTo) func246 κ κ κ κ
 have l:=@EX prog 142 _ (ReflectliteValue.method (ReflectliteValue.valueError "reflectlite.Value.Elem" 0) ReflectliteValue.elem) func142 κ κ κ κ
 have m:=@EX prog 143 _ ReflectliteValue.set func143 κ κ κ κ;have J:=I4;have D:=Hq;have i:=Ja;have x:=Cs;have y:=Ht;have z:=zQ;have G:=Kz;have E:=yX;have F:=Ct;have v:=Fi;have u:=xV;have j:=Ey;have s:=Dt;have H:=Bc ⟨w.heap.size,0,none⟩ t ((w.alloc (.cells #[.pointer (some t)] 96)).alloc (.cells #[Mv 3 96,Mv w.heap.size 0,.int .u64 150] 151)) σ
 have g:0<w.heap.size:=by
  rcases GF 0 w.heap.size with h|h
  ·exact h
  simp[World.cell?,DU h]at d
 have r:((w.alloc (.cells #[.pointer (some t)] 96)).alloc (.cells #[Mv 3 96,Mv w.heap.size 0,.int .u64 150] 151)).cell? ⟨0,0,none⟩=some (.iface 200 (.agg #[Mv 3 91])):=by
  rw[GC _ _ ⟨0,0,none⟩ (by first|(simp;done)|(simp;omega)),GC _ _ ⟨0,0,none⟩ g];exact d
 have a:t.block<w.heap.size:=by
  rcases GF t.block w.heap.size with h|h
  ·exact h
  simp[World.cell?,DU h]at b
 have h:=Ic ⟨w.heap.size,0,none⟩ t (((w.alloc (.cells #[.pointer (some t)] 96)).alloc (.cells #[Mv 3 96,Mv w.heap.size 0,.int .u64 150] 151)).alloc (.cells #[Mv 3 96,Mv w.heap.size 0,.int .u64 150] 151)) (by rw[GC _ _ ⟨w.heap.size,0,none⟩ τ];simp)
 have I:=Ii t ⟨w.heap.size+1+1+1,0,none⟩ e c ((((w.alloc (.cells #[.pointer (some t)] 96)).alloc (.cells #[Mv 3 96,Mv w.heap.size 0,.int .u64 150] 151)).alloc (.cells #[Mv 3 96,Mv w.heap.size 0,.int .u64 150] 151)).alloc (.cells #[.pointer (some e)] 94))
  (by rw[EL _ _ _ _ σ];rfl)
  (by rw[GC _ _ t (by first|(simp;done)|(simp;omega)),GC _ _ t (by first|(simp;done)|(simp;omega)),GC _ _ t (by first|(simp;done)|(simp;omega)),GC _ _ t a];exact b)
  (by rw[IB _ _ t τ,IB _ _ t τ,IB _ _ t τ,IB _ _ t (Nat.ne_of_lt a)];exact f)
 go_enter func47,ntmps47;go_wp2;refine wp_loop_rounds 1 ?_;rw[rounds_succ];go_wp2;go_ret;exact⟨rfl,rfl⟩
