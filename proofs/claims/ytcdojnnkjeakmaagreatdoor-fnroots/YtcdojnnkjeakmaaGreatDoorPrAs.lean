import Derived.WalkKit
import Derived.LaidEql
import Derived.Stop.Asserts
import Derived.RowKitTokens
import Derived.Test.YtcdojnnkjeakmaaGreatDoorProg
set_option maxHeartbeats 16000000
namespace Go.Proofs.YtcdojnnkjeakmaaGreatDoor
open Go.RowKit Go.Extern.Stop Go.Stop Go.Extern
theorem qMK (t:Value) (w:World) :
  Calls Tryz.prog 86 #[.nilIface,t] w fun e w'=>e=.returned (.bool false)/\w'=w:=by
 go_enter Tryz.func86,Tryz.ntmps86;go_wp2;go_ret;exact ⟨rfl,rfl⟩
theorem vNA (t:Addr) (w:World):(ReflectliteValue.unpack (.iface 147 (.pointer (some t)))).run Tryz.prog w
 =.ok (.agg #[.pointer (some ⟨2,147,none⟩),.pointer (some ⟨w.heap.size,0,none⟩),.int .u64 150]) (w.alloc (.cells #[.pointer (some t)] 147)):=by kernel_rfl
theorem QwW (a:Addr) (w:World):(ReflectliteValue.methodAny (ReflectliteValue.valueError "reflectlite.Value.Type" 0) (fun t _ _ _=>ReflectliteType.toType t) #[.agg #[.pointer (some ⟨2,147,none⟩),.pointer (some a),.int .u64 150]]).run Tryz.prog w
 =.ok (.iface 183 (.agg #[.pointer (some ⟨2,147,none⟩)])) w:=by kernel_rfl
theorem yht (j:Nat) (h:Value) (w:World):(Go.method (j+1) 183 (.agg #[h]) "Kind").run Tryz.prog w=.ok (122,h) w:=by kernel_rfl
theorem kYN (w:World):((ReflectliteType.abiMethod fun t=>(fun a:Nat=>Value.int IntKind.u8 (a:Int)) <$> Rtype.kind t) #[.pointer (some ⟨2,147,none⟩)]).run Tryz.prog w=.ok (.int .u8 22) w:=by kernel_rfl
theorem JZP (w:World):((ReflectliteType.abiMethod fun t=>(fun a:Nat=>Value.int IntKind.u8 (a:Int)) <$> Rtype.kind t) #[.pointer (some ⟨2,145,none⟩)]).run Tryz.prog w=.ok (.int .u8 22) w:=by kernel_rfl
theorem rlm (z:Sem Value) (f:TypeId->Addr->Nat->Nat->Sem Value) (v:Value) :
  ReflectliteValue.method z f #[v]=(do match <-ReflectliteValue.parts v with | none=>z | some (t,a,fl)=>f t a fl (fl % 32)):=rfl
theorem jFV (a:Addr) (w:World):(ReflectliteValue.parts (.agg #[.pointer (some ⟨2,147,none⟩),.pointer (some a),.int .u64 150])).run Tryz.prog w=.ok (some (147,a,150)) w:=by kernel_rfl
theorem Z0i (a p:Addr) (W:World) (ha:W.cell? a=some (.pointer (some p))) :
  (ReflectliteValue.method (ReflectliteValue.valueError "reflectlite.Value.IsNil" 0) ReflectliteValue.isNil #[.agg #[.pointer (some ⟨2,147,none⟩),.pointer (some a),.int .u64 150]]).run Tryz.prog W=.ok (.bool false) W:=by
 rw [rlm];simp only [Sem.run_bind,jFV,Result.andThen];simp [ReflectliteValue.isNil,loadVar,isAgg,underlying,Tryz.underlying147,ha,Result.andThen]
theorem QUs (j:Nat) (h:Value) (w:World):(Go.method (j+1) 183 (.agg #[h]) "Elem").run Tryz.prog w=.ok (138,.agg #[h]) w:=by kernel_rfl
theorem Zv1 (j:Nat) (h:Value) (w:World):(Go.method (j+1) 183 (.agg #[h]) "Implements").run Tryz.prog w=.ok (139,.agg #[h]) w:=by kernel_rfl
theorem vKI (j:Nat) (h:Value) (w:World):(Go.method (j+1) 183 (.agg #[h]) "AssignableTo").run Tryz.prog w=.ok (136,.agg #[h]) w:=by kernel_rfl
theorem kHV (w:World):(ReflectliteType.method ReflectliteType.elem #[.agg #[.pointer (some ⟨2,147,none⟩)]]).run Tryz.prog w=.ok (.iface 183 (.agg #[.pointer (some ⟨2,145,none⟩)])) w:=by kernel_rfl
theorem jhf (w:World):(ReflectliteType.relation "Implements" ReflectliteType.implements_ #[.agg #[.pointer (some ⟨2,145,none⟩)],.iface 183 (.agg #[.pointer (some ⟨2,142,none⟩)])]).run Tryz.prog w=.ok (.bool true) w:=by kernel_rfl
theorem xF7 (v:Value) (w:World):(ReflectliteType.typeOf #[.iface 145 v]).run Tryz.prog w=.ok (.iface 183 (.agg #[.pointer (some ⟨2,145,none⟩)])) w:=by kernel_rfl
theorem xQz (w:World):(ReflectliteType.relation "AssignableTo" ReflectliteType.assignableTo #[.agg #[.pointer (some ⟨2,145,none⟩)],.iface 183 (.agg #[.pointer (some ⟨2,145,none⟩)])]).run Tryz.prog w=.ok (.bool true) w:=by kernel_rfl
theorem ZuW (e:Addr) (w:World):(ReflectliteValue.unpack (.iface 145 (.pointer (some e)))).run Tryz.prog w
 =.ok (.agg #[.pointer (some ⟨2,145,none⟩),.pointer (some ⟨w.heap.size,0,none⟩),.int .u64 150]) (w.alloc (.cells #[.pointer (some e)] 145)):=by kernel_rfl
theorem kC8 (w:World):(Rtype.elem? 147).run Tryz.prog w=.ok (some 145) w:=by kernel_rfl
theorem zOB (p:Addr) (w:World):(ReflectliteValue.mk 145 p ReflectliteValue.flagAddr).run Tryz.prog w=.ok (.agg #[.pointer (some ⟨2,145,none⟩),.pointer (some p),.int .u64 406]) w:=by kernel_rfl
theorem vf8 (a p:Addr) (W:World) (ha:W.cell? a=some (.pointer (some p))) :
  (ReflectliteValue.method (ReflectliteValue.valueError "reflectlite.Value.Elem" 0) ReflectliteValue.elem #[.agg #[.pointer (some ⟨2,147,none⟩),.pointer (some a),.int .u64 150]]).run Tryz.prog W
  =.ok (.agg #[.pointer (some ⟨2,145,none⟩),.pointer (some p),.int .u64 406]) W:=by
 rw [rlm];simp only [Sem.run_bind,jFV,Result.andThen];simp [ReflectliteValue.elem,loadVar,isAgg,underlying,Tryz.underlying147,ha,Result.andThen,kC8,zOB]
theorem rls (v x:Value):ReflectliteValue.set #[v,x]=(do
  let (some (dst,a,fl),some (src,b,_)):=(<-ReflectliteValue.parts v,<-ReflectliteValue.parts x)
   | unsupported (.noEntry "extern/(internal/reflectlite.Value).Set.zeroValue")
  if fl / ReflectliteValue.flagAddr % 2 == 0 then unsupported (.noEntry "extern/(internal/reflectlite.Value).Set.unaddressable")
  let val <-loadVar src b
  if <-Rtype.directlyAssignable dst src then storeVar dst a val
  else if <-Rtype.implements dst src then
   if (<-Rtype.kind src) == 20 then
    match val with
    | .nilIface=>unsupported (.noEntry "extern/reflectlite: a nil value of one interface type handed on as a value of another")
    | _=>storeVar dst a val
   else storeVar dst a (.iface src val)
  else panicString ("reflectlite.Set: value of type "++(<-Rtype.spelt src)++ " is not assignable to type "++(<-Rtype.spelt dst))
  pure (.tuple #[])):=rfl
theorem ZR6 (a:Addr) (w:World):(ReflectliteValue.parts (.agg #[.pointer (some ⟨2,145,none⟩),.pointer (some a),.int .u64 406])).run Tryz.prog w=.ok (some (145,a,406)) w:=by kernel_rfl
theorem Qkn (a:Addr) (w:World):(ReflectliteValue.parts (.agg #[.pointer (some ⟨2,145,none⟩),.pointer (some a),.int .u64 150])).run Tryz.prog w=.ok (some (145,a,150)) w:=by kernel_rfl
theorem ZIN (w:World):(Rtype.directlyAssignable 145 145).run Tryz.prog w=.ok true w:=by kernel_rfl
theorem vo4 (ta b e:Addr) (aA:Value) (W:World) (hb:W.cell? b=some (.pointer (some e))) (ht:W.cell? ta=some aA) (hf:W.frozen? ta=false) :
  (ReflectliteValue.set #[.agg #[.pointer (some ⟨2,145,none⟩),.pointer (some ta),.int .u64 406],.agg #[.pointer (some ⟨2,145,none⟩),.pointer (some b),.int .u64 150]]).run Tryz.prog W
  =.ok (.tuple #[]) (W.setCell ta (.pointer (some e))):=by
 rw [rls];simp only [Sem.run_bind,ZR6,Qkn,Result.andThen];simp [ReflectliteValue.flagAddr,loadVar,isAgg,underlying,Tryz.underlying145,hb,Result.andThen,ZIN,storeVar,Value.cells,storeCells,Addr.add];rw [run_store Tryz.prog W ta _ _ (by rfl)];simp [ht,hf]
theorem yXE (e t:Addr) (aB:Value) (w:World) (hg:w.cell? ⟨0,0,none⟩=some (.iface 183 (.agg #[.pointer (some ⟨2,142,none⟩)]))) (aD:w.cell? t=some aB) (aE:w.frozen? t=false) :
  Calls Tryz.prog 86 #[.iface 145 (.pointer (some e)),.iface 147 (.pointer (some t))] w fun ev w'=>ev=.returned (.bool true)/\w'=((((w.alloc (.cells #[.pointer (some t)] 147)).alloc (.cells #[.pointer (some ⟨2,147,none⟩),.pointer (some ⟨w.heap.size,0,none⟩),.int .u64 150] 165)).alloc (.cells #[.pointer (some ⟨2,147,none⟩),.pointer (some ⟨w.heap.size,0,none⟩),.int .u64 150] 165)).alloc (.cells #[.pointer (some e)] 145)).setCell t (.pointer (some e)):=by
 have h6:=@run_callFunc_extern Tryz.prog 98 _ (fun aA=>ReflectliteValue.unpack (aA.getD 0 (.tuple #[]))) Tryz.func98 (by kernel_rfl) (by kernel_rfl) (by kernel_rfl) (by kernel_rfl)
 have h7:=@run_callFunc_extern Tryz.prog 99 _ (ReflectliteValue.methodAny (ReflectliteValue.valueError "reflectlite.Value.Type" 0) (fun t _ _ _=>ReflectliteType.toType t)) Tryz.func99 (by kernel_rfl) (by kernel_rfl) (by kernel_rfl) (by kernel_rfl)
 have h8:=@run_callFunc_extern Tryz.prog 100 _ (ReflectliteValue.method (ReflectliteValue.valueError "reflectlite.Value.IsNil" 0) ReflectliteValue.isNil) Tryz.func100 (by kernel_rfl) (by kernel_rfl) (by kernel_rfl) (by kernel_rfl)
 have aS:=@run_callFunc_extern Tryz.prog 122 _ (ReflectliteType.abiMethod fun t=>do pure (.int .u8 (<-Rtype.kind t))) Tryz.func122 (by kernel_rfl) (by kernel_rfl) (by kernel_rfl) (by kernel_rfl);have aP:=@run_callFunc_extern Tryz.prog 138 _ (ReflectliteType.method ReflectliteType.elem) Tryz.func138 (by kernel_rfl) (by kernel_rfl) (by kernel_rfl) (by kernel_rfl)
 have aL:=@run_callFunc_extern Tryz.prog 139 _ (ReflectliteType.relation "Implements" ReflectliteType.implements_) Tryz.func139 (by kernel_rfl) (by kernel_rfl) (by kernel_rfl) (by kernel_rfl)
 have aT:=@run_callFunc_extern Tryz.prog 104 _ ReflectliteType.typeOf Tryz.func104 (by kernel_rfl) (by kernel_rfl) (by kernel_rfl) (by kernel_rfl)
 have aG:=@run_callFunc_extern Tryz.prog 136 _ (ReflectliteType.relation "AssignableTo" ReflectliteType.assignableTo) Tryz.func136 (by kernel_rfl) (by kernel_rfl) (by kernel_rfl) (by kernel_rfl)
 have aK:=@run_callFunc_extern Tryz.prog 105 _ (ReflectliteValue.method (ReflectliteValue.valueError "reflectlite.Value.Elem" 0) ReflectliteValue.elem) Tryz.func105 (by kernel_rfl) (by kernel_rfl) (by kernel_rfl) (by kernel_rfl)
 have aQ:=@run_callFunc_extern Tryz.prog 106 _ ReflectliteValue.set Tryz.func106 (by kernel_rfl) (by kernel_rfl) (by kernel_rfl) (by kernel_rfl);have tO:=xF7;have mA:=vKI;have aH:=xQz;have aR:=ZuW;have f6:=vNA;have f7:=QwW;have mK:=yht;have mE:=QUs;have mI:=Zv1;have aN:=kYN;have aM:=JZP;have aO:=kHV;have aJ:=jhf;have n8:=Z0i ⟨w.heap.size,0,none⟩ t ((w.alloc (.cells #[.pointer (some t)] 147)).alloc (.cells #[.pointer (some ⟨2,147,none⟩),.pointer (some ⟨w.heap.size,0,none⟩),.int .u64 150] 165)) (by simp)
 have aF:0<w.heap.size:=by
  rcases Nat.eq_zero_or_pos w.heap.size with h0 | h
  ·simp [World.cell?,h0] at hg
  ·exact h
 have aI:((w.alloc (.cells #[.pointer (some t)] 147)).alloc (.cells #[.pointer (some ⟨2,147,none⟩),.pointer (some ⟨w.heap.size,0,none⟩),.int .u64 150] 165)).cell? ⟨0,0,none⟩=some (.iface 183 (.agg #[.pointer (some ⟨2,142,none⟩)])):=by
  rw [World.cell?_alloc_lt _ _ ⟨0,0,none⟩ (by simp),World.cell?_alloc_lt _ _ ⟨0,0,none⟩ aF];exact hg
 have aC:t.block<w.heap.size:=by
  rcases Nat.lt_or_ge t.block w.heap.size with h | h
  ·exact h
  ·simp [World.cell?,Array.getElem?_eq_none h] at aD
 have el:=vf8 ⟨w.heap.size,0,none⟩ t (((w.alloc (.cells #[.pointer (some t)] 147)).alloc (.cells #[.pointer (some ⟨2,147,none⟩),.pointer (some ⟨w.heap.size,0,none⟩),.int .u64 150] 165)).alloc (.cells #[.pointer (some ⟨2,147,none⟩),.pointer (some ⟨w.heap.size,0,none⟩),.int .u64 150] 165)) (by rw [World.cell?_alloc_lt _ _ ⟨w.heap.size,0,none⟩ (by simp;omega)];simp)
 have st:=vo4 t ⟨w.heap.size+1+1+1,0,none⟩ e aB ((((w.alloc (.cells #[.pointer (some t)] 147)).alloc (.cells #[.pointer (some ⟨2,147,none⟩),.pointer (some ⟨w.heap.size,0,none⟩),.int .u64 150] 165)).alloc (.cells #[.pointer (some ⟨2,147,none⟩),.pointer (some ⟨w.heap.size,0,none⟩),.int .u64 150] 165)).alloc (.cells #[.pointer (some e)] 145))
  (by rw [World.cell?_alloc_at _ _ _ _ (by simp)];rfl)
  (by rw [World.cell?_alloc_lt _ _ t (by simp;omega),World.cell?_alloc_lt _ _ t (by simp;omega),World.cell?_alloc_lt _ _ t (by simp;omega),World.cell?_alloc_lt _ _ t aC];exact aD)
  (by rw [World.frozen?_alloc_old _ _ t (by simp;omega),World.frozen?_alloc_old _ _ t (by simp;omega),World.frozen?_alloc_old _ _ t (by simp;omega),World.frozen?_alloc_old _ _ t (Nat.ne_of_lt aC)];exact aE)
 go_enter Tryz.func86,Tryz.ntmps86;go_wp2;refine wp_loop_rounds 1 ?_;rw [rounds_succ];go_wp2;go_ret;exact ⟨rfl,rfl⟩
end Go.Proofs.YtcdojnnkjeakmaaGreatDoor
