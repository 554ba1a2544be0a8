import Derived.Test.YtcdojnnkjeakmaaGreatDoorPrWdS
import Derived.Test.YtcdojnnkjeakmaaGreatDoorPrPfS
set_option maxHeartbeats 16000000
namespace Go.Proofs.YtcdojnnkjeakmaaGreatDoor
open Go.RowKit
set_option maxRecDepth 8000
set_option linter.unusedVariables false
set_option linter.unusedSimpArgs false
theorem kML:(Tryz.prog.info? 9).map (fun i=>(i.zero,i.size,i.bytes))=some (some (.string ByteArray.empty),1,16):=by kernel_rfl
theorem q7E:(Tryz.prog.info? 57).map (fun i=>(i.zero,i.size,i.bytes))=some (some (.agg #[.slice none 0 0]),1,24):=by kernel_rfl
theorem vHq {P:Program} {e:TypeId} {z:Value} {size aA:Nat} (h:(P.info? e).map (fun i=>(i.zero,i.size,i.bytes))=some (some z,size,aA)):∃ i,P.info? e=some i/\i.zero=some z/\i.size=size/\i.bytes=aA:=by
 obtain ⟨i,hi,hh⟩:=Option.map_eq_some_iff.1 h;simp only [Prod.mk.injEq] at hh;exact ⟨i,hi,hh⟩
theorem kde (aA:List OpT) (j:Nat) (h:j<aA.length):xmh (aA.take (j+1))=xmh (aA.take j)++(if (aA.getD j (false,0,ByteArray.empty)).1=true then [] else [(aA.getD j (false,0,ByteArray.empty)).2.2]):=by
 rw [List.take_succ_eq_append_getElem h,ZaG];simp [List.getD,h]
theorem kx3 {x:Wo} {e:Ev} {D:Dd} {u:Bool} (h5:¬ e.K=5) (hc:x.call e=(D,u)) (h:u=false\/D.C≠0):x.doE e=x:=by unfold Wo.doE;rw [if_neg h5,hc,if_pos h]
theorem qID {x:Wo} {e:Ev} {D:Dd} (h5:¬ e.K=5) (hc:x.call e=(D,true)) (h0:D.C=0) (h:2000<(ZmL x e D).length\/200<(evP x e D).length):x.doE e=x:=by unfold Wo.doE;rw [if_neg h5,hc,if_neg (by simp [h0]),if_pos h]
theorem xeL {x:Wo} {e:Ev} {D:Dd} (h5:¬ e.K=5) (hc:x.call e=(D,true)) (h0:D.C=0) (h:¬ (2000<(ZmL x e D).length\/200<(evP x e D).length)) (hb:ZJ5 e D=true):x.doE e=(x.ran e D).pow e.fs:=by unfold Wo.doE;rw [if_neg h5,hc,if_neg (by simp [h0]),if_neg h,if_pos hb]
theorem yiE {x:Wo} {e:Ev} {D:Dd} (h5:¬ e.K=5) (hc:x.call e=(D,true)) (h0:D.C=0) (h:¬ (2000<(ZmL x e D).length\/200<(evP x e D).length)) (hb:ZJ5 e D=false) (h2:e.K=2):x.doE e=(x.ran e D).upS D:=by unfold Wo.doE;rw [if_neg h5,hc,if_neg (by simp [h0]),if_neg h,if_neg (by simp [hb]),if_pos h2]
theorem vyk {x:Wo} {e:Ev} {D:Dd} (h5:¬ e.K=5) (hc:x.call e=(D,true)) (h0:D.C=0) (h:¬ (2000<(ZmL x e D).length\/200<(evP x e D).length)) (hb:ZJ5 e D=false) (h2:¬ e.K=2):x.doE e={ (x.ran e D).upS D with P:=[D.rs] }:=by unfold Wo.doE;rw [if_neg h5,hc,if_neg (by simp [h0]),if_neg h,if_neg (by simp [hb]),if_neg h2]
end Go.Proofs.YtcdojnnkjeakmaaGreatDoor
