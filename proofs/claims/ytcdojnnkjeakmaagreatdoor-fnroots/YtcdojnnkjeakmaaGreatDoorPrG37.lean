import Derived.Deep.RegionHeld
import Derived.WalkKit
set_option maxHeartbeats 16000000
set_option maxRecDepth 8000
set_option linter.unusedVariables false
set_option linter.unusedSimpArgs false
namespace Go.Proofs.YtcdojnnkjeakmaaGreatDoor
open Go
section
variable {P:Program} {ops:Array Oper} {Q:Exit->Act->World->Prop} {md:Region.Mode}
def xqG (md:Region.Mode) (ops:Array Oper) (nx:Array Nat) (z:Nat):Bool :=
 (List.range ops.size).all fun i=>(match ops[i]? with | some o=>o.after.all fun e=>!Region.binds md e || decide (e.on<i) | none=>true) && (i == z || (decide (i<nx.getD i 0) && (match ops[nx.getD i 0]? with | some o=>o.after.any fun e=>Region.binds md e && e.on == i | none=>false)))
theorem vDr {nx:Array Nat} {z:Nat} (h:xqG md ops nx z=true) {i:Nat} {o:Oper} (ho:ops[i]?=some o):∀ e∈o.after,Region.binds md e=true->e.on<i:=by
 intro e he hb;have hi:i<ops.size:=(Array.getElem?_eq_some_iff.1 ho).1;have h1:=List.all_eq_true.1 h i (List.mem_range.2 hi);rw [Bool.and_eq_true] at h1;have h2:=h1.1;rw [ho] at h2;have h3:=Array.all_eq_true'.1 h2 e he;rw [hb] at h3;simpa using h3
theorem xRm {nx:Array Nat} {z:Nat} (h:xqG md ops nx z=true) {i:Nat} (hi:i<ops.size) (hz:i≠z):i<nx.getD i 0/\nx.getD i 0<ops.size/\∃ o,ops[nx.getD i 0]?=some o/\∃ e∈o.after,Region.binds md e=true/\e.on=i:=by
 have h1:=List.all_eq_true.1 h i (List.mem_range.2 hi);rw [Bool.and_eq_true,Bool.or_eq_true] at h1;rcases h1.2 with h2 | h2
 ·exact absurd (by simpa using h2) hz
 ·rw [Bool.and_eq_true] at h2
  refine ⟨by simpa using h2.1,?_⟩;have h3:=h2.2
  cases ho:ops[nx.getD i 0]? with
  | none=>rw [ho] at h3;cases h3
  | some o =>
   rw [ho] at h3;obtain ⟨e,he,h4⟩:=Array.any_eq_true'.1 h3;rw [Bool.and_eq_true] at h4;exact ⟨(Array.getElem?_eq_some_iff.1 ho).1,o,rfl,e,he,h4.1,by simpa using h4.2⟩
structure LisI (md:Region.Mode) (ops:Array Oper) (listed:Array Bool):Prop where
 size:listed.size=ops.size
 down:∀ j o,listed.getD j false=true->ops[j]?=some o->∀ e∈o.after,Region.binds md e=true->listed.getD e.on false=true
theorem LisI.last {aA:Array Bool} {nx:Array Nat} {z:Nat} (h:LisI md ops aA) (hf:xqG md ops nx z=true):∀ (m i:Nat),ops.size<=i+m->i<ops.size->aA.getD i false=false->aA.getD z false=false:=by
 intro m
 induction m with
 | zero=>intro i h1 h2 _;omega
 | succ m ih =>
  intro i h1 h2 h3
  by_cases hz:i=z
  ·subst hz;exact h3
  ·obtain ⟨k1,k2,o,k3,e,k4,k5,k6⟩:=xRm hf h2 hz
   refine ih _ (by omega) k2 ?_
   cases hl:aA.getD (nx.getD i 0) false with
   | false=>rfl
   | true =>
    have:=h.down _ _ hl k3 e k4 k5;rw [k6,h3] at this
    cases this
theorem LisI.all {aA:Array Bool} {nx:Array Nat} {z:Nat} (h:LisI md ops aA) (hf:xqG md ops nx z=true) (hr:Region.ready md ops aA=[]):∀ i,i<ops.size->aA.getD i false=true:=by
 intro i
 induction i using Nat.strongRecOn with
 | ind i ih =>
  intro hi
  cases hl:aA.getD i false with
  | true=>rfl
  | false =>
   have:i∈Region.ready md ops aA:=mem_ready.2 ⟨by
    have hs:i<aA.size:=by rw [h.size];exact hi
    simp [hs] at hl ⊢
    exact hl,ops[i],by simp [hi],fun e he hb=>ih _ (vDr hf (by simp [hi]) e he hb) (Nat.lt_trans (vDr hf (i:=i) (by simp [hi]) e he hb) hi)⟩
   rw [hr] at this
   cases this
theorem LisI.set {aA:Array Bool} {i:Nat} (h:LisI md ops aA) (hr:i∈Region.ready md ops aA):LisI md ops (aA.setIfInBounds i true):=by
 refine ⟨by rw [Array.size_setIfInBounds];exact h.size,fun j o hj ho e he hb=>?_⟩;obtain ⟨h0,oi,aD,aB⟩:=mem_ready.1 hr
 by_cases aC:i=j
 ·subst aC
  rw [aD] at ho
  cases ho
  exact getD_set_true (aB e he hb)
 ·rw [getD_set_ne false aC] at hj
  exact getD_set_true (h.down j o hj ho e he hb)
theorem zZu {aA:Array Bool} {i:Nat} (h:aA.getD i true=false):(aA.setIfInBounds i true).toList.count false+1=aA.toList.count false:=by
 have hs:i<aA.size:=by
  rcases Nat.lt_or_ge i aA.size with k | k
  ·exact k
  ·rw [Array.getD_eq_getD_getElem?,Array.getElem?_eq_none k] at h;cases h
 have hv:aA.toList[i]'(by simpa using hs)=false:=by simpa [Array.getD_eq_getD_getElem?,hs] using h
 have aB:0<aA.toList.count false:=List.count_pos_iff.2 (by rw [<-hv];exact List.getElem_mem _);rw [Array.toList_setIfInBounds,List.count_set (by simpa using hs),hv];rw [if_pos (by decide:(false == false)=true),if_neg (by decide:¬ (true == false)=true)];omega
def kdI (P:Program) (md:Region.Mode) (ops:Array Oper) (Q:Exit->Act->World->Prop) (B:Nat->Act->World->Prop) (G:Nat->Act->World->Prop) (z i:Nat):Prop :=
 ∀ (o:Oper) (L:Nat->Prop) (k:Nat) (a:Act) (w:World),ops[i]?=some o->k<ops.size->B k a w->(∀ e∈o.after,Region.binds md e=true->L e.on)->(∀ j,L j->G j a w)->¬ L i->¬ L z ->
  ∀ K':Act->World->Prop,Shut (∀ a' w',B (k+1) a' w'->G i a' w'->(∀ j,L j->G j a' w')->K' a' w')->if Region.wanted o (yielded ops a.tmps)=true then Oper.wp P o a w K' Q else K' (a.put o.dst undef) w
theorem vb1 {B:Nat->Act->World->Prop} {G:Nat->Act->World->Prop} (nx:Array Nat) (z:Nat) (hf:xqG md ops nx z=true) (hs:∀ i,i<ops.size->kdI P md ops Q B G z i) (aC:∀ k a w,k<=ops.size->B k a w->(∀ j,j<ops.size->G j a w)->Q .normal a w) :
  ∀ (aB:Nat) (aA:Array Bool) (k:Nat) (a:Act) (w:World),LisI md ops aA->aA.toList.count false=aB->k+aB=ops.size->B k a w->(∀ j,j<ops.size->aA.getD j false=true->G j a w)->wpAny P md ops Q aB aA a w:=by
 intro aB
 induction aB with
 | zero =>
  intro aA k a w hL hc hk hB hG
  have hr:Region.ready md ops aA=[]:=by
   cases hr:Region.ready md ops aA with
   | nil=>rfl
   | cons i r =>
    have hi:i∈Region.ready md ops aA:=by rw [hr];exact List.mem_cons_self
    have:=zZu (mem_ready.1 hi).1;omega
  exact ⟨hr,aC k a w (by omega) hB (fun j hj=>hG j hj (hL.all hf hr j hj))⟩
 | succ aB ih =>
  intro aA k a w hL hc hk hB hG;refine ⟨fun hr=>aC k a w (by omega) hB (fun j hj=>hG j hj (hL.all hf hr j hj)),fun i hi=>?_⟩;obtain ⟨h0,o,ho,aE⟩:=mem_ready.1 hi;have aD:i<ops.size:=(Array.getElem?_eq_some_iff.1 ho).1
  have aH:aA.getD i false=false:=by
   have:i<aA.size:=by rw [hL.size];exact aD
   simp [this] at h0 ⊢;exact h0
  refine wpOp_step ho (fun K' hK=>hs i aD o (fun j=>j<ops.size/\aA.getD j false=true) k a w ho (by omega) hB (fun e he hb=>⟨Nat.lt_trans (vDr hf ho e he hb) aD,aE e he hb⟩) (fun j hj=>hG j hj.1 hj.2) (fun h=>by rw [aH] at h;cases h.2) (fun h=>by rw [hL.last hf ops.size i (by omega) aD aH] at h;cases h.2) K' (fun a' w' h1 h2 h3=>hK a' w' ?_))
  refine ih _ (k+1) a' w' (hL.set hi) (by have:=zZu h0;omega) (by omega) h1 (fun j hj aF=>?_)
  by_cases aG:i=j
  ·subst aG;exact h2
  ·rw [getD_set_ne false aG] at aF
   exact h3 j ⟨hj,aF⟩
theorem kH8 {B:Nat->Act->World->Prop} {G:Nat->Act->World->Prop} {id:Nat} {a:Act} {w:World} (nx:Array Nat) (z:Nat) (hm:P.follows .mixedOrders=true) (hf:xqG .any ops nx z=true) (hB:B 0 a w.drew) (hs:∀ i,i<ops.size->kdI P .any ops Q B G z i) (aA:∀ k a w,k<=ops.size->B k a w->(∀ j,j<ops.size->G j a w)->Q .normal a w):(Code.region id ops true).wp P Q a w :=
 wp_region_any hm (vb1 nx z hf hs aA _ _ 0 a w.drew ⟨by simp,fun j o hj=>by
  exfalso;rw [Array.getD_eq_getD_getElem?,Array.getElem?_replicate] at hj
  split at hj<;>cases hj⟩ (by simp) (by simp) hB (fun j _ hj=>by
  exfalso;rw [Array.getD_eq_getD_getElem?,Array.getElem?_replicate] at hj
  split at hj<;>cases hj))
theorem xLQ {p:Nat->Prop}:∀ i,i<0->p i:=fun i h=>absurd h (Nat.not_lt_zero i)
theorem xgQ {p:Nat->Prop} {n:Nat} (h:∀ i,i<n->p i) (h2:p n):∀ i,i<n+1->p i:=fun i hi=>by
 rcases Nat.lt_or_ge i n with k | k
 ·exact h i k
 ·obtain rfl:i=n:=by omega
  exact h2
def jPE (md:Region.Mode) (o:Oper):List Nat:=(o.after.toList.filter (Region.binds md)).map (·.on)
theorem QGx {B:Nat->Act->World->Prop} {G:Nat->Act->World->Prop} {z i:Nat} {o:Oper} (ho:ops[i]?=some o)
  (h:∀ (L:Nat->Prop) (k:Nat) (a:Act) (w:World),k<ops.size->B k a w->(∀ d,(jPE md o).contains d=true->G d a w)->(∀ j,L j->G j a w)->¬ L i->¬ L z ->
   ∀ K':Act->World->Prop,Shut (∀ a' w',B (k+1) a' w'->G i a' w'->(∀ j,L j->G j a' w')->K' a' w')->if Region.wanted o (yielded ops a.tmps)=true then Oper.wp P o a w K' Q else K' (a.put o.dst undef) w):kdI P md ops Q B G z i:=by
 intro o' L k a w aA hk hB hd hG aD aB K' hK;rw [ho] at aA
 cases aA
 refine h L k a w hk hB (fun d aC=>hG d ?_) hG aD aB K' hK;have h1:d∈jPE md o:=by simpa using aC
 unfold jPE at h1;obtain ⟨e,he,rfl⟩:=List.mem_map.1 h1;rw [List.mem_filter] at he;exact hd e (by simpa using he.1) he.2
def GI (s0 z:Nat) (GV:Nat->Value->World->Prop) (Gz:World->Prop) (j:Nat) (a:Act) (w:World):Prop:=if j=z then Gz w else GV j (a.tmps.getD (j+s0) undef) w
theorem GI.keep {s0 z:Nat} {GV:Nat->Value->World->Prop} {Gz:World->Prop} {L:Nat->Prop} {t:Array Value} {d:List Deferred} {w w':World} {i:Nat} (h:∀ j,L j->GI s0 z GV Gz j { tmps:=t,defers:=d } w) (hi:¬ L i) (hz:¬ L z) (hT:∀ j v,GV j v w->GV j v w') (v:Value) :
  ∀ j,L j->GI s0 z GV Gz j { tmps:=t.setIfInBounds (i+s0) v,defers:=d } w':=by
 intro j hj;have h1:=h j hj;unfold GI at h1 ⊢
 have aA:j≠z:=fun e=>hz (by rw [<-e];exact hj)
 rw [if_neg aA] at h1 ⊢
 have aB:i+s0≠j+s0:=fun e=>hi ((by omega:i=j) ▸ hj)
 have:(t.setIfInBounds (i+s0) v).getD (j+s0) undef=t.getD (j+s0) undef:=by
  rw [Array.getD_eq_getD_getElem?,Array.getD_eq_getD_getElem?,Array.getElem?_setIfInBounds_ne aB]
 exact hT _ _ (this ▸ h1)
theorem GI.keepN {s0 z:Nat} {GV:Nat->Value->World->Prop} {Gz:World->Prop} {L:Nat->Prop} {a:Act} {w w':World} (h:∀ j,L j->GI s0 z GV Gz j a w) (hz:¬ L z) (hT:∀ j v,GV j v w->GV j v w'):∀ j,L j->GI s0 z GV Gz j a w':=by
 intro j hj;have h1:=h j hj;unfold GI at h1 ⊢
 have aA:j≠z:=fun e=>hz (by rw [<-e];exact hj)
 rw [if_neg aA] at h1 ⊢;exact hT _ _ h1
structure UpI (X:Nat) (w w':World):Prop where
 size:w.heap.size<=w'.heap.size
 block:∀ b,X<b->b<w.heap.size->w'.heap[b]?=w.heap[b]?
theorem UpI.refl (X:Nat) (w:World):UpI X w w:=⟨Nat.le_refl _,fun _ _ _=>rfl⟩
end
end Go.Proofs.YtcdojnnkjeakmaaGreatDoor
namespace Go.Proofs.YtcdojnnkjeakmaaGreatDoor
open Go
section
variable {P:Program} {ops:Array Oper} {Q:Exit->Act->World->Prop} {md:Region.Mode} {S:World->Prop} {z:Nat}
def jvl (P:Program) (md:Region.Mode) (ops:Array Oper) (Q:Exit->Act->World->Prop) (S:World->Prop) (z:Nat):Nat->Array Bool->Act->World->Prop
 | 0,listed,a,w=>Region.ready md ops listed=[]/\Q .normal a w
 | fuel+1,listed,a,w =>
  (Region.ready md ops listed=[]->Q .normal a w) /\
  ∀ i∈Region.ready md ops listed,wpOp P ops Q i (fun a' w'=>(i≠z->S w')/\jvl P md ops Q S z fuel (listed.setIfInBounds i true) a' w') a w
theorem ynP:∀ (aB:Nat) (aA:Array Bool) (a:Act) (w:World),jvl P md ops Q S z aB aA a w->wpAny P md ops Q aB aA a w
 | 0,_,_,_,h=>h
 | aB+1,_,_,_,h=>⟨h.1,fun i hi=>wpOp_mono (fun a' w' h'=>ynP aB _ a' w' h'.2) (h.2 i hi)⟩
theorem xH6 {i:Nat} {oi:Oper} {v:Value} (hi:ops[i]?=some oi) (aH:∀ (j:Nat) (o:Oper) cs b,ops[j]?=some o->o.op≠.select cs b)
  (hQ:∀ c a w,Q (.panic c) (a.put oi.dst v) w->Q (.panic c) a w) (hz:i≠z) (hl:∀ oz,ops[z]?=some oz->∃ e∈oz.after,Region.binds md e=true/\e.on=i) :
  ∀ (aB:Nat) (aA:Array Bool) (a:Act) (w:World),
   (∀ j oj,ops[j]?=some oj->j≠i->aA.getD j true=false->(∀ e∈oj.after,Region.binds md e=true->e.on≠i)->oi.apart ops oj=true) ->
   i∈Region.ready md ops aA->YieldsIf P ops S oi v a->S w ->
   jvl P md ops Q S z aB (aA.setIfInBounds i true) (a.put oi.dst v) w->jvl P md ops Q S z (aB+1) aA a w:=by
 intro aB
 induction aB with
 | zero =>
  intro aA a w _ hr hy hS H;refine ⟨fun h=>(by rw [h] at hr;cases hr),fun j hj=>?_⟩
  by_cases aD:j=i
  ·subst aD;exact hy.wpOp hi hS ⟨fun _=>hS,H⟩
  ·have:=ready_mono hj aD
   rw [H.1] at this
   cases this
 | succ aB ih =>
  intro aA a w aC hr hy hS H;refine ⟨fun h=>(by rw [h] at hr;cases hr),fun j hj=>?_⟩
  by_cases aD:j=i
  ·subst aD;exact hy.wpOp hi hS ⟨fun _=>hS,H⟩
  ·have h1:=H.2 j (ready_mono hj aD)
   obtain ⟨aG,oj,aI,aJ⟩:=mem_ready.1 hj
   have aF:∀ e∈oj.after,Region.binds md e=true->e.on≠i:=fun e he hb aO=>by
    have h1:=aJ e he hb;have h0:=(mem_ready.1 hr).1;rw [aO] at h1;rcases Nat.lt_or_ge i aA.size with h' | h'
    ·simp [h'] at h0 h1;rw [h0] at h1;cases h1
    ·simp [Array.getElem?_eq_none h'] at h1
   have aP:j≠z:=fun e=>by
    subst e;obtain ⟨x,hx,hb,ho⟩:=hl oj aI;exact aF x hx hb ho
   have h2:=wpOp_putIf aI (aC j oj aI aD aG aF) (fun cs b=>aH i oi cs b hi) (fun cs b=>aH j oj cs b aI) hQ hy (wpOp_mono (fun a' w' h'=>(⟨h'.1 aP,h'.2⟩:S w'/\_)) h1)
   have aE:∀ k ok,ops[k]?=some ok->k≠i->(aA.setIfInBounds j true).getD k true=false ->
     (∀ e∈ok.after,Region.binds md e=true->e.on≠i)->oi.apart ops ok=true:=fun k ok hk aN aL aM=>by
    refine aC k ok hk aN ?_ aM
    by_cases aK:j=k
    ·subst aK;exact aG
    ·rw [getD_set_ne true aK] at aL;exact aL
   refine wpOp_mono (fun a' w' h3=>⟨fun _=>h3.2.1,ih (aA.setIfInBounds j true) a' w' aE (ready_mono hr (Ne.symm aD)) h3.1 h3.2.1 ?_⟩) h2;rw [Array.setIfInBounds_comm _ _ aD];exact h3.2.2
def Q5Q (md:Region.Mode) (ops:Array Oper) (z i:Nat):Bool:=i != z && (match ops[z]? with | some o=>o.after.any fun e=>Region.binds md e && e.on == i | none=>true)
theorem Qoj {i:Nat} {oi:Oper} {v:Value} {aB:Nat} {aA:Array Bool} {a:Act} {w:World} (hi:ops[i]?=some oi)
  (hs:Region.noSelect ops=true) (hf:Region.free md ops aA i=true) (hr:(Region.ready md ops aA).contains i=true) (hz:Q5Q md ops z i=true)
  (hQ:∀ c a w,Q (.panic c) (a.put oi.dst v) w->Q (.panic c) a w) (hy:YieldsIf P ops S oi v a) (hS:S w)
  (h:jvl P md ops Q S z aB (aA.setIfInBounds i true) (a.put oi.dst v) w):jvl P md ops Q S z (aB+1) aA a w:=by
 unfold Q5Q at hz;rw [Bool.and_eq_true] at hz;refine xH6 hi (Region.noSelect_spec hs) hQ (by simpa using hz.1) (fun oz ho=>?_) aB aA a w (Region.free_spec hi hf) (by simpa using hr) hy hS h;have h2:=hz.2;rw [ho] at h2;obtain ⟨e,he,h3⟩:=Array.any_eq_true'.1 h2;rw [Bool.and_eq_true] at h3;exact ⟨e,he,h3.1,by simpa using h3.2⟩
def AllReadyT (P:Program) (md:Region.Mode) (ops:Array Oper) (Q:Exit->Act->World->Prop) (S:World->Prop) (z:Nat) (aB:Nat) (aA:Array Bool) (a:Act) (w:World) (rs:List Nat):Prop :=
 ∀ i∈rs,wpOp P ops Q i (fun a' w'=>(i≠z->S w')/\jvl P md ops Q S z aB (aA.setIfInBounds i true) a' w') a w
theorem AllReadyT.nil {aB:Nat} {aA:Array Bool} {a:Act} {w:World}:AllReadyT P md ops Q S z aB aA a w []:=fun _ h=>by cases h
theorem AllReadyT.cons {aB:Nat} {aA:Array Bool} {a:Act} {w:World} {i:Nat} {o:Oper} {rs:List Nat} (ho:ops[i]?=some o)
  (h:∀ K':Act->World->Prop,Shut (∀ a w,S w->(S w->jvl P md ops Q S z aB (aA.setIfInBounds i true) a w)->K' a w)->if Region.wanted o (yielded ops a.tmps)=true then Oper.wp P o a w K' Q else K' (a.put o.dst undef) w)
  (hs:AllReadyT P md ops Q S z aB aA a w rs):AllReadyT P md ops Q S z aB aA a w (i::rs):=fun j hj=>by
 rcases List.mem_cons.1 hj with rfl | hj
 ·exact wpOp_step ho (fun K' hK=>h K' (fun a w hS hW=>hK a w ⟨fun _=>hS,hW hS⟩))
 ·exact hs j hj
theorem AllReadyT.last {aB:Nat} {aA:Array Bool} {a:Act} {w:World} {o:Oper} (ho:ops[z]?=some o)
  (h:∀ K':Act->World->Prop,Shut (∀ a w,True->(True->jvl P md ops Q S z aB (aA.setIfInBounds z true) a w)->K' a w)->if Region.wanted o (yielded ops a.tmps)=true then Oper.wp P o a w K' Q else K' (a.put o.dst undef) w):AllReadyT P md ops Q S z aB aA a w [z]:=fun j hj=>by
 rw [List.mem_singleton] at hj;subst hj;exact wpOp_step ho (fun K' hK=>h K' (fun a w _ hW=>hK a w ⟨fun k=>absurd rfl k,hW trivial⟩))
theorem kPc {rs:List Nat} {aB:Nat} {aA:Array Bool} {a:Act} {w:World} (hr:Region.ready md ops aA=rs) (aC:rs≠[])
  (h:AllReadyT P md ops Q S z aB aA a w rs):jvl P md ops Q S z (aB+1) aA a w:=⟨fun h0=>absurd (hr ▸ h0) aC,hr ▸ h⟩
theorem kgn {aA:Array Bool} {a:Act} {w:World} (hr:Region.ready md ops aA=[]) (h:Q .normal a w) :
  ∀ aB,jvl P md ops Q S z aB aA a w
 | 0=>⟨hr,h⟩
 | _+1=>⟨fun _=>h,by rw [hr];simp⟩
theorem yO4 {id:Nat} {a:Act} {w:World} (z:Nat) (hm:P.follows .mixedOrders=true) (hS:S w.drew)
  (h:S w.drew->jvl P .any ops Q S z ops.size (Array.replicate ops.size false) a w.drew):(Code.region id ops true).wp P Q a w :=
 wp_region_any hm (ynP _ _ _ _ (h hS))
end
end Go.Proofs.YtcdojnnkjeakmaaGreatDoor
namespace Go.Proofs.YtcdojnnkjeakmaaGreatDoor
open Go Go.RowKit
theorem TKT {P:Program} {ops:Array Oper} {Q:Exit->Act->World->Prop} {md:Region.Mode} {S:World->Prop} {z:Nat} (i:Nat) {oi:Oper} (v:Value) {aB:Nat} {aA:Array Bool} {a:Act} {w:World} (hi:ops[i]?=some oi) (hy:YieldsIf P ops S oi v a) (hS:S w)
  (h:jvl P md ops Q S z aB (aA.setIfInBounds i true) (a.put oi.dst v) w) (hs:Region.noSelect ops=true:=by kernel_rfl) (hf:Region.free md ops aA i=true:=by kernel_rfl) (hr:(Region.ready md ops aA).contains i=true:=by kernel_rfl) (hz:Q5Q md ops z i=true:=by kernel_rfl)
  (hQ:∀ c a w,Q (.panic c) (a.put oi.dst v) w->Q (.panic c) a w:=by exact fun _ _ _ h=>h):jvl P md ops Q S z (aB+1) aA a w:=Qoj hi hs hf hr hz hQ hy hS h
theorem TYT {P:Program} {ops:Array Oper} {Q:Exit->Act->World->Prop} {md:Region.Mode} {S:World->Prop} {z:Nat} (i:Nat) {oi:Oper} (v:Value) {aB:Nat} {aA:Array Bool} {a:Act} {w:World} (hi:ops[i]?=some oi) (hS:S w)
  (h:jvl P md ops Q S z aB (aA.setIfInBounds i true) (a.put oi.dst v) w) (hy:YieldsIf P ops S oi v a:=by exact Or.inl ⟨by rfl,fun w hw=>by (repeat (obtain ⟨_,hw⟩:=hw));go_simp⟩) (hs:Region.noSelect ops=true:=by kernel_rfl) (hf:Region.free md ops aA i=true:=by kernel_rfl) (hr:(Region.ready md ops aA).contains i=true:=by kernel_rfl) (hz:Q5Q md ops z i=true:=by kernel_rfl)
  (hQ:∀ c a w,Q (.panic c) (a.put oi.dst v) w->Q (.panic c) a w:=by exact fun _ _ _ h=>h):jvl P md ops Q S z (aB+1) aA a w:=Qoj hi hs hf hr hz hQ hy hS h
theorem RDT {P:Program} {ops:Array Oper} {Q:Exit->Act->World->Prop} {md:Region.Mode} {S:World->Prop} {z:Nat} {aB:Nat} {aA:Array Bool} {a:Act} {w:World} (i:Nat) {o:Oper} (ho:ops[i]?=some o)
  (h:∀ K':Act->World->Prop,Shut (∀ a w,S w->(S w->jvl P md ops Q S z aB (aA.setIfInBounds i true) a w)->K' a w)->if Region.wanted o (yielded ops a.tmps)=true then Oper.wp P o a w K' Q else K' (a.put o.dst undef) w)
  (hr:Region.ready md ops aA=[i]:=by kernel_rfl):jvl P md ops Q S z (aB+1) aA a w:=kPc hr (by simp) (AllReadyT.cons ho h AllReadyT.nil)
end Go.Proofs.YtcdojnnkjeakmaaGreatDoor
