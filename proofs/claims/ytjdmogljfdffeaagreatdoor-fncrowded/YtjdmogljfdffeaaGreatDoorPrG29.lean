import Derived.Test.YtjdmogljfdffeaaGreatDoorPrAm
import Derived.Deep.RegionHeld
import Derived.WalkKit
set_option maxHeartbeats 16000000
set_option maxRecDepth 8000
set_option linter.all false
namespace Go.Proofs.YtjdmogljfdffeaaGreatDoor
section
open Go
variable {a:Act}{aA:Array Bool}{aB i:Nat}{w:World}
section
variable {P:Program} {ops:Array Oper} {Q:Exit->Act->World->Prop} {md:Region.Mode} {S:World->Prop} {z:Nat}
def RY(P:Program)(md:Region.Mode)(ops:Array Oper)(Q:Exit->Act->World->Prop)(S:World->Prop)(z:Nat):Nat->Array Bool->Act->World->Prop
 | 0,listed,a,w=>Region.ready md ops listed=[]/\Q .normal a w
 | fuel+1,listed,a,w =>
  (Region.ready md ops listed=[]->Q .normal a w) /\
  ∀i∈Region.ready md ops listed,wpOp P ops Q i (λa' w'=>(i≠z->S w')/\RY P md ops Q S z fuel (listed.setIfInBounds i true) a' w') a w
theorem uS:∀(aB:Nat) (aA:Array Bool) (a:Act) (w:World),RY P md ops Q S z aB aA a w->wpAny P md ops Q aB aA a w
 | 0,_,_,_,h=>h
 | aB+1,_,_,_,h=>⟨h.1,λi hi=>wpOp_mono (λa' w' h'=>uS aB _ a' w' h'.2) (h.2 i hi)⟩
theorem Gw{l:Oper}{v:Value}(s:ops[i]?=some l)(C:∀(j:Nat) (o:Oper) k b,ops[j]?=some o->o.op≠.select k b)
  (L:∀c a w,Q (.panic c) (a.put l.dst v) w->Q (.panic c) a w)(R:i≠z)(N:∀d,ops[z]?=some d->∃e∈d.after,Region.binds md e=true/\e.on=i):∀(aB:Nat) (aA:Array Bool) (a:Act) (w:World),
   (∀j d,ops[j]?=some d->j≠i->aA.getD j true=false->(∀e∈d.after,Region.binds md e=true->e.on≠i)->l.apart ops d=true) ->
   i∈Region.ready md ops aA->YieldsIf P ops S l v a->S w ->
   RY P md ops Q S z aB (aA.setIfInBounds i true) (a.put l.dst v) w->RY P md ops Q S z (aB+1) aA a w:=by
 intro aB
 induction aB with
 | zero =>
  intro aA a w _ g q m H;refine⟨λh=>(by rw[h]at g;cases g),λj p=>?_⟩
  by_cases c:j=i
  ·subst c;exact q.wpOp s m ⟨λ_=>m,H⟩
  have:=ready_mono p c
  rw[H.1]at this
  cases this
 | succ aB O =>
  intro aA a w y g q m H;refine⟨λh=>(by rw[h]at g;cases g),λj p=>?_⟩
  by_cases c:j=i
  ·subst c;exact q.wpOp s m ⟨λ_=>m,H⟩
  have f:=H.2 j (ready_mono p c)
  obtain⟨A,d,n,E⟩:=mem_ready.1 p
  have B:∀e∈d.after,Region.binds md e=true->e.on≠i:=λe t r h=>by
   have f:=E e t r;have t:=(mem_ready.1 g).1;rw[h]at f;rcases FY i aA.size with h|h
   ·simp[h]at t f;rw[t]at f;cases f
   simp[DP h]at f
  have F:j≠z:=λe=>by
   subst e;obtain⟨x,t,r,h⟩:=N d n;exact B x t r h
  have K:=wpOp_putIf n (y j d n c A B) (λk b=>C i l k b s) (λk b=>C j d k b n) L q (wpOp_mono (λu t h=>(⟨h.1 F,h.2⟩:S t/\_)) f)
  have D:∀k b,ops[k]?=some b->k≠i->(aA.setIfInBounds j true).getD k true=false ->
    (∀e∈b.after,Region.binds md e=true->e.on≠i)->l.apart ops b=true:=λk b M G x I=>by
   refine y k b M G ?_ I
   by_cases b:j=k
   ·subst b;exact A
   rw[getD_set_ne true b]at x;exact x
  refine wpOp_mono (λu t b=>⟨λ_=>b.2.1,O (aA.setIfInBounds j true) u t D (ready_mono g (IM c)) b.1 b.2.1 ?_⟩) K;rw[Array.setIfInBounds_comm _ _ c];exact b.2.2
def jz(md:Region.Mode)(ops:Array Oper)(z i:Nat):Bool:=i != z && (match ops[z]? with|some o=>o.after.any λe=>Region.binds md e && e.on == i|none=>true)
theorem nH{d:Oper}{v:Value}(g:ops[i]?=some d)
  (p:Region.noSelect ops=true)(m:Region.free md ops aA i=true)(o:(Region.ready md ops aA).contains i=true)(b:jz md ops z i=true)
  (j:∀c a w,Q (.panic c) (a.put d.dst v) w->Q (.panic c) a w)(q:YieldsIf P ops S d v a)(k:S w)
  (h:RY P md ops Q S z aB (aA.setIfInBounds i true) (a.put d.dst v) w):RY P md ops Q S z (aB+1) aA a w:=by
 unfold jz at b;rw[BE]at b;refine Gw g (Region.noSelect_spec p) j (by simpa using b.1) (λr n=>?_) aB aA a w (Region.free_spec g m) (by simpa using o) q k h;have f:=b.2;rw[n]at f;obtain⟨e,l,c⟩:=Array.any_eq_true'.1 f;rw[BE]at c;exact⟨e,l,c.1,by simpa using c.2⟩
def AllReadyT(P:Program)(md:Region.Mode)(ops:Array Oper)(Q:Exit->Act->World->Prop)(S:World->Prop)(z:Nat)(aB:Nat)(aA:Array Bool)(a:Act)(w:World)(d:List Nat):Prop :=∀i∈d,wpOp P ops Q i (λc b=>(i≠z->S b)/\RY P md ops Q S z aB (aA.setIfInBounds i true) c b) a w
theorem AllReadyT.nil:AllReadyT P md ops Q S z aB aA a w []:=λ_ h=>by cases h
theorem AllReadyT.cons{o:Oper}{e:List Nat}(k:ops[i]?=some o)
  (h:∀b:Act->World->Prop,Shut (∀a w,S w->(S w->RY P md ops Q S z aB (aA.setIfInBounds i true) a w)->b a w)->if Region.wanted o (yielded ops a.tmps)=true then Oper.wp P o a w b Q else b (a.put o.dst undef) w)
  (l:AllReadyT P md ops Q S z aB aA a w e):AllReadyT P md ops Q S z aB aA a w (i::e):=λj c=>by
 rcases DX.1 c with rfl|c
 ·exact wpOp_step k (λb f=>h b (λa w d g=>f a w ⟨λ_=>d,g d⟩))
 exact l j c
theorem AllReadyT.last{o:Oper}(e:ops[z]?=some o)
  (h:∀b:Act->World->Prop,Shut (∀a w,True->(True->RY P md ops Q S z aB (aA.setIfInBounds z true) a w)->b a w)->if Region.wanted o (yielded ops a.tmps)=true then Oper.wp P o a w b Q else b (a.put o.dst undef) w):AllReadyT P md ops Q S z aB aA a w [z]:=λj c=>by
 rw[DJ]at c;subst c;exact wpOp_step e (λb c=>h b (λa w _ d=>c a w ⟨λk=>absurd rfl k,d trivial⟩))
theorem RZ{rs:List Nat}(b:Region.ready md ops aA=rs)(c:rs≠[])
  (h:AllReadyT P md ops Q S z aB aA a w rs):RY P md ops Q S z (aB+1) aA a w:=⟨λd=>absurd (b ▸ d) c,b ▸ h⟩
theorem XH(hr:Region.ready md ops aA=[])(h:Q .normal a w):∀aB,RY P md ops Q S z aB aA a w
 | 0=>⟨hr,h⟩
 | _+1=>⟨λ_=>h,by rw[hr];simp⟩
theorem YH{d:Nat}(z:Nat)(c:P.follows .mixedOrders=true)(b:S w.drew)
  (h:S w.drew->RY P .any ops Q S z ops.size (Array.replicate ops.size false) a w.drew):(Code.region d ops true).wp P Q a w :=wp_region_any c (uS _ _ _ _ (h b))
end
end
section
open Go Go.RowKit
variable {a:Act}{aA:Array Bool}{ops:Array Oper}{Q:Exit->Act->World->Prop}{aB:Nat}{P:Program}{md:Region.Mode}{w:World}{S:World->Prop}
theorem OZ{z:Nat}(i:Nat){b:Oper}(v:Value)(g:ops[i]?=some b)(l:YieldsIf P ops S b v a)(e:S w)
  (h:RY P md ops Q S z aB (aA.setIfInBounds i true) (a.put b.dst v) w)(k:Region.noSelect ops=true:=by kernel_rfl)(f:Region.free md ops aA i=true:=by kernel_rfl)(j:(Region.ready md ops aA).contains i=true:=by kernel_rfl)(m:jz md ops z i=true:=by kernel_rfl)
  (d:∀c a w,Q (.panic c) (a.put b.dst v) w->Q (.panic c) a w:=by exactλ_ _ _ h=>h):RY P md ops Q S z (aB+1) aA a w:=nH g k f j m d l e h
theorem MZ{z:Nat}(i:Nat){b:Oper}(v:Value)(g:ops[i]?=some b)(e:S w)
  (h:RY P md ops Q S z aB (aA.setIfInBounds i true) (a.put b.dst v) w)(l:YieldsIf P ops S b v a:=by exact BW ⟨ρ,λw hw=>by(repeat (obtain⟨_,hw⟩:=hw));go_simp⟩)(k:Region.noSelect ops=true:=by kernel_rfl)(f:Region.free md ops aA i=true:=by kernel_rfl)(j:(Region.ready md ops aA).contains i=true:=by kernel_rfl)(m:jz md ops z i=true:=by kernel_rfl)
  (d:∀c a w,Q (.panic c) (a.put b.dst v) w->Q (.panic c) a w:=by exactλ_ _ _ h=>h):RY P md ops Q S z (aB+1) aA a w:=nH g k f j m d l e h
theorem OY{z:Nat}(i:Nat){o:Oper}(c:ops[i]?=some o)
  (h:∀b:Act->World->Prop,Shut (∀a w,S w->(S w->RY P md ops Q S z aB (aA.setIfInBounds i true) a w)->b a w)->if Region.wanted o (yielded ops a.tmps)=true then Oper.wp P o a w b Q else b (a.put o.dst undef) w)
  (b:Region.ready md ops aA=[i]:=by kernel_rfl):RY P md ops Q S z (aB+1) aA a w:=RZ b σ (AllReadyT.cons c h AllReadyT.nil)
