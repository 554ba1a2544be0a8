import Derived.JoinedCond
import Derived.Test.YtkdedmclofhndaaGreatDoorPrG24
set_option maxHeartbeats 16000000
namespace Go.Proofs.YtkdedmclofhndaaGreatDoor.fnExactSession
open _root_.ByteArray(empty)
open _root_.Go.Proofs.Tryz
open Go.ChangeShapes Go.WideShapes Go.ChangeAt Go.RowKit
open Go.ChangeMaps (open_string shut_string)
set_option linter.all false
set_option maxRecDepth 100000 in
theorem contract(H:Type)(b:TypeId×qD->H)(W:xV)(c:Nat)(a:Array qD)(k l:List (DataW H))(u:List MemPlace)
  (i:∀(j:Nat) t v,Tryz.f3.params[j]?=some t->a[j]?=some v->Value.okWide prog W .any c t v)
  (n:DataW.Whole b prog Tryz.f3.params.toList Rows.fnExactSessionSpec.vars false W a.toList k l u)(z:laidMetH prog Rows.fnExactSessionRow.laid W):Calls prog 3 a W λe f=>∃v,e=yT v/\Rows.fnExactSessionSpec.post b prog Tryz.f3 false true false false W a v f:=by
 have x:=n;obtain⟨p,q,h,v,rfl,E,F⟩:=n;have j:DataW.TrodAll b prog W 0 (λ_=>true) true Tryz.f3.params.toList a.toList k p:=h
 have m:DataW.TrodVars b prog W (λ_=>true) ["loop.example/kilnstone/impl.errNoPage"] l q:=v
 rw[Tryz.params3]at j i;obtain⟨o,G,J,D,K,M,B,rfl,rfl,y,A⟩:=trodAll_cons j;obtain⟨rfl,rfl,rfl⟩:=trodAll_nil A
 obtain rfl:a=#[o]:=by cases a;simp_all
 obtain⟨s,rfl,rfl,rfl,r⟩:=open_string underlying9 (i 0 9 o rfl rfl) y;have w:=m;obtain⟨g,t,I,C,d,L,rfl,_⟩:=trodVars_one m;clear h
 refine(walk s r W z).J λe f ⟨he,bel⟩=>?_
 subst he
 exact⟨_,rfl,_,_,_,[],_,_,x,trodAll_mk1 (shut_bool underlying4 _),(trodAll_cons_mk (shut_string underlying9 r) trodAll_mk0),Below.trodVars laidOut bel κ w,bel.frame _,λh=>by cases h⟩
def dCells:DataW Unit->List qD
 | .agg ds=>ds.flatMap fun
  | .lit (.int k z)=>[.int k z]
  | .agg es=>es.flatMap fun
   | .lit (.int k z)=>[.int k z]
   | _=>[]
  | _=>[]
 | _=>[]
def lay(cs:Array qD):Obj->Obj
 | .cells _ t frozen=>.cells cs t frozen
 | o=>o
noncomputable def laidWorld (os:Os):xV :=let w0:=World.holding prog os ⟨#[.cells #[yQ ⟨#[110,111,32,112,97,103,101]⟩] 336,.cells #[yQ ⟨#[105,110,118,97,108,105,100,32,115,121,110,116,97,120]⟩] 336,.cells #[yQ ⟨#[118,97,108,117,101,32,111,117,116,32,111,102,32,114,97,110,103,101]⟩] 336],#[],[]⟩
 { w0 with heap:=(((((((((w0.heap).modify 1 (lay (#[.iface 320 (.agg #[zW 10 57])]))).modify 2 (lay (dCells Rows.laid_unicode_utf8_first).toArray)).modify 3 (lay (dCells Rows.laid_unicode_utf8_acceptRanges).toArray)).modify 4 (lay (#[.iface 334 (zW ((begin prog (λ_ _=>0) default).world.heap.size+1) 0)]))).modify 5 (lay (#[.iface 334 (zW ((begin prog (λ_ _=>0) default).world.heap.size+2) 0)]))).modify 6 (lay (dCells Rows.laid_internal_strconv_uint64pow10).toArray)).modify 7 (lay (#[.iface 334 (zW ((begin prog (λ_ _=>0) default).world.heap.size) 0)]))).modify 8 (lay (dCells Rows.laid_math_bits_deBruijn32tab).toArray)).modify 9 (lay (dCells Rows.laid_math_bits_deBruijn64tab).toArray) }
set_option maxRecDepth 100000 in
theorem laid_met(a:Os):laidMetH prog Rows.fnExactSessionRow.laid ((laidWorld a).forCall (λ_ _=>0) ⟨#[],#[yQ empty],[]⟩).memory :=laidMetH_of_parts (laidMet_of_run' 8 κ κ) κ
set_option maxRecDepth 100000 in
theorem reads(b:Os){H:Type}(a:TypeId×qD->H):∃x,DataW.whole a prog ((laidWorld b).forCall (λ_ _=>0) ⟨#[],#[yQ empty],[]⟩).memory Tryz.f3.params.toList Rows.fnExactSessionSpec.vars false #[yQ empty].toList 8=some x :=IF.1 κ
set_option maxRecDepth 100000 in
theorem lifted(d:Os)(e:d.Started)(H:Type)(a:TypeId×qD->H)(F:Stop.Interp):ReturnsInHanded {} Tryz.checked d 3 .any ((OpenSpec.ofChange Rows.fnExactSessionSpec).preRow a prog Tryz.f3 Rows.fnExactSessionRow.domain false Rows.fnExactSessionRow.laid) (((OpenSpec.ofChange Rows.fnExactSessionSpec).at F).post a prog Tryz.f3 false true false false):=by
 obtain⟨x,l⟩:=reads d a
 refine returnsInHanded_of_row (C:=Tryz.checked) (s:=OpenSpec.ofChange Rows.fnExactSessionSpec) own e κ func3
  (witness_row_at (enc:=a) (C:=Tryz.checked) false (laidWorld d) #[yQ empty] rfl κ κ κ
   (OpenSpec.preRow_of_cond 8 l κ (λk b=>by cases b) κ (laid_met d))) ?_
 intro W c b h i f g k _ _ _ j _ _;exact contract H a W c b h i f g k j
set_option maxRecDepth 100000 in
theorem closed:joinedFacts prog 3 Tryz.f3 (OpenSpec.ofChange Rows.fnExactSessionSpec).bare Rows.fnExactSessionRow=true:=by
 unfold joinedFacts
 repeat refine Bool.and_eq_true_iff.2 ⟨?_,?_⟩
 all_goals as_aux_lemma=>kernel_rfl
set_option maxRecDepth 100000 in
theorem said:Rows.FnExactSessionSaid :=OpenClaim.holds_of_cond 3 Tryz.f3 (by as_aux_lemma=>rfl) (by as_aux_lemma=>rfl) (by as_aux_lemma=>rfl) (by as_aux_lemma=>rfl) (by as_aux_lemma=>rfl) (by as_aux_lemma=>rfl) (by as_aux_lemma=>rfl) ⟨(by as_aux_lemma=>rfl),(by as_aux_lemma=>rfl),(by as_aux_lemma=>rfl),(by as_aux_lemma=>rfl),(by as_aux_lemma=>rfl)⟩ (by as_aux_lemma=>rfl) (by as_aux_lemma=>rfl) (by as_aux_lemma=>rfl) (by as_aux_lemma=>rfl) (by as_aux_lemma=>rfl) (by as_aux_lemma=>kernel_rfl) func3 closed
  (AW (by as_aux_lemma=>kernel_rfl)) (by unfold Func.isWrapper;first|(rw[AI (by as_aux_lemma=>decide +kernel)];as_aux_lemma=>kernel_rfl)|(rw[AF (by as_aux_lemma=>decide +kernel)];exact⟨(by as_aux_lemma=>rfl),(by as_aux_lemma=>rfl)⟩))
  (λc b H a _ F=>by rw[OpenClaim.pre_eq_preRow];exact lifted c b H a F)
set_option maxRecDepth 100000 in
theorem plain(f:FuncId)(a:Func)(d:Tryz.pinned.checked.prog.funcNamed "loop.example/kilnstone/laws.FnExactSession"=some f)(c:Tryz.pinned.checked.prog.funcs[f]?=some a):true=Tryz.pinned.checked.prog.looks []/\∀(j:Nat) t,a.params[j]?=some t->Tryz.pinned.checked.prog.wantsStandIn t=false:=by
 obtain rfl:f=3:=BP ((show prog.funcNamed "loop.example/kilnstone/laws.FnExactSession"=some 3 by kernel_rfl).symm.E d) |>.symm
 obtain rfl:a=Tryz.f3:=(BP (func3.symm.E c)).symm;refine⟨κ,λj t b=>?_⟩;rw[Tryz.params3]at b;have e:t=9:=by simpa using Array.mem_of_getElem? b
 subst e;exact(show prog.wantsStandIn 9=false by kernel_rfl)
theorem proved:Rows.FnExactSessionCardSaid :=Claim7.holds_tied_plain_at .later [] _ _ _ _ said (λ_ h=>by cases h) κ (λ_ h=>by cases h) fnExactSession_row_tie rfl ⟨rfl,rfl⟩ κ rfl plain κ
#print axioms proved
end Go.Proofs.YtkdedmclofhndaaGreatDoor.fnExactSession
