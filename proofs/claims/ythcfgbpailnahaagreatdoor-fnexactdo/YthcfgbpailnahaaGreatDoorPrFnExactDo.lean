import Derived.Test.YthcfgbpailnahaaGreatDoorPrFnExactDoW
set_option maxHeartbeats 16000000
namespace Go.Proofs.YthcfgbpailnahaaGreatDoor.fnExactDo
open _root_.Go.Proofs.Tryz
open Go.ChangeShapes Go.WideShapes Go.ChangeAt Go.RowKit Go.Joins
open Go.ChangeMaps (open_string shut_string)
set_option linter.all false
set_option maxRecDepth 8000
set_option maxRecDepth 100000 in
theorem contract(H:Type)(enc:TypeId×Value->H)(W:World)(base:Nat)(args:Array Value)(ds gs:List (DataW H))(aA:List MemPlace)
  (aB:∀(j:Nat) t v,Tryz.f3.params[j]?=some t->args[j]?=some v->Value.okWide prog W .any base t v)
  (hW:DataW.Whole enc prog Tryz.f3.params.toList Rows.fnExactDoSpec.vars false W args.toList ds gs aA)(hL:laidMetH prog Rows.fnExactDoRow.laid W):Calls prog 3 args W λe W'=>∃v,e=.returned v/\Rows.fnExactDoSpec.post enc prog Tryz.f3 false true false false W args v W':=by
 have aO:=hW;obtain⟨p,q,aH,aM,rfl,bC,bE⟩:=hW;have hA:DataW.TrodAll enc prog W 0 (λ_=>true) true Tryz.f3.params.toList args.toList ds p:=aH
 have hV:DataW.TrodVars enc prog W (λ_=>true) ["loop.example/kilnstone/impl.errNoPage"] gs q:=aM
 rw[Tryz.params3]at hA aB;obtain⟨v0,bI,d0,aY,p0,q0,aI,rfl,rfl,h0,r0⟩:=trodAll_cons hA;obtain⟨v1,bJ,d1,aZ,p1,q1,rfl,rfl,rfl,h1,r1⟩:=trodAll_cons r0;obtain⟨rfl,rfl,rfl⟩:=trodAll_nil r1
 obtain rfl:args=#[v0,v1]:=by cases args;simp_all
 have k0:=h0;have k1:=h1;have aV:∀x∈p0,x.block<W.heap.size:=by obtain⟨m,hm⟩:=k0;exact DataW.trod_lt m _ _ _ hm
 have aW:∀x∈p1,x.block<W.heap.size:=by obtain⟨m,hm⟩:=k1;exact DataW.trod_lt m _ _ _ hm
 obtain⟨cs,rfl,bF⟩:=okWide_struct underlying35 (aB 0 35 v0 rfl rfl);obtain⟨aK,rfl,aU⟩:=okWide_struct underlying39 (aB 1 39 v1 rfl rfl);obtain⟨aF,hf⟩:=h0;obtain⟨aG,aQ⟩:=h1;obtain⟨x,q,aP,hS,hx⟩:=vL hf;obtain⟨e,a,c,f,dd,aE,hB,hI,aR,aT,aS⟩:=sE aQ;have aD:MD x q=.agg cs:=by rw[aP];simp[Value.cells]
 have aC:MK e a c f dd=.agg aK:=by rw[aE];simp[Value.cells]
 have aN:=hV;obtain⟨g,t,aX,aL,d,pp,rfl,_⟩:=trodVars_one hV;clear aH;have aJ:=walk x q e a c f dd W hS hx hB hI aR aT aS hL;rw[aD,aC]at aJ
 refine aJ.i λe W' ⟨he,bel⟩=>?_
 subst he
 exact⟨_,rfl,_,_,_,[],_,_,aO,trodAll_mk1 (shut_bool underlying4 _),(trodAll_cons_mk (Below.trod laidOut (by kernel_rfl) (AZ (by kernel_rfl)) k0 bel aV) (trodAll_cons_mk (Below.trod laidOut (by kernel_rfl) (AZ (by kernel_rfl)) k1 bel aW) trodAll_mk0)),Below.trodVars laidOut bel (by kernel_rfl) aN,bel.frame _,λh=>by cases h⟩
noncomputable def laidWorld (os:Os):World :=let w0:=World.holding prog os ⟨#[.cells #[.string ⟨#[110,111,32,112,97,103,101]⟩] 358],#[],[]⟩
 { w0 with heap:=(w0.heap.modify 0 fun
   | .cells _ t frozen=>.cells #[.iface 318 (.agg #[.pointer (some ⟨3,223,none⟩)])] t frozen
   | o=>o).modify 1 fun
   | .cells _ t frozen=>.cells #[.iface 331 (.pointer (some ⟨(begin prog (λ_ _=>0) default).world.heap.size,0,none⟩))] t frozen
   | o=>o }
set_option maxRecDepth 100000 in
theorem laid_met(os:Os):laidMetH prog Rows.fnExactDoRow.laid ((laidWorld os).forCall (λ_ _=>0) ⟨#[],#[.agg #[.int .i64 0,.slice none 0 0,.slice none 0 0,.bool false,.int .i64 0,.int .i64 0,.int .i64 0,.int .i64 0,.int .i64 0,.int .i64 0,.int .i64 0,.int .i64 0,.int .i64 0,.slice none 0 0,.slice none 0 0,.slice none 0 0],.agg #[.int .i64 0,.slice none 0 0,.int .i64 0,.slice none 0 0]],[]⟩).memory :=laidMetH_of_parts (laidMet_of_run' 8 (by kernel_rfl) (by kernel_rfl)) (by kernel_rfl)
set_option maxRecDepth 100000 in
theorem reads(os:Os){H:Type}(enc:TypeId×Value->H):∃x,DataW.whole enc prog ((laidWorld os).forCall (λ_ _=>0) ⟨#[],#[.agg #[.int .i64 0,.slice none 0 0,.slice none 0 0,.bool false,.int .i64 0,.int .i64 0,.int .i64 0,.int .i64 0,.int .i64 0,.int .i64 0,.int .i64 0,.int .i64 0,.int .i64 0,.slice none 0 0,.slice none 0 0,.slice none 0 0],.agg #[.int .i64 0,.slice none 0 0,.int .i64 0,.slice none 0 0]],[]⟩).memory Tryz.f3.params.toList Rows.fnExactDoSpec.vars false #[Value.agg #[.int .i64 0,.slice none 0 0,.slice none 0 0,.bool false,.int .i64 0,.int .i64 0,.int .i64 0,.int .i64 0,.int .i64 0,.int .i64 0,.int .i64 0,.int .i64 0,.int .i64 0,.slice none 0 0,.slice none 0 0,.slice none 0 0],Value.agg #[.int .i64 0,.slice none 0 0,.int .i64 0,.slice none 0 0]].toList 8=some x :=GO.1 (by kernel_rfl)
set_option maxRecDepth 100000 in
theorem lifted(os:Os)(aA:os.Started)(H:Type)(enc:TypeId×Value->H)(F:Stop.Interp):ReturnsInHanded {} Tryz.checked os 3 .any ((OpenSpec.ofChange Rows.fnExactDoSpec).preRow enc prog Tryz.f3 Rows.fnExactDoRow.domain false Rows.fnExactDoRow.laid) (((OpenSpec.ofChange Rows.fnExactDoSpec).at F).post enc prog Tryz.f3 false true false false):=by
 obtain⟨x,hx⟩:=reads os enc
 refine returnsInHanded_of_row (C:=Tryz.checked) (s:=OpenSpec.ofChange Rows.fnExactDoSpec) own aA (by kernel_rfl) func3
  (witness_row_at (enc:=enc) (C:=Tryz.checked) false (laidWorld os) #[.agg #[.int .i64 0,.slice none 0 0,.slice none 0 0,.bool false,.int .i64 0,.int .i64 0,.int .i64 0,.int .i64 0,.int .i64 0,.int .i64 0,.int .i64 0,.int .i64 0,.int .i64 0,.slice none 0 0,.slice none 0 0,.slice none 0 0],.agg #[.int .i64 0,.slice none 0 0,.int .i64 0,.slice none 0 0]] rfl (by kernel_rfl) (by kernel_rfl) (by kernel_rfl)
   (OpenSpec.preRow_of_cond 8 hx (by kernel_rfl) (λk hk=>by cases hk) (by kernel_rfl) (laid_met os))) ?_
 intro W base args ds gs aB aC hW _ _ _ hL _ _;exact contract H enc W base args ds gs aB aC hW hL
set_option maxRecDepth 100000 in
theorem said:Rows.FnExactDoSaid :=OpenClaim.holds_of_cond 3 Tryz.f3 (by as_aux_lemma=>rfl) (by as_aux_lemma=>rfl) (by as_aux_lemma=>rfl) (by as_aux_lemma=>rfl) (by as_aux_lemma=>rfl) (by as_aux_lemma=>rfl) (by as_aux_lemma=>rfl) ⟨(by as_aux_lemma=>rfl),(by as_aux_lemma=>rfl),(by as_aux_lemma=>rfl),(by as_aux_lemma=>rfl),(by as_aux_lemma=>rfl)⟩ (by as_aux_lemma=>rfl) (by as_aux_lemma=>rfl) (by as_aux_lemma=>rfl) (by as_aux_lemma=>rfl) (by as_aux_lemma=>rfl) (by as_aux_lemma=>kernel_rfl) func3 (by as_aux_lemma=>kernel_rfl)
  (AZ (by as_aux_lemma=>kernel_rfl)) (by unfold Func.isWrapper;first|(rw[AK (by as_aux_lemma=>decide +kernel)];as_aux_lemma=>kernel_rfl)|(rw[AE (by as_aux_lemma=>decide +kernel)];exact⟨(by as_aux_lemma=>rfl),(by as_aux_lemma=>rfl)⟩))
  (λos aA H enc _ F=>by rw[OpenClaim.pre_eq_preRow];exact lifted os aA H enc F)
set_option maxRecDepth 100000 in
theorem plain(f:FuncId)(fn:Func)(hf:Tryz.pinned.checked.prog.funcNamed "loop.example/kilnstone/laws.FnExactDo"=some f)(aA:Tryz.pinned.checked.prog.funcs[f]?=some fn):true=Tryz.pinned.checked.prog.looks []/\∀(j:Nat) t,fn.params[j]?=some t->Tryz.pinned.checked.prog.wantsStandIn t=false:=by
 obtain rfl:f=3:=DA ((show prog.funcNamed "loop.example/kilnstone/laws.FnExactDo"=some 3 by kernel_rfl).symm.j hf) |>.symm
 obtain rfl:fn=Tryz.f3:=(DA (func3.symm.j aA)).symm;refine⟨by kernel_rfl,λj t ht=>?_⟩;rw[Tryz.params3]at ht;have hm:t=35\/t=39:=by simpa using Array.mem_of_getElem? ht
 rcases hm with rfl|rfl
 ·exact(show prog.wantsStandIn 35=false by kernel_rfl)
 exact(show prog.wantsStandIn 39=false by kernel_rfl)
theorem proved:Rows.FnExactDoCardSaid :=Claim7.holds_tied_plain_at .later [] _ _ _ _ said (λ_ h=>by cases h) (by kernel_rfl) (λ_ h=>by cases h) fnExactDo_row_tie rfl ⟨rfl,rfl⟩ (by kernel_rfl) rfl plain (by kernel_rfl)
#print axioms proved
end Go.Proofs.YthcfgbpailnahaaGreatDoor.fnExactDo
