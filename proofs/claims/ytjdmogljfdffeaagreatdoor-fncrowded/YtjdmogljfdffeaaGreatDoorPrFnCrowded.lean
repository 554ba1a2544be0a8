import Derived.JoinedCond
import Derived.ShutString
import Derived.OpenVars
import Derived.LaidLaws
import Derived.LaidHandle
import Derived.Deep.DeepHandedRow
import Derived.Test.YtjdmogljfdffeaaGreatDoorCards
import Derived.Test.YtjdmogljfdffeaaGreatDoorTie
import Derived.Test.YtjdmogljfdffeaaGreatDoorPrG26
set_option maxHeartbeats 16000000
namespace Go.Proofs.YtjdmogljfdffeaaGreatDoor.fnCrowded
open _root_.Go.Proofs.Tryz
open Go.ChangeShapes Go.WideShapes Go.ChangeAt Go.RowKit
open Go.ChangeMaps (open_string shut_string)
set_option linter.all false
set_option maxRecDepth 8000
theorem own:ownKnob prog.godebug=none:=κ
theorem laidOut:laidOutB prog=true:=κ
theorem gEt:prog.globalNamed "errors.errorType"=some 0:=κ
theorem gEn:prog.globalNamed "loop.example/kilnstone/impl.errNoPage"=some 1:=κ
theorem gEnT:(prog.globals[1]?).map (·.type)=some 125:=κ
theorem rt:(prog.cutTypes.find? (·.1 == "internal/reflectlite.rtype")).map (·.2)=some 263:=κ
theorem oneRow:((List.range prog.types.size).filter λt=>prog.rowNamed t [101,114,114,111,114])=[125]:=κ
theorem of_laid{W:World}(h:laidMetH prog Rows.fnCrowdedRow.laid W):W.cell? ⟨0,0,none⟩=some (.iface 263 (.agg #[.pointer (some ⟨3,125,none⟩)]))/\(∃b v,W.cell? ⟨1,0,none⟩=some (.iface b v))/\1<W.heap.size:=by
 have f:laidMet prog [("loop.example/kilnstone/impl.errNoPage",Rows.laid_loop_example_kilnstone_impl_errNoPage)] W/\handlesMet prog [("errors.errorType",Rows.laid_errors_errorType)] W:=h
 obtain⟨i,u,b,o,p,q,r,e⟩:=f.2 _ (DJ.2 rfl);have s:i=[101,114,114,111,114]:=(CZ o).symm;subst s;obtain rfl:=CZ (rt.symm.j p)
 have g:b∈(List.range prog.types.size).filter λt=>prog.rowNamed t [101,114,114,111,114]:=List.mem_filter.2 ⟨EZ.2 q,r⟩
 rw[oneRow]at g;obtain rfl:=DJ.1 g;have t:typeHandle prog 125=.pointer (some ⟨3,125,none⟩):=κ
 rw[t]at e;obtain⟨A,⟨x,C,j,w,z,B,l,m,n,k,_,_⟩,_,_⟩:=f.1;obtain rfl:=CZ (gEn.symm.j l);obtain rfl:=CZ (gEnT.symm.j m);obtain⟨y⟩:=j;obtain⟨_,u,v,d,_,_⟩:=iface_of_trod underlying125 k
 have c:W.cell? ⟨1,0,none⟩=some (.iface u v):=by
  have:=World.var?_cell gEn n 0;simp at d;subst d;simpa using this
 refine⟨by simpa using World.var?_cell gEt e 0,⟨u,v,c⟩,?_⟩;rcases FY 1 W.heap.size with a|a
 ·exact a
 exfalso
 have:W.heap[1]?=none:=DP a;simp[World.cell?,this]at c
theorem walk(a:Option Addr)(n c:Nat)(w:World)(h:Bys w a n)(g:n<=c)(i:n<=maxLen)(f:laidMetH prog Rows.fnCrowdedRow.laid w):Calls prog 3 #[.slice a n c] w λe b=>e=.returned (.bool true)/\Below w.heap.size w b:=by
 obtain⟨b,d,e⟩:=of_laid f;unfold maxLen at i
 by_cases j:n<=1048576
 ·exact Ga a n c w h g j ⟨d,b,e,by show 0<_;omega⟩
 have k:1048576<(n:Int):=ω
 go_enter func3,ntmps3;go_wp2;go_ret;exact⟨rfl,AC _ _⟩
set_option maxRecDepth 100000 in
theorem contract(H:Type)(b:TypeId×Value->H)(W:World)(c:Nat)(a:Array Value)(k l:List (DataW H))(w:List MemPlace)
  (i:∀(j:Nat) t v,Tryz.f3.params[j]?=some t->a[j]?=some v->Value.okWide prog W .any c t v)
  (r:DataW.Whole b prog Tryz.f3.params.toList Rows.fnCrowdedSpec.vars false W a.toList k l w)(K:laidMetH prog Rows.fnCrowdedRow.laid W):Calls prog 3 a W λe f=>∃v,e=.returned v/\Rows.fnCrowdedSpec.post b prog Tryz.f3 false true false false W a v f:=by
 have y:=r;obtain⟨p,q,h,v,rfl,aP,aQ⟩:=r;have n:DataW.TrodAll b prog W 0 (λ_=>true) true Tryz.f3.params.toList a.toList k p:=h
 have o:DataW.TrodVars b prog W (λ_=>true) ["loop.example/kilnstone/impl.errNoPage"] l q:=v
 rw[Tryz.params3]at n i;obtain⟨u,aS,d0,X,N,q0,S,rfl,rfl,j,O⟩:=trodAll_cons n;obtain⟨rfl,rfl,rfl⟩:=trodAll_nil O
 obtain rfl:a=#[u]:=by cases a;simp_all
 have s:=j;have C:∀x∈N,x.block<W.heap.size:=by obtain⟨m,M⟩:=s;exact DataW.trod_lt m _ _ _ M
 obtain⟨Q,aR,D,rfl⟩:=okWide_slice underlying22 (i 0 22 u rfl rfl);obtain⟨R,L⟩:=j;obtain⟨P,n0,c0,B,I,z,A⟩:=SM underlying22 underlying5 κ L;injection B with E F G;subst E F G;have x:=o;obtain⟨g,t,U,T,d,pp,rfl,_⟩:=trodVars_one o;clear h
 refine(walk _ _ _ W I z A K).A λe f ⟨he,bel⟩=>?_
 subst he
 exact⟨_,rfl,_,_,_,[],_,_,y,trodAll_mk1 (shut_bool underlying4 _),(trodAll_cons_mk (Below.trod laidOut κ (AU κ) s bel C) trodAll_mk0),Below.trodVars laidOut bel κ x,bel.frame _,λh=>by cases h⟩
noncomputable def laidWorld (os:Os):World :=let w0:=World.holding prog os ⟨#[.cells #[.string ⟨#[110,111,32,112,97,103,101]⟩] 304],#[],[]⟩
 { w0 with heap:=(w0.heap.modify 0 fun
   | .cells _ t frozen=>.cells #[.iface 263 (.agg #[.pointer (some ⟨3,125,none⟩)])] t frozen
   | o=>o).modify 1 fun
   | .cells _ t frozen=>.cells #[.iface 276 (.pointer (some ⟨(begin prog (λ_ _=>0) default).world.heap.size,0,none⟩))] t frozen
   | o=>o }
set_option maxRecDepth 100000 in
theorem laid_met(a:Os):laidMetH prog Rows.fnCrowdedRow.laid ((laidWorld a).forCall (λ_ _=>0) ⟨#[],#[.slice none 0 0],[]⟩).memory :=laidMetH_of_parts (laidMet_of_run' 8 κ κ) κ
set_option maxRecDepth 100000 in
theorem reads(b:Os){H:Type}(a:TypeId×Value->H):∃x,DataW.whole a prog ((laidWorld b).forCall (λ_ _=>0) ⟨#[],#[.slice none 0 0],[]⟩).memory Tryz.f3.params.toList Rows.fnCrowdedSpec.vars false #[Value.slice none 0 0].toList 8=some x :=GS.1 κ
set_option maxRecDepth 100000 in
theorem lifted(d:Os)(e:d.Started)(H:Type)(a:TypeId×Value->H)(F:Stop.Interp):ReturnsInHanded {} Tryz.checked d 3 .any ((OpenSpec.ofChange Rows.fnCrowdedSpec).preRow a prog Tryz.f3 Rows.fnCrowdedRow.domain false Rows.fnCrowdedRow.laid) (((OpenSpec.ofChange Rows.fnCrowdedSpec).at F).post a prog Tryz.f3 false true false false):=by
 obtain⟨x,l⟩:=reads d a
 refine returnsInHanded_of_row (C:=Tryz.checked) (s:=OpenSpec.ofChange Rows.fnCrowdedSpec) own e κ func3
  (witness_row_at (enc:=a) (C:=Tryz.checked) false (laidWorld d) #[.slice none 0 0] rfl κ κ κ
   (OpenSpec.preRow_of_cond 8 l κ (λk b=>by cases b) κ (laid_met d))) ?_
 intro W c b h i f g k _ _ _ j _ _;exact contract H a W c b h i f g k j
set_option maxRecDepth 100000 in
theorem closed:joinedFacts prog 3 Tryz.f3 (OpenSpec.ofChange Rows.fnCrowdedSpec).bare Rows.fnCrowdedRow=true:=by
 unfold joinedFacts
 repeat refine Bool.and_eq_true_iff.2 ⟨?_,?_⟩
 all_goals as_aux_lemma=>kernel_rfl
set_option maxRecDepth 100000 in
theorem said:Rows.FnCrowdedSaid :=OpenClaim.holds_of_cond 3 Tryz.f3 (by as_aux_lemma=>rfl) (by as_aux_lemma=>rfl) (by as_aux_lemma=>rfl) (by as_aux_lemma=>rfl) (by as_aux_lemma=>rfl) (by as_aux_lemma=>rfl) (by as_aux_lemma=>rfl) ⟨(by as_aux_lemma=>rfl),(by as_aux_lemma=>rfl),(by as_aux_lemma=>rfl),(by as_aux_lemma=>rfl),(by as_aux_lemma=>rfl)⟩ (by as_aux_lemma=>rfl) (by as_aux_lemma=>rfl) (by as_aux_lemma=>rfl) (by as_aux_lemma=>rfl) (by as_aux_lemma=>rfl) (by as_aux_lemma=>kernel_rfl) func3 closed
  (AU (by as_aux_lemma=>kernel_rfl)) (by unfold Func.isWrapper;first|(rw[AF (by as_aux_lemma=>decide +kernel)];as_aux_lemma=>kernel_rfl)|(rw[AG (by as_aux_lemma=>decide +kernel)];exact⟨(by as_aux_lemma=>rfl),(by as_aux_lemma=>rfl)⟩))
  (λc b H a _ F=>by rw[OpenClaim.pre_eq_preRow];exact lifted c b H a F)
set_option maxRecDepth 100000 in
theorem plain(f:FuncId)(a:Func)(d:Tryz.pinned.checked.prog.funcNamed "loop.example/kilnstone/laws.FnCrowded"=some f)(c:Tryz.pinned.checked.prog.funcs[f]?=some a):true=Tryz.pinned.checked.prog.looks []/\∀(j:Nat) t,a.params[j]?=some t->Tryz.pinned.checked.prog.wantsStandIn t=false:=by
 obtain rfl:f=3:=CZ ((show prog.funcNamed "loop.example/kilnstone/laws.FnCrowded"=some 3 by kernel_rfl).symm.j d) |>.symm
 obtain rfl:a=Tryz.f3:=(CZ (func3.symm.j c)).symm;refine⟨κ,λj t b=>?_⟩;rw[Tryz.params3]at b;have e:t=22:=by simpa using Array.mem_of_getElem? b
 subst e;exact(show prog.wantsStandIn 22=false by kernel_rfl)
theorem proved:Rows.FnCrowdedCardSaid :=Claim7.holds_tied_plain_at .later [] _ _ _ _ said (λ_ h=>by cases h) κ (λ_ h=>by cases h) fnCrowded_row_tie rfl ⟨rfl,rfl⟩ κ rfl plain κ
#print axioms proved
end Go.Proofs.YtjdmogljfdffeaaGreatDoor.fnCrowded
