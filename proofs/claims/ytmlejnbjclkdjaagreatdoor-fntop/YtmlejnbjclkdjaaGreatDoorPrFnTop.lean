import Derived.JoinedCond
import Derived.ShutString
import Derived.OpenVars
import Derived.LaidLaws
import Derived.LaidHandle
import Derived.Deep.DeepHandedRow
import Derived.Test.YtmlejnbjclkdjaaGreatDoorCards
import Derived.Test.YtmlejnbjclkdjaaGreatDoorTie
import Derived.Test.YtmlejnbjclkdjaaGreatDoorPrTwL
set_option maxHeartbeats 16000000
namespace Go.Proofs.YtmlejnbjclkdjaaGreatDoor.fnTop
open _root_.Go.Proofs.Tryz
open Go.ChangeShapes Go.WideShapes Go.ChangeAt Go.RowKit
open Go.ChangeMaps (open_string shut_string)
set_option linter.all false
set_option maxRecDepth 8000
theorem own:ownKnob prog.godebug=none:=κ
theorem laidOut:laidOutB prog=true:=κ
theorem gEt:prog.globalNamed "errors.errorType"=some 0:=κ
theorem gEn:prog.globalNamed "loop.example/kilnstone/impl.errNoPage"=some 1:=κ
theorem gEnT:(prog.globals[1]?).map (·.type)=some 91:=κ
theorem rt:(prog.cutTypes.find? (·.1 == "internal/reflectlite.rtype")).map (·.2)=some 200:=κ
theorem oneRow:((List.range prog.types.size).filter λt=>prog.rowNamed t [101,114,114,111,114])=[91]:=κ
theorem of_laid{W:Nb}(h:laidMetH prog Rows.fnTopRow.laid W):W.cell? ⟨0,0,none⟩=some (.iface 200 (.agg #[Mv 3 91]))/\(∃b v,W.cell? ⟨1,0,none⟩=some (.iface b v))/\1<W.heap.size:=by
 have f:laidMet prog [("loop.example/kilnstone/impl.errNoPage",Rows.laid_loop_example_kilnstone_impl_errNoPage)] W/\handlesMet prog [("errors.errorType",Rows.laid_errors_errorType)] W:=h
 obtain⟨i,u,b,o,p,q,r,e⟩:=f.2 _ (BL.2 rfl);have s:i=[101,114,114,111,114]:=(CE o).symm;subst s;obtain rfl:=CE (rt.symm.j p)
 have g:b∈(List.range prog.types.size).filter λt=>prog.rowNamed t [101,114,114,111,114]:=List.mem_filter.2 ⟨GP.2 q,r⟩
 rw[oneRow]at g;obtain rfl:=BL.1 g;have t:typeHandle prog 91=Mv 3 91:=κ
 rw[t]at e;obtain⟨A,⟨x,C,j,w,z,B,l,m,n,k,_,_⟩,_,_⟩:=f.1;obtain rfl:=CE (gEn.symm.j l);obtain rfl:=CE (gEnT.symm.j m);obtain⟨y⟩:=j;obtain⟨_,u,v,d,_,_⟩:=iface_of_trod underlying91 k
 have c:W.cell? ⟨1,0,none⟩=some (.iface u v):=by
  have:=World.var?_cell gEn n 0;simp at d;subst d;simpa using this
 refine⟨by simpa using World.var?_cell gEt e 0,⟨u,v,c⟩,?_⟩;rcases GF 1 W.heap.size with a|a
 ·exact a
 exfalso
 have:W.heap[1]?=none:=DU a;simp[World.cell?,this]at c
theorem walk(a:M6)(n c:Nat)(b:M6)(m d:Nat)(w:Nb)(h:Bys w a n)(p:n<=c)(r:n<=maxLen)(l:Bys w b m)(q:m<=d)(f:m<=maxLen)(o:laidMetH prog Rows.fnTopRow.laid w):Calls prog 3 #[.slice a n c,.slice b m d] w λe g=>e=M3 (M0 true)/\Below w.heap.size w g:=by
 obtain⟨i,j,k⟩:=of_laid o;unfold maxLen at r f
 by_cases s:n<=1048576
 ·by_cases g:m<=1048576
  ·exact In a n c b m d w h l p q s g ⟨j,i,k,by show 0<_;omega⟩
  have e:¬1048576<(n:Int):=ω
  have t:1048576<(m:Int):=ω
  go_enter func3,ntmps3;go_wp2;go_ret;exact⟨rfl,AB _ _⟩
 have e:1048576<(n:Int):=ω
 go_enter func3,ntmps3;go_wp2;go_ret;exact⟨rfl,AB _ _⟩
set_option maxRecDepth 100000 in
theorem contract(H:Type)(b:TypeId×Nc->H)(W:Nb)(c:Nat)(a:Array Nc)(o r:List (DataW H))(D:List MemPlace)
  (f:∀(j:Nat) t v,Tryz.f3.params[j]?=some t->a[j]?=some v->Value.okWide prog W .any c t v)
  (y:DataW.Whole b prog Tryz.f3.params.toList Rows.fnTopSpec.vars false W a.toList o r D)(T:laidMetH prog Rows.fnTopRow.laid W):Calls prog 3 a W λe h=>∃v,e=M3 v/\Rows.fnTopSpec.post b prog Tryz.f3 false true false false W a v h:=by
 have J:=y;obtain⟨p,q,n,G,rfl,bC,bE⟩:=y;have v:DataW.TrodAll b prog W 0 (λ_=>true) true Tryz.f3.params.toList a.toList o p:=n
 have w:DataW.TrodVars b prog W (λ_=>true) ["loop.example/kilnstone/impl.errNoPage"] r q:=G
 rw[Tryz.params3]at v f;obtain⟨B,bH,d0,aY,V,q0,aH,rfl,rfl,s,r0⟩:=trodAll_cons v;obtain⟨C,bI,d1,aZ,X,q1,rfl,rfl,rfl,u,r1⟩:=trodAll_cons r0;obtain⟨rfl,rfl,rfl⟩:=trodAll_nil r1
 obtain rfl:a=#[B,C]:=by cases a;simp_all
 have z:=s;have A:=u;have Q:∀x∈X,x.block<W.heap.size:=by obtain⟨m,l⟩:=A;exact DataW.trod_lt m _ _ _ l
 have P:∀x∈V,x.block<W.heap.size:=by obtain⟨m,l⟩:=z;exact DataW.trod_lt m _ _ _ l
 obtain⟨a1,bG,R,rfl⟩:=okWide_slice underlying22 (f 0 22 B rfl rfl);obtain⟨aE,U⟩:=s;obtain⟨a0,n0,c0,N,S,L,M⟩:=oR underlying22 underlying5 κ U;injection N with i j k;subst i j k;obtain⟨a2,aT,aI,rfl⟩:=okWide_slice underlying22 (f 1 22 C rfl rfl);obtain⟨aF,K⟩:=u;obtain⟨b0,m0,aX,O,F,x,E⟩:=oR underlying22 underlying5 κ K;injection O with i j k;subst i j k;have I:=w;obtain⟨g,t,aW,aJ,d,pp,rfl,_⟩:=trodVars_one w;clear n
 refine(walk _ _ _ _ _ _ W S L M F x E T).z λe h ⟨he,bel⟩=>?_
 subst he
 exact⟨_,rfl,_,_,_,[],_,_,J,trodAll_mk1 (shut_bool underlying4 _),(trodAll_cons_mk (Below.trod laidOut κ (AV κ) z bel P) (trodAll_cons_mk (Below.trod laidOut κ (AV κ) A bel Q) trodAll_mk0)),Below.trodVars laidOut bel κ I,bel.frame _,λh=>by cases h⟩
noncomputable def laidWorld (os:Os):Nb :=let w0:=World.holding prog os ⟨#[.cells #[Mz ⟨#[110,111,32,112,97,103,101]⟩] 319],#[],[]⟩
 { w0 with heap:=(w0.heap.modify 0 fun
   | .cells _ t frozen=>.cells #[.iface 200 (.agg #[.pointer (some ⟨3,91,none⟩)])] t frozen
   | o=>o).modify 1 fun
   | .cells _ t frozen=>.cells #[.iface 292 (.pointer (some ⟨(begin prog (λ_ _=>0) default).world.heap.size,0,none⟩))] t frozen
   | o=>o }
set_option maxRecDepth 100000 in
theorem laid_met(a:Os):laidMetH prog Rows.fnTopRow.laid ((laidWorld a).forCall (λ_ _=>0) ⟨#[],#[.slice none 0 0,.slice none 0 0],[]⟩).memory :=laidMetH_of_parts (laidMet_of_run' 8 κ κ) κ
set_option maxRecDepth 100000 in
theorem reads(b:Os){H:Type}(a:TypeId×Nc->H):∃x,DataW.whole a prog ((laidWorld b).forCall (λ_ _=>0) ⟨#[],#[.slice none 0 0,.slice none 0 0],[]⟩).memory Tryz.f3.params.toList Rows.fnTopSpec.vars false #[Value.slice none 0 0,Value.slice none 0 0].toList 8=some x :=FW.1 κ
set_option maxRecDepth 100000 in
theorem lifted(d:Os)(e:d.Started)(H:Type)(a:TypeId×Nc->H)(F:Stop.Interp):ReturnsInHanded {} Tryz.checked d 3 .any ((OpenSpec.ofChange Rows.fnTopSpec).preRow a prog Tryz.f3 Rows.fnTopRow.domain false Rows.fnTopRow.laid) (((OpenSpec.ofChange Rows.fnTopSpec).at F).post a prog Tryz.f3 false true false false):=by
 obtain⟨x,l⟩:=reads d a
 refine returnsInHanded_of_row (C:=Tryz.checked) (s:=OpenSpec.ofChange Rows.fnTopSpec) own e κ func3
  (witness_row_at (enc:=a) (C:=Tryz.checked) false (laidWorld d) #[.slice none 0 0,.slice none 0 0] rfl κ κ κ
   (OpenSpec.preRow_of_cond 8 l κ (λk b=>by cases b) κ (laid_met d))) ?_
 intro W c b h i f g k _ _ _ j _ _;exact contract H a W c b h i f g k j
set_option maxRecDepth 100000 in
theorem closed:joinedFacts prog 3 Tryz.f3 (OpenSpec.ofChange Rows.fnTopSpec).bare Rows.fnTopRow=true:=by
 unfold joinedFacts
 repeat refine Bool.and_eq_true_iff.2 ⟨?_,?_⟩
 all_goals as_aux_lemma=>kernel_rfl
set_option maxRecDepth 100000 in
theorem said:Rows.FnTopSaid :=OpenClaim.holds_of_cond 3 Tryz.f3 (by as_aux_lemma=>rfl) (by as_aux_lemma=>rfl) (by as_aux_lemma=>rfl) (by as_aux_lemma=>rfl) (by as_aux_lemma=>rfl) (by as_aux_lemma=>rfl) (by as_aux_lemma=>rfl) ⟨(by as_aux_lemma=>rfl),(by as_aux_lemma=>rfl),(by as_aux_lemma=>rfl),(by as_aux_lemma=>rfl),(by as_aux_lemma=>rfl)⟩ (by as_aux_lemma=>rfl) (by as_aux_lemma=>rfl) (by as_aux_lemma=>rfl) (by as_aux_lemma=>rfl) (by as_aux_lemma=>rfl) (by as_aux_lemma=>kernel_rfl) func3 closed
  (AV (by as_aux_lemma=>kernel_rfl)) (by unfold Func.isWrapper;first|(rw[AE (by as_aux_lemma=>decide +kernel)];as_aux_lemma=>kernel_rfl)|(rw[AG (by as_aux_lemma=>decide +kernel)];exact⟨(by as_aux_lemma=>rfl),(by as_aux_lemma=>rfl)⟩))
  (λc b H a _ F=>by rw[OpenClaim.pre_eq_preRow];exact lifted c b H a F)
set_option maxRecDepth 100000 in
theorem plain(f:FuncId)(a:Func)(d:Tryz.pinned.checked.prog.funcNamed "loop.example/kilnstone/laws.FnTop"=some f)(c:Tryz.pinned.checked.prog.funcs[f]?=some a):true=Tryz.pinned.checked.prog.looks []/\∀(j:Nat) t,a.params[j]?=some t->Tryz.pinned.checked.prog.wantsStandIn t=false:=by
 obtain rfl:f=3:=CE ((show prog.funcNamed "loop.example/kilnstone/laws.FnTop"=some 3 by kernel_rfl).symm.j d) |>.symm
 obtain rfl:a=Tryz.f3:=(CE (func3.symm.j c)).symm;refine⟨κ,λj t b=>?_⟩;rw[Tryz.params3]at b;have e:t=22:=by have:=Array.mem_of_getElem? b;simp at this;exact this
 subst e;exact(show prog.wantsStandIn 22=false by kernel_rfl)
theorem proved:Rows.FnTopCardSaid :=Claim7.holds_tied_plain_at .later [] _ _ _ _ said (λ_ h=>by cases h) κ (λ_ h=>by cases h) fnTop_row_tie rfl ⟨rfl,rfl⟩ κ rfl plain κ
#print axioms proved
end Go.Proofs.YtmlejnbjclkdjaaGreatDoor.fnTop
