import Derived.JoinedCond
import Derived.ShutString
import Derived.OpenVars
import Derived.LaidLaws
import Derived.LaidHandle
import Derived.Lib.LaidTab
import Derived.Deep.DeepHandedRow
import Derived.Test.YteflhojcomcfaaaGreatDoorCards
import Derived.Test.YteflhojcomcfaaaGreatDoorTie
import Derived.Test.YteflhojcomcfaaaGreatDoorPrG42
set_option maxHeartbeats 16000000
namespace Go.Proofs.YteflhojcomcfaaaGreatDoor.fnLines
open _root_.Go.Proofs.Tryz
open Go.ChangeShapes Go.WideShapes Go.ChangeAt Go.RowKit
open Go.ChangeMaps (open_string shut_string)
set_option linter.all false
theorem own:ownKnob prog.godebug=none:=h
theorem laidOut:laidOutB prog=true:=h
theorem gEt:prog.globalNamed "errors.errorType"=some 1:=h
theorem gEn:prog.globalNamed "loop.example/kilnstone/impl.errNoPage"=some 7:=h
theorem gEnT:(prog.globals[7]?).map (·.type)=some 58:=h
theorem gEs:prog.globalNamed "strconv.ErrSyntax"=some 4:=h
theorem gEsT:(prog.globals[4]?).map (·.type)=some 58:=h
theorem gEr:prog.globalNamed "strconv.ErrRange"=some 5:=h
theorem gErT:(prog.globals[5]?).map (·.type)=some 58:=h
theorem gTt:(prog.globals[6]?).map (·.type)=some 312:=h
theorem gD:prog.globalNamed "math/bits.deBruijn64tab"=some 9:=h
theorem rt:(prog.cutTypes.find? (·.1 == "internal/reflectlite.rtype")).map (·.2)=some 318:=h
theorem oneRow:((List.range prog.types.size).filter λt=>prog.rowNamed t [101,114,114,111,114])=[58]:=h
theorem err_of{n:String}{g t:Nat}{W:Q9}{a:Array Ra}{f:Nat}{d:DataW Unit}{p:List MemPlace}{h:String}(e:prog.globalNamed n=some g)(hv:W.var? prog n=some a)(c:DataW.trod (λ_=>()) prog W 0 (λ_=>true) false f 58 a.toList=some (.iface h d,p)):∃b v,W.cell? (Ki g 0)=some (.iface b v):=by
 obtain⟨i⟩:=a;obtain⟨_,u,v,b,_,_⟩:=iface_of_trod underlying58 c;have:=World.var?_cell e hv 0;simp at b;subst b;exact⟨u,v,by simpa using this⟩
set_option maxRecDepth 100000 in
theorem of_laid{W:Q9}(a:laidMetH prog Rows.fnLinesRow.laid W):Vz W:=by
 have e:laidMet prog [("math/bits.deBruijn32tab",Rows.laid_math_bits_deBruijn32tab),("math/bits.deBruijn64tab",Rows.laid_math_bits_deBruijn64tab),("internal/strconv.uint64pow10",Rows.laid_internal_strconv_uint64pow10),("unicode/utf8.acceptRanges",Rows.laid_unicode_utf8_acceptRanges),("strconv.ErrRange",Rows.laid_strconv_ErrRange),("strconv.ErrSyntax",Rows.laid_strconv_ErrSyntax),("loop.example/kilnstone/impl.errNoPage",Rows.laid_loop_example_kilnstone_impl_errNoPage),("unicode/utf8.first",Rows.laid_unicode_utf8_first)] W/\handlesMet prog [("errors.errorType",Rows.laid_errors_errorType)] W:=a
 obtain⟨g,u,J,B,C,D,E,d⟩:=e.2 _ (DL.2 z);have F:g=[101,114,114,111,114]:=(BQ B).symm;subst F;obtain rfl:=BQ (rt.symm.E C)
 have f:J∈(List.range prog.types.size).filter λt=>prog.rowNamed t [101,114,114,111,114]:=List.mem_filter.2 ⟨FR.2 D,E⟩
 rw[oneRow]at f;obtain rfl:=DL.1 f;have G:typeHandle prog 58=Dr 10 58:=h
 rw[G]at d;obtain⟨ps,⟨_,_,_,_,_,_,_,_,_,_,⟨X,t1,K,R,p1,q1,m,Q,b,P,⟨g2,t2,L,S,I,q2,n,r,w,i,⟨_,_,_,_,_,_,_,_,_,_,⟨g4,t4,M,T,p4,q4,o,s,x,j,⟨g5,t5,N,U,p5,q5,p,t,y,k,⟨g6,t6,O,V,p6,q6,q,v,A,l,_,_⟩,_⟩,_⟩,_⟩,_⟩,_⟩,_⟩,_,_⟩:=e.1;obtain rfl:=BQ (gD.symm.E m);obtain rfl:=BQ (vG.symm.E n);obtain rfl:=BQ (gTt.symm.E r);obtain rfl:=BQ (gEr.symm.E o);obtain rfl:=BQ (gErT.symm.E s);obtain rfl:=BQ (gEs.symm.E p);obtain rfl:=BQ (gEsT.symm.E t);obtain rfl:=BQ (gEn.symm.E q);obtain rfl:=BQ (gEnT.symm.E v);refine⟨?_,err_of (t:=0) gEn A l,by simpa using World.var?_cell gEt d 0,err_of (t:=0) gEs y k,err_of (t:=0) gEr x j,?_⟩
 .rcases FV 9 W.heap.size with c|c
  .exact c
  exfalso
  have H:W.heap[9]?=none:=EF c;unfold World.var? at b;rw[gD]at b;simp[H]at b
 unfold Lib.TabIs
 rw[w,<-Lib.cells_of_tab (k:=.u64) (zs:=Lib.pow10Tab) underlying312 underlying249 h h (show DataW.trod _ _ _ _ _ _ _ _ _=some (Lib.tabData .u64 Lib.pow10Tab,I) from i)]
theorem walk(a:Q5)(n c:Nat)(w:Q9)(h:Bys w a n)(f:n<=c)(g:n<=maxLen)(b:laidMetH prog Rows.fnLinesRow.laid w):Calls prog 3 #[Y a n c] w λe i=>e=Q2 (Q1 true)/\Q3 w i:=by
 have hv:=of_laid b;unfold maxLen at g
 by_cases e:n<=1048576
 .exact Qk a n c w h f e hv
 have i:1048576<(n:Int):=d
 go_enter func3,ntmps3;go_wp2;go_ret;exact⟨z,D⟩
set_option maxRecDepth 100000 in
theorem contract(H:Type)(c:TypeId×Ra->H)(W:Q9)(f:Nat)(b:Array Ra)(k l:List (DataW H))(w:List MemPlace)
  (i:∀(j:Nat) t v,Tryz.f3.params[j]?=some t->b[j]?=some v->Value.okWide prog W .any f t v)
  (s:DataW.Whole c prog Tryz.f3.params.toList Rows.fnLinesSpec.vars false W b.toList k l w)(L:laidMetH prog Rows.fnLinesRow.laid W):Calls prog 3 b W λe a=>∃v,e=Q2 v/\Rows.fnLinesSpec.post c prog Tryz.f3 false true false false W b v a:=by
 have A:=s;obtain⟨p,q,j,y,rfl,aP,aQ⟩:=s;have o:DataW.TrodAll c prog W 0 (λ_=>true) true Tryz.f3.params.toList b.toList k p:=j
 have r:DataW.TrodVars c prog W (λ_=>true) ["loop.example/kilnstone/impl.errNoPage"] l q:=y
 rw[Tryz.params3]at o i;obtain⟨v,aS,d0,X,O,q0,T,rfl,rfl,n,P⟩:=trodAll_cons o;obtain⟨rfl,rfl,rfl⟩:=trodAll_nil P
 obtain rfl:b=#[v]:=by cases b;simp_all
 have u:=n;have E:∀x∈O,x.block<W.heap.size:=by obtain⟨m,N⟩:=u;exact DataW.trod_lt m _ _ _ N
 obtain⟨R,aR,F,rfl⟩:=okWide_slice underlying22 (i 0 22 v z z);obtain⟨S,M⟩:=n;obtain⟨Q,n0,c0,D,K,B,C⟩:=Hp underlying22 underlying5 h M;injection D with G I J;subst G I J;have x:=r;obtain⟨g,t,V,U,d,pp,rfl,_⟩:=trodVars_one r;clear j
 refine(walk _ _ _ W K B C L).J λe a ⟨he,bel⟩=>?_
 subst he
 exact⟨_,z,_,_,_,[],_,_,A,trodAll_mk1 (shut_bool underlying4 _),(trodAll_cons_mk (Below.trod laidOut h (AW h) u bel E) trodAll_mk0),Below.trodVars laidOut bel h x,bel.frame _,λa=>by cases a⟩
def dCells:DataW Unit->List Ra
 | .agg ds=>ds.flatMap fun
  | .lit (.int k z)=>[.int k z]
  | .agg es=>es.flatMap fun
   | .lit (.int k z)=>[.int k z]
   | _=>[]
  | _=>[]
 | _=>[]
def lay(cs:Array Ra):Obj->Obj
 | .cells _ t frozen=>.cells cs t frozen
 | o=>o
noncomputable def laidWorld (os:Os):Q9 :=let w0:=World.holding prog os ⟨#[.cells #[Ow ⟨#[110,111,32,112,97,103,101]⟩] 336,.cells #[Ow ⟨#[105,110,118,97,108,105,100,32,115,121,110,116,97,120]⟩] 336,.cells #[Ow ⟨#[118,97,108,117,101,32,111,117,116,32,111,102,32,114,97,110,103,101]⟩] 336],#[],[]⟩
 { w0 with heap:=(((((((((w0.heap).modify 1 (lay (#[.iface 318 (.agg #[Dr 10 58])]))).modify 2 (lay (dCells Rows.laid_unicode_utf8_first).toArray)).modify 3 (lay (dCells Rows.laid_unicode_utf8_acceptRanges).toArray)).modify 4 (lay (#[.iface 334 (Dr ((begin prog (λ_ _=>0) default).world.heap.size+1) 0)]))).modify 5 (lay (#[.iface 334 (Dr ((begin prog (λ_ _=>0) default).world.heap.size+2) 0)]))).modify 6 (lay (dCells Rows.laid_internal_strconv_uint64pow10).toArray)).modify 7 (lay (#[.iface 334 (Dr ((begin prog (λ_ _=>0) default).world.heap.size) 0)]))).modify 8 (lay (dCells Rows.laid_math_bits_deBruijn32tab).toArray)).modify 9 (lay (dCells Rows.laid_math_bits_deBruijn64tab).toArray) }
set_option maxRecDepth 100000 in
theorem laid_met(a:Os):laidMetH prog Rows.fnLinesRow.laid ((laidWorld a).forCall (λ_ _=>0) ⟨#[],#[Y none 0 0],[]⟩).memory :=laidMetH_of_parts (laidMet_of_run' 8 h h) h
set_option maxRecDepth 100000 in
theorem reads(b:Os){H:Type}(a:TypeId×Ra->H):∃x,DataW.whole a prog ((laidWorld b).forCall (λ_ _=>0) ⟨#[],#[Y none 0 0],[]⟩).memory Tryz.f3.params.toList Rows.fnLinesSpec.vars false #[Y none 0 0].toList 8=some x :=II.1 h
set_option maxRecDepth 100000 in
theorem lifted(d:Os)(e:d.Started)(H:Type)(a:TypeId×Ra->H)(F:Stop.Interp):ReturnsInHanded {} Tryz.checked d 3 .any ((OpenSpec.ofChange Rows.fnLinesSpec).preRow a prog Tryz.f3 Rows.fnLinesRow.domain false Rows.fnLinesRow.laid) (((OpenSpec.ofChange Rows.fnLinesSpec).at F).post a prog Tryz.f3 false true false false):=by
 obtain⟨x,m⟩:=reads d a
 refine returnsInHanded_of_row (C:=Tryz.checked) (s:=OpenSpec.ofChange Rows.fnLinesSpec) own e h func3
  (witness_row_at (enc:=a) (C:=Tryz.checked) false (laidWorld d) #[Y none 0 0] z h h h
   (OpenSpec.preRow_of_cond 8 m h (λk b=>by cases b) h (laid_met d))) ?_
 intro W c b i j f g l _ _ _ k _ _;exact contract H a W c b i j f g l k
set_option maxRecDepth 100000 in
theorem closed:joinedFacts prog 3 Tryz.f3 (OpenSpec.ofChange Rows.fnLinesSpec).bare Rows.fnLinesRow=true:=by
 unfold joinedFacts
 repeat refine Bool.and_eq_true_iff.2 ⟨?_,?_⟩
 all_goals as_aux_lemma=>kernel_rfl
set_option maxRecDepth 100000 in
theorem said:Rows.FnLinesSaid :=OpenClaim.holds_of_cond 3 Tryz.f3 (by as_aux_lemma=>rfl) (by as_aux_lemma=>rfl) (by as_aux_lemma=>rfl) (by as_aux_lemma=>rfl) (by as_aux_lemma=>rfl) (by as_aux_lemma=>rfl) (by as_aux_lemma=>rfl) ⟨(by as_aux_lemma=>rfl),(by as_aux_lemma=>rfl),(by as_aux_lemma=>rfl),(by as_aux_lemma=>rfl),(by as_aux_lemma=>rfl)⟩ (by as_aux_lemma=>rfl) (by as_aux_lemma=>rfl) (by as_aux_lemma=>rfl) (by as_aux_lemma=>rfl) (by as_aux_lemma=>rfl) (by as_aux_lemma=>kernel_rfl) func3 closed
  (AW (by as_aux_lemma=>kernel_rfl)) (by unfold Func.isWrapper;first|(rw[G (by as_aux_lemma=>decide +kernel)];as_aux_lemma=>kernel_rfl)|(rw[A (by as_aux_lemma=>decide +kernel)];exact⟨(by as_aux_lemma=>rfl),(by as_aux_lemma=>rfl)⟩))
  (λc b H a _ F=>by rw[OpenClaim.pre_eq_preRow];exact lifted c b H a F)
set_option maxRecDepth 100000 in
theorem plain(f:FuncId)(a:Func)(d:Tryz.pinned.checked.prog.funcNamed "loop.example/kilnstone/laws.FnLines"=some f)(c:Tryz.pinned.checked.prog.funcs[f]?=some a):true=Tryz.pinned.checked.prog.looks []/\∀(j:Nat) t,a.params[j]?=some t->Tryz.pinned.checked.prog.wantsStandIn t=false:=by
 obtain rfl:f=3:=BQ ((show prog.funcNamed "loop.example/kilnstone/laws.FnLines"=some 3 by kernel_rfl).symm.E d) |>.symm
 obtain rfl:a=Tryz.f3:=(BQ (func3.symm.E c)).symm;refine⟨h,λj t b=>?_⟩;rw[Tryz.params3]at b;have e:t=22:=by simpa using Array.mem_of_getElem? b
 subst e;exact(show prog.wantsStandIn 22=false by kernel_rfl)
theorem proved:Rows.FnLinesCardSaid :=Claim7.holds_tied_plain_at .later [] _ _ _ _ said (λ_ a=>by cases a) h (λ_ a=>by cases a) fnLines_row_tie z ⟨z,z⟩ h z plain h
#print axioms proved
end Go.Proofs.YteflhojcomcfaaaGreatDoor.fnLines
