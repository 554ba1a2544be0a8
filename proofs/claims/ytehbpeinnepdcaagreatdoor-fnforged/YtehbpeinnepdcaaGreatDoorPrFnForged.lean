import Derived.ShutString
import Derived.Below
import Derived.OpenVars
import Derived.LaidLaws
import Derived.LaidHandle
import Derived.Deep.DeepHandedRow
import Derived.Test.YtehbpeinnepdcaaGreatDoorCards
import Derived.Test.YtehbpeinnepdcaaGreatDoorTie
import Derived.Test.YtehbpeinnepdcaaGreatDoorPrG33
set_option maxHeartbeats 16000000
namespace Go.Proofs.YtehbpeinnepdcaaGreatDoor.fnForged
open Go.ChangeShapes Go.WideShapes Go.ChangeAt Go.RowKit
open Go.ChangeMaps (open_string shut_string)
set_option linter.unusedVariables false
set_option linter.unusedSimpArgs false
set_option maxRecDepth 8000
theorem own:ownKnob Tryz.prog.godebug=none:=by kernel_rfl
theorem laidOut:laidOutB Tryz.prog=true:=by kernel_rfl
theorem gEt:Tryz.prog.globalNamed "errors.errorType"=some 0:=by kernel_rfl
theorem gEn:Tryz.prog.globalNamed "loop.example/kilnstone/impl.errNoPage"=some 1:=by kernel_rfl
theorem gEnT:(Tryz.prog.globals[1]?).map (·.type)=some 65:=by kernel_rfl
theorem rt:(Tryz.prog.cutTypes.find? (·.1 == "internal/reflectlite.rtype")).map (·.2)=some 143:=by kernel_rfl
theorem oneRow:((List.range Tryz.prog.types.size).filter fun t=>Tryz.prog.rowNamed t [101,114,114,111,114])=[65]:=by kernel_rfl
theorem of_laid {W:World} (h:laidMetH Tryz.prog Rows.fnForgedRow.laid W):W.cell? ⟨0,0,none⟩=some (.iface 143 (.agg #[.pointer (some ⟨2,65,none⟩)]))/\(∃ ty v,W.cell? ⟨1,0,none⟩=some (.iface ty v))/\1<W.heap.size:=by
 have h':laidMet Tryz.prog [("loop.example/kilnstone/impl.errNoPage",Rows.laid_loop_example_kilnstone_impl_errNoPage)] W/\handlesMet Tryz.prog [("errors.errorType",Rows.laid_errors_errorType)] W:=h
 obtain ⟨aA,u,ty,e1,e2,e3,e4,e5⟩:=h'.2 _ (List.mem_singleton.2 rfl);have en:aA=[101,114,114,111,114]:=(Option.some.inj e1).symm;subst en;obtain rfl:=Option.some.inj (rt.symm.trans e2)
 have hm:ty∈(List.range Tryz.prog.types.size).filter fun t=>Tryz.prog.rowNamed t [101,114,114,111,114]:=List.mem_filter.2 ⟨List.mem_range.2 e3,e4⟩
 rw [oneRow] at hm;obtain rfl:=List.mem_singleton.1 hm;have hh:typeHandle Tryz.prog 65=.pointer (some ⟨2,65,none⟩):=by kernel_rfl
 rw [hh] at e5;obtain ⟨ps,⟨g0,t0,aD,f0,p0,q0,aF,aG,aH,aE,_,_⟩,_,_⟩:=h'.1;obtain rfl:=Option.some.inj (gEn.symm.trans aF);obtain rfl:=Option.some.inj (gEnT.symm.trans aG);obtain ⟨l0⟩:=aD;obtain ⟨_,u,v,aC,_,_⟩:=iface_of_trod Tryz.underlying65 aE
 have aB:W.cell? ⟨1,0,none⟩=some (.iface u v):=by
  have:=World.var?_cell gEn aH 0;simp at aC;subst aC;simpa using this
 refine ⟨by simpa using World.var?_cell gEt e5 0,⟨u,v,aB⟩,?_⟩;rcases Nat.lt_or_ge 1 W.heap.size with hl | hl
 ·exact hl
 ·exfalso
  have:W.heap[1]?=none:=Array.getElem?_eq_none hl;simp [World.cell?,this] at aB
theorem walk (a:Option Addr) (n c:Nat) (w:World) (h:Bys w a n) (hc:n<=c) (hm:n<=maxLen) (hL:laidMetH Tryz.prog Rows.fnForgedRow.laid w) :
  Calls Tryz.prog 3 #[.slice a n c] w fun e w'=>e=.returned (.bool true)/\Below w.heap.size w w':=by
 obtain ⟨g0,⟨ty,gv,g1⟩,gl⟩:=of_laid hL;unfold maxLen at hm
 by_cases hn:n<=1048576
 ·exact v73 a n c w h hc hn ty gv g1 g0 gl
 ·have aA:1048576<(n:Int):=by omega
  go_enter Tryz.func3,Tryz.ntmps3;go_wp2;go_ret;exact ⟨rfl,Below.refl _ _⟩
set_option maxRecDepth 100000 in
theorem contract (H:Type) (enc:TypeId×Value->H) (W:World) (base:Nat) (args:Array Value) (ds gs:List (DataW H)) (aA:List MemPlace)
  (aB:∀ (j:Nat) t v,Tryz.f3.params[j]?=some t->args[j]?=some v->Value.okWide Tryz.prog W .any base t v)
  (hW:DataW.Whole enc Tryz.prog Tryz.f3.params.toList Rows.fnForgedSpec.vars false W args.toList ds gs aA) (hL:laidMetH Tryz.prog Rows.fnForgedRow.laid W) :
  Calls Tryz.prog 3 args W fun e W'=>∃ v,e=.returned v/\Rows.fnForgedSpec.post enc Tryz.prog Tryz.f3 false true false false W args v W':=by
 have aI:=hW;obtain ⟨p,q,aD,aG,rfl,aP,aQ⟩:=hW;have hA:DataW.TrodAll enc Tryz.prog W 0 (fun _=>true) true Tryz.f3.params.toList args.toList ds p:=aD
 have hV:DataW.TrodVars enc Tryz.prog W (fun _=>true) ["loop.example/kilnstone/impl.errNoPage"] gs q:=aG
 rw [Tryz.params3] at hA aB;obtain ⟨v0,aS,d0,aO,p0,q0,aE,rfl,rfl,h0,r0⟩:=trodAll_cons hA;obtain ⟨rfl,rfl,rfl⟩:=trodAll_nil r0
 obtain rfl:args=#[v0]:=by cases args;simp_all
 have k0:=h0;have aM:∀ x∈p0,x.block<W.heap.size:=by obtain ⟨m,hm⟩:=k0;exact DataW.trod_lt m _ _ _ hm
 obtain ⟨a1,aR,cap,rfl⟩:=okWide_slice Tryz.underlying22 (aB 0 22 v0 rfl rfl);obtain ⟨aC,hf⟩:=h0;obtain ⟨a0,n0,c0,aL,hB,aJ,aK⟩:=ZXg Tryz.underlying22 Tryz.underlying5 (by kernel_rfl) hf;injection aL with e1 e2 e3;subst e1 e2 e3;have aH:=hV;obtain ⟨g,t,aN,aF,d,pp,rfl,_⟩:=trodVars_one hV;clear aD
 refine (walk _ _ _ W hB aJ aK hL).mono fun e W' ⟨he,bel⟩=>?_
 subst he
 exact ⟨_,rfl,_,_,_,[],_,_,aI,trodAll_mk1 (shut_bool Tryz.underlying4 _),(trodAll_cons_mk (Below.trod laidOut (by kernel_rfl) (of_decide_eq_true (by kernel_rfl)) k0 bel aM) trodAll_mk0),Below.trodVars laidOut bel (by kernel_rfl) aH,bel.frame _,fun h=>by cases h⟩
noncomputable def laidWorld (os:Os):World :=
 let w0:=World.holding Tryz.prog os ⟨#[.cells #[.string ⟨#[110,111,32,112,97,103,101]⟩] 224],#[],[]⟩
 { w0 with heap:=(w0.heap.modify 0 fun
   | .cells _ t frozen=>.cells #[.iface 143 (.agg #[.pointer (some ⟨2,65,none⟩)])] t frozen
   | o=>o).modify 1 fun
   | .cells _ t frozen=>.cells #[.iface 201 (.pointer (some ⟨(begin Tryz.prog (fun _ _=>0) default).world.heap.size,0,none⟩))] t frozen
   | o=>o }
set_option maxRecDepth 100000 in
theorem laid_met (os:Os):laidMetH Tryz.prog Rows.fnForgedRow.laid ((laidWorld os).forCall (fun _ _=>0) ⟨#[],#[.slice none 0 0],[]⟩).memory :=
 laidMetH_of_parts (laidMet_of_run' 8 (by kernel_rfl) (by kernel_rfl)) (by kernel_rfl)
set_option maxRecDepth 100000 in
theorem reads (os:Os) {H:Type} (enc:TypeId×Value->H):∃ x,DataW.whole enc Tryz.prog ((laidWorld os).forCall (fun _ _=>0) ⟨#[],#[.slice none 0 0],[]⟩).memory Tryz.f3.params.toList Rows.fnForgedSpec.vars false #[Value.slice none 0 0].toList 8=some x :=
 Option.isSome_iff_exists.1 (by kernel_rfl)
set_option maxRecDepth 100000 in
theorem lifted (os:Os) (aA:os.Started) (H:Type) (enc:TypeId×Value->H) (F:Stop.Interp) :
  ReturnsInHanded {} Tryz.checked os 3 .any ((OpenSpec.ofChange Rows.fnForgedSpec).preRow enc Tryz.prog Tryz.f3 Rows.fnForgedRow.domain false Rows.fnForgedRow.laid) (((OpenSpec.ofChange Rows.fnForgedSpec).at F).post enc Tryz.prog Tryz.f3 false true false false):=by
 obtain ⟨x,hx⟩:=reads os enc
 refine returnsInHanded_of_row (C:=Tryz.checked) (s:=OpenSpec.ofChange Rows.fnForgedSpec) own aA (by kernel_rfl) Tryz.func3
  (witness_row_at (enc:=enc) (C:=Tryz.checked) false (laidWorld os) #[.slice none 0 0] rfl (by kernel_rfl) (by kernel_rfl) (by kernel_rfl)
   (OpenSpec.preRow_of_cond 8 hx (by kernel_rfl) (fun k hk=>by cases hk) (by kernel_rfl) (laid_met os))) ?_
 intro W base args ds gs aB aC hW _ _ _ hL _ _;exact contract H enc W base args ds gs aB aC hW hL
set_option maxRecDepth 100000 in
theorem said:Rows.FnForgedSaid :=
 OpenClaim.holds_of_cond 3 Tryz.f3 rfl rfl rfl rfl rfl rfl rfl ⟨rfl,rfl,rfl,rfl,rfl⟩ rfl rfl rfl rfl rfl (by kernel_rfl) Tryz.func3 (by kernel_rfl)
  (of_decide_eq_true (by kernel_rfl)) (by unfold Func.isWrapper;first | (rw [if_pos (by decide +kernel)];kernel_rfl) | (rw [if_neg (by decide +kernel)];exact ⟨rfl,rfl⟩))
  (fun os aA H enc _ F=>by rw [OpenClaim.pre_eq_preRow];exact lifted os aA H enc F)
set_option maxRecDepth 100000 in
theorem plain (f:FuncId) (fn:Func) (hf:Tryz.pinned.checked.prog.funcNamed "loop.example/kilnstone/laws.FnForged"=some f) (aA:Tryz.pinned.checked.prog.funcs[f]?=some fn) :
  true=Tryz.pinned.checked.prog.looks []/\∀ (j:Nat) t,fn.params[j]?=some t->Tryz.pinned.checked.prog.wantsStandIn t=false:=by
 obtain rfl:f=3:=Option.some.inj ((show Tryz.prog.funcNamed "loop.example/kilnstone/laws.FnForged"=some 3 by kernel_rfl).symm.trans hf) |>.symm
 obtain rfl:fn=Tryz.f3:=(Option.some.inj (Tryz.func3.symm.trans aA)).symm;refine ⟨by kernel_rfl,fun j t ht=>?_⟩;rw [Tryz.params3] at ht;have hm:t=22:=by simpa using Array.mem_of_getElem? ht
 subst hm;exact (show Tryz.prog.wantsStandIn 22=false by kernel_rfl)
theorem proved:Rows.FnForgedCardSaid :=
 Claim7.holds_tied_plain_at .later [] _ _ _ _ said (fun _ h=>by cases h) (by kernel_rfl) (fun _ h=>by cases h) fnForged_row_tie rfl ⟨rfl,rfl⟩ (by kernel_rfl) rfl plain (by kernel_rfl)
#print axioms proved
end Go.Proofs.YtehbpeinnepdcaaGreatDoor.fnForged
