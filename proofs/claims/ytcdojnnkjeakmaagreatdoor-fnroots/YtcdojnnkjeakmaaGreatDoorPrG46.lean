import Derived.Test.YtcdojnnkjeakmaaGreatDoorPrG45
import Derived.Deep.AppendSrc
import Derived.Laws.IdiomCopy
import Derived.Great.BuildSlice
set_option maxHeartbeats 16000000
set_option maxRecDepth 8000
set_option linter.unusedVariables false
set_option linter.unusedSimpArgs false
namespace Go.Proofs.YtcdojnnkjeakmaaGreatDoor
open Go.RowKit
def x4R:Value:=.agg (Array.replicate 64 (.int .u8 0))
theorem yqx:(Tryz.prog.info? 86).map (fun i=>(i.zero,i.size,i.bytes))=some (some x4R,64,64):=by kernel_rfl
theorem jDu (n:Nat):(madeCells x4R.cells (n*64)).toList=List.replicate (n*64) (.int .u8 0):=by
 unfold madeCells;rw [Array.toList_map,Array.toList_range,List.eq_replicate_iff];refine ⟨by simp,fun b hb=>?_⟩;obtain ⟨i,_,rfl⟩:=List.mem_map.1 hb;have e1:x4R.cells=Array.replicate 64 (.int .u8 0):=rfl;have e2:i % (Array.replicate 64 (Value.int .u8 0)).size<64:=by rw [Array.size_replicate];omega
 rw [e1];rw [getElem!_pos _ _ (by rw [Array.size_replicate] at e2 ⊢;exact e2)];simp
theorem Jvj {w:World} {g:Nat} {n:Nat} (h:Row w g (List.replicate (n*64) (.int .u8 0))):Plt w (some ⟨g,0,none⟩) (List.replicate n (List.replicate 64 0)):=by
 refine .inr ⟨g,0,rfl,h.lt,fun i hi j v hv=>?_⟩;rw [List.length_replicate] at hi;have hg:(List.replicate n (List.replicate 64 (0:Int))).getD i []=List.replicate 64 0:=by rw [List.getD_eq_getElem?_getD,List.getElem?_replicate,if_pos hi];rfl
 rw [hg,List.map_replicate,List.getElem?_replicate] at hv
 by_cases hj:j<64
 ·rw [if_pos hj] at hv
  cases hv
  rw [Nat.zero_add];exact h.cell _ _ (by rw [List.getElem?_replicate,if_pos (by omega)])
 ·rw [if_neg hj] at hv;cases hv
structure Cx (w:World) (B:Nat) (v0 v1:Value):Prop where
 lt:B<w.heap.size
 c0:w.cell? ⟨B,0,none⟩=some v0
 c1:w.cell? ⟨B,1,none⟩=some v1
theorem Cx.below {w w':World} {B:Nat} {v0 v1:Value} (h:Cx w B v0 v1) (hb:Below w.heap.size w w'):Cx w' B v0 v1 :=
 ⟨Nat.lt_of_lt_of_le h.lt hb.size,(hb.cell (p:=⟨_,0,none⟩) h.lt).trans h.c0,(hb.cell (p:=⟨_,1,none⟩) h.lt).trans h.c1⟩
theorem Cx.grown {w w':World} {B:Nat} {v0 v1:Value} {r:Option Nat} (h:Cx w B v0 v1) (hg:w.grownBy w' r) (hn:some B≠r):Cx w' B v0 v1 :=
 ⟨Nat.lt_of_lt_of_le h.lt hg.size,(World.cell?_of_block (a:=⟨B,0,none⟩) (hg.block B h.lt hn)).trans h.c0,(World.cell?_of_block (a:=⟨B,1,none⟩) (hg.block B h.lt hn)).trans h.c1⟩
theorem Cx.drew {w:World} {B:Nat} {v0 v1:Value} (h:Cx w B v0 v1):Cx w.drew B v0 v1:=⟨h.lt,h.c0,h.c1⟩
theorem Cx.new (w:World) (v0 v1:Value) (t:TypeId):Cx (w.alloc (.cells #[v0,v1] t)) w.heap.size v0 v1 :=
 ⟨by simp,by rw [World.cell?_alloc_at _ _ _ _ rfl];rfl,by rw [World.cell?_alloc_at _ _ _ _ rfl];rfl⟩
theorem zE5 (w:World) (o:Obj):Below w.heap.size w (w.alloc o):=(Below.refl _ _).alloc (Nat.le_refl _) _
theorem Below.then {B:Nat} {a b c:World} (h:Below B a b) (hB:B<=a.heap.size) (k:Below b.heap.size b c):Below B a c:=h.trans (k.mono (Nat.le_trans hB h.size))
theorem kR4 (w:World) (A:Array Value) (t:TypeId) (g:Nat) (hg:g=w.heap.size):Row (w.alloc (.cells A t)) g A.toList:=by subst hg;exact xER w A t
theorem yOe {P:Program} {aB:Array Oper} {aA:List Oper} {op:Oper} {a:Act} {w:World} {Q:Exit->Act->World->Prop} (d x:Operand) (ts:Array TypeId) (aC:op.op=.call { callee:=.builtin .copy,args:=#[d,x],argTypes:=ts }) (h:wpList P aB Q (op::aA) a w):wpList P aB Q (op::aA) a w:=h
theorem Qok {P:Program} {aE:Array Oper} {aC:List Oper} {o:Oper} {a:Act} {w:World} {Q:Exit->Act->World->Prop} (aF:o.guard=none) (d x:Operand) (dT sT:TypeId)
  (aG:o.op=.call { callee:=.builtin .copy,args:=#[d,x],argTypes:=#[dT,sT] }) (aB:TypeId) (hu:P.underlying dT=some (.slice aB)) (hz:∀ w,(Go.sizeOf aB).run P w=.ok 1 w)
  (g n cap:Nat) (hd:a.eval d=.slice (some ⟨g,0,none⟩) n cap) (t:ByteArray) (hx:a.eval x=.string t) (hn:t.size=n) (cs:List Value) (aA:Row w g cs) (aH:cs.length=n)
  (h:∀ wx,Row wx g ((zFD t).map (Value.int .u8))->w.grownBy wx (some g)->wx.heap.size=w.heap.size->wpList P aE Q aC (a.put o.dst (goInt t.size)) wx):wpList P aE Q (o::aC) a w:=by
 have hc:∀ j,j<t.size->(w.cell? ⟨g,0+j,none⟩).isSome=true:=fun j hj=>by
  rw [Nat.zero_add,aA.cell j _ (List.getElem?_eq_getElem (by omega))];rfl
 have hf:∀ j,j<t.size->w.frozen? ⟨g,0+j,none⟩=false:=fun j hj=>by rw [Nat.zero_add];exact aA.froz j (by omega)
 have aD:=run_copy_string (P:=P) w dT sT o.type aB g 0 n cap t hu hz (by omega) hc hf;have hW:=qDt w g 0 t hc
 refine wpList_plain aF fun K hK=>?_
 unfold Oper.wp;simp [execOp,aG,resolve,invoke,builtin,hd,hx,aD,Result.andThen];refine hK _ _ (h _ ⟨by rw [hW.size];exact aA.lt,fun i v hv=>?_,fun i hi=>?_⟩ ⟨hW.os,hW.tape,hW.output,Nat.le_of_eq hW.size.symm,fun k _ hk=>hW.others k (fun e=>hk (by rw [e]))⟩ hW.size)
 ·obtain ⟨hj,e⟩:=List.getElem?_eq_some_iff.1 hv
  simp at hj;have:=hW.inside i (by simpa [vgz] using hj);rw [Nat.zero_add] at this;rw [this];simp at e;subst e;simp [List.getD,List.getElem?_eq_getElem hj]
 ·rw [hW.frozen];exact aA.froz i (by simp [vgz] at hi;omega)
theorem Row.range {w:World} {g:Nat} {cs:List Value} (h:Row w g cs):w.rangeAt g 0 cs:=fun j v hv=>by rw [Nat.zero_add];exact h.cell j v hv
theorem Row.there {w:World} {g n:Nat} {cs:List Value} (h:Row w g cs) (hn:n=cs.length):w.there g 0 n:=fun j hj=>by
 rw [Nat.zero_add,h.cell j _ (List.getElem?_eq_getElem (by omega))];exact ⟨rfl,h.froz j (by omega)⟩
def Zsw:Array Value:=Array.replicate 64 (.int .u8 0)
set_option maxRecDepth 4000 in
theorem jsf (t:ByteArray) (w:World) (ht:t.size=64) :
  Calls Tryz.prog 48 #[.string t] w fun e w'=>e=.returned (.agg ((zFD t).map (Value.int .u8)).toArray)/\Below w.heap.size w w':=by
 have aD:(zFD t).length=64:=by rw [vgz,ht]
 have aA:Hid ((Tryz.prog.info? 86).map (·.size)=some ((zFD t).map (Value.int .u8)).length):=by show _=_;rw [List.length_map,aD];kernel_rfl
 have aE:((zFD t).map (Value.int .u8)).toArray.size=64:=by simp [aD]
 have HT:=hid ht;clear ht;go_enter Tryz.func48,Tryz.ntmps48
 go_wp2_with (first | (with_reducible refine yOe _ _ _ rfl ?_;refine Qok rfl _ _ _ _ rfl 5 Tryz.underlying22 (fun _=>by kernel_rfl) (w.heap.size+1) 64 64 rfl t rfl HT.out _ (by exact kR4 _ _ _ _ (by simp)) (by kernel_rfl) ?_;intro wx aC aB aF;have hR:=(((xER w _ _).alloc _).grown aB (by simp));have HB:=hid ((((Below.refl _ _).alloc (Nat.le_refl _) _).alloc (by simp) _).trans (jJX aB (by simp;omega) (fun g hg=>by cases hg;omega)));clear aB aF) | (with_reducible refine kVP 86 _ rfl ?_;refine wpList_load_mid rfl 86 _ rfl (w.heap.size+1) 0 rfl ((zFD t).map (Value.int .u8)) _ aC.range Tryz.underlying86 rfl aA.out ?_) | (with_reducible refine JWC 86 _ _ rfl ?_;refine wpList_store_mid rfl 86 _ _ rfl w.heap.size 0 ((zFD t).map (Value.int .u8)).toArray rfl rfl (by rw [aE];exact hR.there (by kernel_rfl)) (by rw [aE];kernel_rfl) (all_oneCell_toArray (xgE (zFD t))) ?_))
 refine bodyPost_ret (v:=.agg ((zFD t).map (Value.int .u8)).toArray) (zOi (p:=2) Tryz.results48 _ _ w.heap.size 0 rfl ((zFD t).map (Value.int .u8)) _ (World.rangeAt_setCells_same _ _ _ _ (by rw [List.length_map,aD];exact hR.there (by kernel_rfl))) Tryz.underlying86 rfl aA.out) rfl ⟨rfl,?_⟩;exact Go.below_setCells (Nat.le_refl _) _ _ _ HB.out
theorem nsc (n:Nat) (h:0<n):Builtin.nextslicecap n 0=n:=by
 unfold Builtin.nextslicecap;simp;omega
theorem qYc {P:Program} {aH:Array Oper} {o:Oper} {a:Act} {w:World} {K:Act->World->Prop} {Q:Exit->Act->World->Prop} {E:Prop}
  (aI:o.guard=none) (s x:Operand) (t:TypeId) (aG:o.op=.call { callee:=.builtin .append,args:=#[s,x],argTypes:=#[t,t] })
  (e:TypeId) (i:TypeInfo) (z:Value) (size aA:Nat) (ht:P.underlying t=some (.slice e)) (hi:P.info? e=some i) (hz:i.zero=some z) (aD:i.size=size) (aJ:i.bytes=aA)
  (b:Nat) (hs:a.eval s=.slice (some ⟨b,0,none⟩) 0 0) (v:Value) (hx:a.eval x=v) (n:Nat) (news:List Value) (aC:Src P size t v n news w) (hl:news.length=n*size) (hn:n<=1048576) (aK:n*aA<=281474976710656)
  (h:∀ g cap wx,(n=0\/(g=w.heap.size/\Row wx g news))->Below w.heap.size w wx->K (a.put o.dst (.slice (some ⟨g,0,none⟩) n cap)) wx) :
  if Region.wanted o (yielded aH a.tmps)=true then Oper.wp P o a w K Q else E:=by
 have hw:Region.wanted o (yielded aH a.tmps)=true:=by simp [Region.wanted,aI]
 rw [if_pos hw];subst aD aJ
 by_cases h0:n=0
 ·subst h0
  have aF:news=[]:=List.eq_nil_of_length_eq_zero (by omega);subst aF;have aB:=run_append_room_src (P:=P) w t t o.type e i ht hi b 0 0 0 v 0 [] aC (by omega) (by simp) (by simp);unfold Oper.wp;simp [execOp,aG,resolve,invoke,builtin,hs,hx,aB,Result.andThen];exact h b 0 _ (.inl rfl) (Below.refl _ _)
 ·have aE:(Builtin.firstCells i.size 0 (.slice (some ⟨b,0,none⟩) 0 0)).run P w.drew=.ok ([]:List Value).toArray w.drew:=run_firstCells_some w.drew i.size 0 _ 0 0 [] (by simp) (by simp)
  have aB:=run_append_grow_src (P:=P) w t t o.type e i z ht hi hz (some ⟨b,0,none⟩) 0 0 [] aE v n news aC (by omega) (by omega) (by rw [Nat.zero_add,nsc n (by omega)];exact aK);unfold Oper.wp;simp [execOp,aG,resolve,invoke,builtin,hs,hx,aB,Result.andThen];refine h w.heap.size _ _ (.inr ⟨rfl,?_⟩) ((Below.refl _ _).drew.alloc (Nat.le_refl _) _);have hr:=xER w.drew ((([]:List Value)++news).toArray++Builtin.zeroCells z.cells (grownCap w (0+n) 0 e-(0+n))) e;refine ⟨by simp,fun j u hu=>?_,fun j hj=>?_⟩
  ·have:=hr.cell j u (by
    obtain ⟨hj,_⟩:=List.getElem?_eq_some_iff.1 hu
    simp [List.getElem?_append_left hj,hu])
   simpa using this
  ·have:=hr.froz j (by simp;omega)
   simpa using this
theorem QKc {P:Program} {w:World} {a:Option Addr} {ss:List ByteArray} (h:Strs w a ss) (t e:TypeId) (ht:P.underlying t=some (.slice e)) (c:Nat):Src P 1 t (.slice a ss.length c) ss.length (ss.map Value.string) w:=by
 rcases h with h | ⟨b,o,rfl,hb,hc⟩
 ·subst h
  cases a with
  | none=>exact Src.ofNil w ht c
  | some x=>exact Src.ofSlice w ht x 0 c [] (by simp) (by simp) (by simp)
 ·refine Src.ofSlice w ht ⟨b,o,none⟩ ss.length c _ (by simp) (fun j u hu=>?_) (fun u hu=>by obtain ⟨s,_,rfl⟩:=List.mem_map.1 hu;rfl)
  obtain ⟨hj,e⟩:=List.getElem?_eq_some_iff.1 hu;simp only [List.length_map] at hj;have ha:(⟨b,o,none⟩:Addr).add j=⟨b,o+j,none⟩:=by unfold Addr.add;split<;>simp_all
  rw [ha,hc j hj,<-e];simp [List.getD,hj]
theorem Qom {P:Program} {w:World} {a:Option Addr} {ws:List (Int×ByteArray)} (h:Wrs w a ws) (t e:TypeId) (ht:P.underlying t=some (.slice e)) (c:Nat):Src P 2 t (.slice a ws.length c) ws.length (yaV ws) w:=by
 rcases h with h | ⟨b,o,rfl,hb,hc⟩
 ·subst h
  cases a with
  | none=>exact Src.ofNil w ht c
  | some x=>exact Src.ofSlice w ht x 0 c [] (by simp) (by simp) (by simp)
 ·refine Src.ofSlice w ht ⟨b,o,none⟩ ws.length c _ (zPu ws) (fun j u hu=>?_) (fun u hu=>?_)
  ·obtain ⟨hj,e⟩:=List.getElem?_eq_some_iff.1 hu
   rw [zPu] at hj;have ha:(⟨b,o,none⟩:Addr).add j=⟨b,o+j,none⟩:=by unfold Addr.add;split<;>simp_all
   obtain ⟨q,hq⟩:∃ q,j=q*2\/j=q*2+1:=⟨j / 2,by omega⟩;have aA:q<ws.length:=by omega
   have hw:=Qwf ws q aA;rcases hq with rfl | rfl
   ·rw [ha,(hc q aA).1,<-hu,hw.1]
   ·rw [ha,<-Nat.add_assoc,(hc q aA).2,<-hu,hw.2]
  ·unfold yaV at hu
   obtain ⟨x,_,hx⟩:=List.mem_flatMap.1 hu;simp at hx;rcases hx with rfl | rfl<;>rfl
def JTS (w:World) (p:Addr):Value:=(w.cell? p).getD (.int .i64 0)
theorem yRA {w:World} {p:Addr} (h:(w.cell? p).isSome=true):w.cell? p=some (JTS w p):=by
 unfold JTS
 cases e:w.cell? p with
 | none=>rw [e] at h;exact absurd h (by simp)
 | some v=>rfl
theorem jXx {w:World} {p:Addr} {v:Value} (h:w.cell? p=some v):(w.cell? p).isSome=true:=by rw [h];rfl
def KeepC (wy:World) (X:Nat) (v0 v1:Value) (w:World):Prop :=
 w.cell? ⟨X,0,none⟩=some v0/\w.cell? ⟨X,1,none⟩=some v1/\w.cell? ⟨X+1,0,none⟩=some (JTS w ⟨X+1,0,none⟩)/\w.cell? ⟨X+1,1,none⟩=some (JTS w ⟨X+1,1,none⟩)/\w.frozen? ⟨X+1,0,none⟩=false/\w.frozen? ⟨X+1,1,none⟩=false/\wy.grownBy w (some (X+1))/\X+1<w.heap.size
theorem KeepC.below {wy w w':World} {X:Nat} {v0 v1:Value} (h:KeepC wy X v0 v1 w) (hb:Below w.heap.size w w'):KeepC wy X v0 v1 w':=by
 obtain ⟨h1,h2,h3,h4,h5,h6,h7,h8⟩:=h;refine ⟨(hb.cell (p:=⟨X,0,none⟩) (by show X<_;omega)).trans h1,(hb.cell (p:=⟨X,1,none⟩) (by show X<_;omega)).trans h2,?_,?_,?_,?_,⟨hb.os.trans h7.os,hb.tape.trans h7.tape,hb.output.trans h7.output,Nat.le_trans h7.size hb.size,fun i hi aA=>(hb.block i (Nat.lt_of_lt_of_le hi h7.size)).trans (h7.block i hi aA)⟩,Nat.lt_of_lt_of_le h8 hb.size⟩
 ·exact yRA (by rw [hb.cell (p:=⟨X+1,0,none⟩) h8];exact jXx h3)
 ·exact yRA (by rw [hb.cell (p:=⟨X+1,1,none⟩) h8];exact jXx h4)
 ·rw [hb.frozen (p:=⟨X+1,0,none⟩) h8];exact h5
 ·rw [hb.frozen (p:=⟨X+1,1,none⟩) h8];exact h6
theorem KeepC.set {wy w:World} {X:Nat} {v0 v1:Value} (h:KeepC wy X v0 v1 w) (j:Nat) (v:Value):KeepC wy X v0 v1 (w.setCell ⟨X+1,j,none⟩ v):=by
 obtain ⟨h1,h2,h3,h4,h5,h6,h7,h8⟩:=h
 have hs:∀ p,(w.cell? p).isSome=true->((w.setCell ⟨X+1,j,none⟩ v).cell? p).isSome=true:=fun p hp=>by
  by_cases e:(⟨X+1,j,none⟩:Addr)=p
  ·subst e
   obtain ⟨u,hu⟩:=Option.isSome_iff_exists.1 hp;rw [World.cell?_setCell_same (w:=w) (h:=hu)];rfl
  ·rw [World.cell?_setCell_other (w:=w) (h:=e)];exact hp
 refine ⟨(World.cell?_setCell_far _ _ _ _ (by show X+1≠X;omega)).trans h1,(World.cell?_setCell_far _ _ _ _ (by show X+1≠X;omega)).trans h2,yRA (hs _ (jXx h3)),yRA (hs _ (jXx h4)),by rw [World.frozen?_setCell];exact h5,by rw [World.frozen?_setCell];exact h6,⟨(zyN (X+1) [v] j w).1.trans h7.os,(zyN (X+1) [v] j w).2.1.trans h7.tape,(zyN (X+1) [v] j w).2.2.trans h7.output,by simpa using h7.size,fun i hi aA=>?_⟩,by simpa using h8⟩;rw [<-h7.block i hi aA];exact zWW (X+1) [v] j w i (fun e=>aA (by rw [e]))
theorem k1z (B R:Nat) (aA aB:World) (ss:List ByteArray) (ws:List (Int×ByteArray)) (g1 g2 n1 n2:Nat) (v0 v1:Value) (aH:B<=n1) (hR:R<n1) (aC:ss.length=0\/g1=n1/\Row aA g1 (ss.map Value.string)) (aG:Below aA.heap.size aA aB) (aI:n1<=aA.heap.size) (aJ:aA.heap.size<=n2) (aE:ws.length=0\/g2=n2/\Row aB g2 (yaV ws)) :
  OwnD ((aB.setCell ⟨R,0,none⟩ v0).setCell ⟨R,1,none⟩ v1) (some ⟨g1,0,none⟩) ss (some ⟨g2,0,none⟩) ws/\(∀ k,blk (some ⟨g1,0,none⟩) ss.length=some k->B<=k)/\(∀ k,blk (some ⟨g2,0,none⟩) ws.length=some k->B<=k):=by
 have aD:∀ k,blk (some ⟨g1,0,none⟩) ss.length=some k->k=n1/\k<aA.heap.size:=fun k hk=>by
  unfold blk at hk
  split at hk
  ·exact absurd hk (by simp)
  ·rename_i h0
   rcases aC with e | ⟨rfl,hr⟩
   ·exact absurd e h0
   ·simp at hk
    exact ⟨hk.symm,by rw [<-hk];exact hr.lt⟩
 have aF:∀ k,blk (some ⟨g2,0,none⟩) ws.length=some k->k=n2:=fun k hk=>by
  unfold blk at hk
  split at hk
  ·exact absurd hk (by simp)
  ·rename_i h0
   rcases aE with e | ⟨rfl,hr⟩
   ·exact absurd e h0
   ·simp at hk
    exact hk.symm
 refine ⟨⟨?_,?_,?_⟩,fun k hk=>by have:=aD k hk;omega,fun k hk=>by have:=aF k hk;omega⟩
 ·rcases aC with e | ⟨rfl,hr⟩
  ·exact .inl (by rw [List.eq_nil_of_length_eq_zero e];rfl)
  ·exact .inr ⟨g1,rfl,((hr.below aG).other ⟨R,0,none⟩ (by show R≠_;omega) _).other ⟨R,1,none⟩ (by show R≠_;omega) _⟩
 ·rcases aE with e | ⟨rfl,hr⟩
  ·exact .inl (by rw [List.eq_nil_of_length_eq_zero e];rfl)
  ·exact .inr ⟨g2,rfl,(hr.other ⟨R,0,none⟩ (by show R≠_;omega) _).other ⟨R,1,none⟩ (by show R≠_;omega) _⟩
 ·cases e1:blk (some ⟨g1,0,none⟩) ss.length with
  | none=>exact .inl rfl
  | some k1 =>
   cases e2:blk (some ⟨g2,0,none⟩) ws.length with
   | none=>exact .inr (.inl rfl)
   | some k2 =>
    have h1:=aD k1 e1;have h2:=aF k2 e2;exact .inr (.inr (fun e=>by injection e with e;omega))
set_option maxRecDepth 4000 in
theorem k4z (a:Option Addr) (ss:List ByteArray) (c:Nat) (a':Option Addr) (ws:List (Int×ByteArray)) (c':Nat) (w:World) (h:Strs w a ss) (h':Wrs w a' ws) (hl:ss.length<=200) (bC:ws.length<=300) :
  Calls Tryz.prog 32 #[Zoj a ss.length c a' ws.length c'] w fun e w'=>∃ g c1 g' aW,e=.returned (Zoj (some ⟨g,0,none⟩) ss.length c1 (some ⟨g',0,none⟩) ws.length aW)/\OwnD w' (some ⟨g,0,none⟩) ss (some ⟨g',0,none⟩) ws/\(∀ k,blk (some ⟨g,0,none⟩) ss.length=some k->w.heap.size<=k)/\(∀ k,blk (some ⟨g',0,none⟩) ws.length=some k->w.heap.size<=k)/\Below w.heap.size w w':=by
 obtain ⟨i0,aB,aG,aE,aD⟩:=q00 kDp;have HI:=hid (And.intro aB (And.intro aG (And.intro aE aD)));clear aB aG aE aD;obtain ⟨i1,aB,aG,aE,aD⟩:=q00 yGS;have aI:=hid (And.intro aB (And.intro aG (And.intro aE aD)));clear aB aG aE aD
 have aX:∀ o1 o2,Below w.heap.size w ((w.alloc o1).alloc o2):=fun o1 o2=>((Below.refl _ _).alloc (Nat.le_refl _) _).alloc (by simp) _
 go_enter Tryz.func32,Tryz.ntmps32;go_wp2_with fail;have aP:=(Cx.new w (.slice a ss.length c) (.slice a' ws.length c') 31).below (zE5 _ (.cells #[.slice none 0 0,.slice none 0 0] 31));have rR:=kR4 (w.alloc (.cells #[.slice a ss.length c,.slice a' ws.length c'] 31)) #[.slice none 0 0,.slice none 0 0] 31 (w.heap.size+1) (by simp);have hB:=aX (.cells #[.slice a ss.length c,.slice a' ws.length c'] 31) (.cells #[.slice none 0 0,.slice none 0 0] 31);have aL:((w.alloc (.cells #[.slice a ss.length c,.slice a' ws.length c'] 31)).alloc (.cells #[.slice none 0 0,.slice none 0 0] 31)).heap.size=w.heap.size+1+1:=by simp
 obtain ⟨wy,aS⟩:∃ wy,wy=(w.alloc (.cells #[.slice a ss.length c,.slice a' ws.length c'] 31)).alloc (.cells #[.slice none 0 0,.slice none 0 0] 31):=⟨_,rfl⟩;rw [<-aS] at aP rR hB aL ⊢;clear aS;have HX:=hid aP;have HR:=hid rR;have HB:=hid hB;have aC:=hid aL;clear aP rR hB aL;have aV:KeepC wy w.heap.size (.slice a ss.length c) (.slice a' ws.length c') wy:=⟨HX.out.c0,HX.out.c1,yRA (jXx (HR.out.cell 0 _ rfl)),yRA (jXx (HR.out.cell 1 _ rfl)),HR.out.froz 0 (by simp),HR.out.froz 1 (by simp),⟨rfl,rfl,rfl,Nat.le_refl _,fun _ _ _=>rfl⟩,by rw [aC.out];omega⟩;have HK:=hid aV;clear aV
 have aU:∀ wz,KeepC wy w.heap.size (.slice a ss.length c) (.slice a' ws.length c') wz->Below w.heap.size w wz:=fun wz hz=>HB.out.trans (jJX hz.2.2.2.2.2.2.1 (by rw [aC.out];omega) (fun g hg=>by injection hg with hg;omega))
 have aQ:=hid aU;clear aU
 go_region_held3 (fun w'=>w'.cell? ⟨w.heap.size,0,none⟩=some (.slice a ss.length c)/\w'.cell? ⟨w.heap.size,1,none⟩=some (.slice a' ws.length c')/\w'.cell? ⟨w.heap.size+1,0,none⟩=some (JTS w' ⟨w.heap.size+1,0,none⟩)/\w'.cell? ⟨w.heap.size+1,1,none⟩=some (JTS w' ⟨w.heap.size+1,1,none⟩)/\w'.frozen? ⟨w.heap.size+1,0,none⟩=false/\w'.frozen? ⟨w.heap.size+1,1,none⟩=false/\wy.grownBy w' (some (w.heap.size+1))/\w.heap.size+1<w'.heap.size)
  (first | assumption | exact HK.out.below ((Below.refl _ _).drew) | exact KeepC.below (by assumption) (by assumption) | exact KeepC.below (by assumption) (zE5 _ _) | exact KeepC.set (KeepC.set (by assumption) 0 _) 1 _)
  (first | (refine qYc (by rfl) _ _ 28 (by rfl) 9 _ _ 1 16 Tryz.underlying28 HI.out.1 HI.out.2.1 HI.out.2.2.1 HI.out.2.2.2 _ (by rfl) _ (by rfl) ss.length _ (by exact QKc (h.below (aQ.out _ (by assumption))) _ _ (by rfl) _) (by simp) (by omega) (by omega) ?_;intro g1 c1 aO aN aM) | (refine qYc (by rfl) _ _ 29 (by rfl) 97 _ _ 2 24 Tryz.underlying29 aI.out.1 aI.out.2.1 aI.out.2.2.1 aI.out.2.2.2 _ (by rfl) _ (by rfl) ws.length _ (by exact Qom (h'.below (aQ.out _ (by assumption))) _ _ (by rfl) _) (by exact zPu ws) (by omega) (by omega) ?_;intro g2 c2 aJ aK aH;have aR:KeepC wy w.heap.size (.slice a ss.length c) (.slice a' ws.length c') aJ:=KeepC.below (by assumption) aH))
 all_goals
  rename_i hHe;have aT:=hHe;clear hHe;have aZ:=aQ.out _ aT
  have aF:=by
   first
   | exact k1z w.heap.size (w.heap.size+1) aO aJ ss ws g1 g2 _ _ (Value.slice (some ⟨g1,0,none⟩) ss.length c1) (Value.slice (some ⟨g2,0,none⟩) ws.length c2) (by simp [aC.out]<;>omega) (by simp [aC.out]<;>omega) aN aH aM.size (Nat.le_refl _) aK
   | exact k1z w.heap.size (w.heap.size+1) aO aJ ss ws g1 g2 _ _ (Value.slice (some ⟨g1,0,none⟩) ss.length c1) (Value.slice (some ⟨g2,0,none⟩) ws.length c2) (by simp [aC.out]<;>omega) (by simp [aC.out]<;>omega) aN (Go.Proofs.YtcdojnnkjeakmaaGreatDoor.Below.then (zE5 aO _) (Nat.le_refl _) aH) aM.size (by simp) aK
  have aA:=hid aF;have aB:=jXx aR.2.2.1;have aY:=jXx aR.2.2.2.1;clear aF aN aM aK aH aR aT;go_wp2;exact bodyPost_ret (v:=Zoj (some ⟨g1,0,none⟩) ss.length c1 (some ⟨g2,0,none⟩) ws.length c2) (by simp [results,Tryz.results32,go_sem,aB,aY]) rfl ⟨g1,c1,g2,⟨c2,rfl⟩,aA.out.1,aA.out.2.1,aA.out.2.2,aZ⟩
theorem qgT {a b:Bool} (h:a=b):Ending.returned (.bool a)=.returned (.bool b):=by rw [h]
def wOk (n:Nat) (x:Int×ByteArray):Bool:=decide (0<=x.1/\x.1<(n:Int)/\(x.2.size:Int)=64)
def vlG (ss:List ByteArray) (ws:List (Int×ByteArray)):Bool:=decide (8<=ss.length/\ss.length<=200/\ws.length<=300) && ss.all (fun s=>decide ((s.size:Int)=64)) && ws.all (wOk ss.length)
theorem vcs {ss:List ByteArray} {ws:List (Int×ByteArray)} (h:¬ (8<=ss.length/\ss.length<=200/\ws.length<=300)):vlG ss ws=false:=by simp [vlG,h]
theorem Z3s {ss:List ByteArray} {ws:List (Int×ByteArray)} {s:ByteArray} (hm:s∈ss) (h:¬ (s.size:Int)=64):vlG ss ws=false:=by
 have:ss.all (fun s=>decide ((s.size:Int)=64))=false:=List.all_eq_false.2 ⟨s,hm,by simpa using h⟩;simp [vlG,this]
theorem qbC {ss:List ByteArray} {ws:List (Int×ByteArray)} {x:Int×ByteArray} (hm:x∈ws) (h:wOk ss.length x=false):vlG ss ws=false:=by
 have:ws.all (wOk ss.length)=false:=List.all_eq_false.2 ⟨x,hm,by simp [h]⟩;simp [vlG,this]
theorem Zof {ss:List ByteArray} {ws:List (Int×ByteArray)} (h:8<=ss.length/\ss.length<=200/\ws.length<=300) (h1:∀ s∈ss,(s.size:Int)=64) (h2:∀ x∈ws,wOk ss.length x=true):vlG ss ws=true:=by
 simp only [vlG,Bool.and_eq_true,decide_eq_true_eq,List.all_eq_true];exact ⟨⟨h,h1⟩,h2⟩
theorem q67 {ss:List ByteArray} {ws:List (Int×ByteArray)} (h:vlG ss ws=true):(8<=ss.length/\ss.length<=200/\ws.length<=300)/\(∀ s∈ss,(s.size:Int)=64)/\∀ x∈ws,wOk ss.length x=true:=by
 simp only [vlG,Bool.and_eq_true,decide_eq_true_eq,List.all_eq_true] at h;exact ⟨h.1.1,h.1.2,h.2⟩
theorem XXs {n:Nat} {x:Int} {s:ByteArray} (h0:0<=x) (h1:x<(n:Int)):((s.size:Int) == 64)=wOk n (x,s):=by
 rw [Bool.eq_iff_iff];simp [wOk,h0,h1]
theorem k0F (n:Nat) (x:Int) (s:ByteArray) (w:World) (hs:s.size<=1048576) (hn:n<=1048576) :
  Calls Tryz.prog 47 #[.int .i64 (n:Int),.int .i64 x,.string s] w fun e w'=>e=.returned (.bool (wOk n (x,s)))/\w'=w:=by
 by_cases h0:0<=x
 ·by_cases h1:x<(n:Int)
  ·go_enter Tryz.func47,Tryz.ntmps47
   go_wp2;go_ret;exact ⟨qgT (XXs h0 h1),rfl⟩
  ·go_enter Tryz.func47,Tryz.ntmps47
   go_wp2;go_ret;exact ⟨qgT (by simp [wOk];omega),rfl⟩
 ·go_enter Tryz.func47,Tryz.ntmps47
  go_wp2;go_ret;exact ⟨qgT (by simp [wOk];omega),rfl⟩
theorem z8b (a:Option Addr) (n c:Nat) (a':Option Addr) (n' c':Nat) (x:Int) (s:ByteArray) (w:World) (hs:s.size<=1048576) (hn:n<=1048576) :
  Calls Tryz.prog 51 #[Zoj a n c a' n' c',.int .i64 x,.string s] w fun e w'=>e=.returned (.bool (wOk n (x,s)))/\Below w.heap.size w w':=by
 by_cases h0:0<=x
 ·by_cases h1:x<(n:Int)
  ·go_enter Tryz.func51,Tryz.ntmps51
   go_wp2;go_ret;exact ⟨qgT (XXs h0 h1),(Below.refl _ _).alloc (Nat.le_refl _) _⟩
  ·go_enter Tryz.func51,Tryz.ntmps51
   go_wp2;go_ret;exact ⟨qgT (by simp [wOk];omega),(Below.refl _ _).alloc (Nat.le_refl _) _⟩
 ·go_enter Tryz.func51,Tryz.ntmps51
  go_wp2;go_ret;exact ⟨qgT (by simp [wOk];omega),(Below.refl _ _).alloc (Nat.le_refl _) _⟩
theorem z0h (n:Int) (w:World):Calls Tryz.prog 36 #[.int .i64 n] w fun e w'=>e=.returned (.bool (decide (8<=n/\n<=200)))/\w'=w:=by
 by_cases h1:8<=n
 ·by_cases h2:n<=200
  ·go_enter Tryz.func36,Tryz.ntmps36
   go_wp2;go_ret;exact ⟨qgT (by simp [h1,h2]),rfl⟩
  ·go_enter Tryz.func36,Tryz.ntmps36
   go_wp2;go_ret;exact ⟨qgT (by simp [h2]),rfl⟩
 ·go_enter Tryz.func36,Tryz.ntmps36
  go_wp2;go_ret;exact ⟨qgT (by simp;omega),rfl⟩
theorem jU6 (a:Option Addr) (ss:List ByteArray) (c:Nat) (a':Option Addr) (ws:List (Int×ByteArray)) (c':Nat) (w:World) (h:Strs w a ss) (h':Wrs w a' ws) (hl:ss.length<=1048576) (aU:ws.length<=1048576) (hs:∀ s∈ss,s.size<=1048576) (aN:∀ x∈ws,x.2.size<=1048576) :
  Calls Tryz.prog 24 #[Zoj a ss.length c a' ws.length c'] w fun e w'=>e=.returned (.bool (vlG ss ws))/\Below w.heap.size w w':=by
 have aD:∀ o1,Below w.heap.size w (w.alloc o1):=fun o1=>(Below.refl _ _).alloc (Nat.le_refl _) _
 obtain ⟨R,HR⟩:∃ R,Hid (R=vlG ss ws):=⟨_,hid rfl⟩;rw [<-HR.out]
 by_cases hn:8<=(ss.length:Int)/\(ss.length:Int)<=200
 ·have hd:decide (8<=(ss.length:Int)/\(ss.length:Int)<=200)=true:=decide_eq_true hn
  obtain ⟨aQ,aS⟩:=hn
  by_cases hp:(ws.length:Int)<=300
  ·go_enter Tryz.func24,Tryz.ntmps24
   go_wp2_with (go_at_call 36;refine (z0h _ _).mono ?_;rw [hd];rintro e w' ⟨rfl,rfl⟩);go_loop [4,21] (fun _ i=>∃ k:Nat,k<=ss.length/\i=.int .i64 k/\Hid (∀ s∈ss.take k,(s.size:Int)=64)) (fun _ i=>ss.length-(intOf i).toNat)
   case atStart=>exact ⟨0,Nat.zero_le _,rfl,by show ∀ s∈ss.take 0,_;simp⟩
   case round =>
    obtain ⟨k,hk,rfl,HA⟩:=hrel
    by_cases aF:k<ss.length
    ·obtain ⟨b,o,s,rfl,hc,HS⟩:=(h.below (aD (.cells #[.slice a ss.length c,.slice a' ws.length c'] 31))).at aF
     have hm:Hid (s∈ss):=by show _∈_;rw [HS.out];simp [List.getD,aF]
     by_cases aG:((s.size:Int) != 64)=true
     ·go_wp2
      go_ret;exact ⟨qgT (by rw [HR.out];exact (Z3s hm.out (by simpa using aG)).symm),aD _⟩
     ·have aP:((s.size:Int) != 64)=false:=by simpa using aG
      have aJ:Hid ((s.size:Int)=64):=by show _=_;simpa using aG
      clear aG;go_wp2;go_round
      case rel=>exact ⟨k+1,by omega,by go_num,fun x hx=>by
             rw [List.take_succ_eq_append_getElem aF] at hx;rcases List.mem_append.1 hx with hx | hx
             ·exact HA.out x hx
             ·simp at hx;have e:=HS.out;simp [List.getD,aF] at e;rw [hx,<-e];exact aJ.out⟩
      case measure=>simp [intOf];omega
    ·go_wp2
     have aC:∀ s∈ss,(s.size:Int)=64:=by have:=HA.out;rwa [List.take_of_length_le (by omega)] at this
     have aI:=hid aC;clear aC HA;go_loopw [6,32] (fun _ i wr=>∃ k:Nat,k<=ws.length/\i=.int .i64 k/\Hid (∀ x∈ws.take k,wOk ss.length x=true)/\Below (w.heap.size+1) (w.alloc (.cells #[.slice a ss.length c,.slice a' ws.length c'] 31)) wr) (fun _ i _=>ws.length-(intOf i).toNat)
     case atStart=>exact ⟨0,Nat.zero_le _,rfl,by show ∀ s∈ws.take 0,_;simp,Below.refl _ _⟩
     case round =>
      obtain ⟨k2,aV,rfl,aL,aA⟩:=hrel;have q0:wr.cell? ⟨w.heap.size,0,none⟩=some (.slice a ss.length c):=(aA.cell (p:=⟨w.heap.size,0,none⟩) (by show w.heap.size<_;omega)).trans (by go_simp);have q1:wr.cell? ⟨w.heap.size,1,none⟩=some (.slice a' ws.length c'):=(aA.cell (p:=⟨w.heap.size,1,none⟩) (by show w.heap.size<_;omega)).trans (by go_simp);have aE:Below w.heap.size w wr:=(aD _).trans (aA.mono (by omega));have aM:=hid aA;have aH:=hid aE
      by_cases aB:k2<ws.length
      ·obtain ⟨b,o,n,s,rfl,hc,aT,HS⟩:=(h'.below aE).at aB
       have hm:Hid ((n,s)∈ws):=by show _∈_;rw [HS.out];simp [List.getD,aB]
       have aK:s.size<=1048576:=aN (n,s) hm.out;have aR:w.heap.size+1<=wr.heap.size:=by have:=aA.size;simpa using this
       have aO:w.heap.size<wr.heap.size:=by omega
       clear aA aE
       cases hok:wOk ss.length (n,s) with
       | false =>
        go_wp2_with (go_at_call 47;refine (k0F ss.length n s _ aK (by omega)).mono ?_;rw [hok];rintro e w' ⟨rfl,rfl⟩);go_ret;exact ⟨qgT (by rw [HR.out];exact (qbC hm.out hok).symm),aH.out.alloc aH.out.size _⟩
       | true =>
        go_wp2_with (go_at_call 47;refine (k0F ss.length n s _ aK (by omega)).mono ?_;rw [hok];rintro e w' ⟨rfl,rfl⟩);go_roundw
        case rel=>exact ⟨k2+1,by omega,by go_num,fun x hx=>by
               rw [List.take_succ_eq_append_getElem aB] at hx;rcases List.mem_append.1 hx with hx | hx
               ·exact aL.out x hx
               ·simp at hx;have e:=HS.out;simp [List.getD,aB] at e;rw [hx,<-e];exact hok,aM.out.alloc (by omega) _⟩
        case measure=>simp [intOf];omega
      ·clear aA aE
       go_wp2;go_ret;refine ⟨qgT ?_,aH.out⟩;rw [HR.out];have h2:=aL.out;rw [List.take_of_length_le (by omega)] at h2;exact (Zof (by omega) aI.out h2).symm
  ·go_enter Tryz.func24,Tryz.ntmps24
   go_wp2_with (go_at_call 36;refine (z0h _ _).mono ?_;rw [hd];rintro e w' ⟨rfl,rfl⟩);go_ret;exact ⟨qgT (by rw [HR.out];exact (vcs (by omega)).symm),aD _⟩
 ·have hd:decide (8<=(ss.length:Int)/\(ss.length:Int)<=200)=false:=decide_eq_false hn
  go_enter Tryz.func24,Tryz.ntmps24;go_wp2_with (go_at_call 36;refine (z0h _ _).mono ?_;rw [hd];rintro e w' ⟨rfl,rfl⟩);go_ret;exact ⟨qgT (by rw [HR.out];exact (vcs (by omega)).symm),aD _⟩
theorem xpE (a:Option Addr) (ss:List ByteArray) (c:Nat) (a':Option Addr) (ws:List (Int×ByteArray)) (c':Nat) (w:World) (h:Strs w a ss) (h':Wrs w a' ws) (hl:ss.length<=1048576) (aY:ws.length<=1048576) (hs:∀ s∈ss,s.size<=1048576) (aR:∀ x∈ws,x.2.size<=1048576) :
  Calls Tryz.prog 29 #[Zoj a ss.length c a' ws.length c'] w fun e w'=>e=.returned (.bool (vlG ss ws))/\Below w.heap.size w w':=by
 have aD:∀ o1,Below w.heap.size w (w.alloc o1):=fun o1=>(Below.refl _ _).alloc (Nat.le_refl _) _
 obtain ⟨R,HR⟩:∃ R,Hid (R=vlG ss ws):=⟨_,hid rfl⟩;rw [<-HR.out]
 by_cases aU:8<=(ss.length:Int)
 ·by_cases aW:(ss.length:Int)<=200
  ·by_cases hp:(ws.length:Int)<=300
   ·go_enter Tryz.func29,Tryz.ntmps29
    go_wp2;go_loop [3] (fun i=>∃ k:Nat,k<=ss.length/\i=.int .i64 k/\Hid (∀ s∈ss.take k,(s.size:Int)=64)) (fun i=>ss.length-(intOf i).toNat)
    case atStart=>exact ⟨0,Nat.zero_le _,rfl,by show ∀ s∈ss.take 0,_;simp⟩
    case round =>
     obtain ⟨k,hk,rfl,HA⟩:=hrel
     by_cases aH:k<ss.length
     ·obtain ⟨b,o,s,rfl,hc,HS⟩:=(h.below (aD (.cells #[.slice a ss.length c,.slice a' ws.length c'] 31))).at aH
      have hm:Hid (s∈ss):=by show _∈_;rw [HS.out];simp [List.getD,aH]
      by_cases aI:((s.size:Int) != 64)=true
      ·go_wp2
       go_ret;exact ⟨qgT (by rw [HR.out];exact (Z3s hm.out (by simpa using aI)).symm),aD _⟩
      ·have aT:((s.size:Int) != 64)=false:=by simpa using aI
       have aL:Hid ((s.size:Int)=64):=by show _=_;simpa using aI
       clear aI;go_wp2;go_round
       case rel=>exact ⟨k+1,by omega,by go_num,fun x hx=>by
              rw [List.take_succ_eq_append_getElem aH] at hx;rcases List.mem_append.1 hx with hx | hx
              ·exact HA.out x hx
              ·simp at hx;have e:=HS.out;simp [List.getD,aH] at e;rw [hx,<-e];exact aL.out⟩
       case measure=>simp [intOf];omega
     ·go_wp2
      have aE:∀ s∈ss,(s.size:Int)=64:=by have:=HA.out;rwa [List.take_of_length_le (by omega)] at this
      have aK:=hid aE;clear aE HA;go_loopw [4] (fun i wr=>∃ k:Nat,k<=ws.length/\i=.int .i64 k/\Hid (∀ x∈ws.take k,wOk ss.length x=true)/\Below (w.heap.size+1) (w.alloc (.cells #[.slice a ss.length c,.slice a' ws.length c'] 31)) wr) (fun i _=>ws.length-(intOf i).toNat)
      case atStart=>exact ⟨0,Nat.zero_le _,rfl,by show ∀ s∈ws.take 0,_;simp,Below.refl _ _⟩
      case round =>
       obtain ⟨k2,aZ,rfl,aO,aA⟩:=hrel;have q0:wr.cell? ⟨w.heap.size,0,none⟩=some (.slice a ss.length c):=(aA.cell (p:=⟨w.heap.size,0,none⟩) (by show w.heap.size<_;omega)).trans (by go_simp);have q1:wr.cell? ⟨w.heap.size,1,none⟩=some (.slice a' ws.length c'):=(aA.cell (p:=⟨w.heap.size,1,none⟩) (by show w.heap.size<_;omega)).trans (by go_simp);have aG:Below w.heap.size w wr:=(aD _).trans (aA.mono (by omega));have aP:=hid aA;have aJ:=hid aG
       by_cases aB:k2<ws.length
       ·obtain ⟨b,o,n,s,rfl,hc,aN,HS⟩:=(h'.below aG).at aB
        have hm:Hid ((n,s)∈ws):=by show _∈_;rw [HS.out];simp [List.getD,aB]
        have aS:s.size<=1048576:=aR (n,s) hm.out;have aQ:w.heap.size+1<=wr.heap.size:=by have:=aA.size;simpa using this
        have aF:w.heap.size<wr.heap.size:=by omega
        have aM:b<wr.heap.size:=by have:=World.block_lt_of_cell? wr _ hc;simpa using this
        have aV:(k2:Int)<(ws.length:Int):=by omega
        have aX:(0:Int)<=(k2:Int):=by omega
        have HQ:=hid (And.intro q0 (And.intro q1 (And.intro hc aN)));go_wp2_with fail;clear aA aG q0 q1 hc aN
        go_region_held3 (fun w'=>w'.cell? ⟨w.heap.size,0,none⟩=some (.slice a ss.length c)/\w'.cell? ⟨w.heap.size,1,none⟩=some (.slice (some ⟨b,o,none⟩) ws.length c')/\w'.cell? ⟨b,o+k2*2,none⟩=some (.int .i64 n)/\w'.cell? ⟨b,o+k2*2+1,none⟩=some (.string s))
         (first | assumption | exact HQ.out | exact ⟨(aC.cell (p:=⟨_,_,none⟩) aF).trans HQ.out.1,(aC.cell (p:=⟨_,_,none⟩) aF).trans HQ.out.2.1,(aC.cell (p:=⟨b,_,none⟩) aM).trans HQ.out.2.2.1,(aC.cell (p:=⟨b,_,none⟩) aM).trans HQ.out.2.2.2⟩)
         (first | (go_at_call 51;refine (z8b a ss.length c (some ⟨b,o,none⟩) ws.length c' n s _ aS (by omega)).mono ?_;rintro e w2 ⟨rfl,aC⟩))
        cases hok:wOk ss.length (n,s) with
        | false =>
         go_wp2;go_ret;exact ⟨qgT (by rw [HR.out];exact (qbC hm.out hok).symm),aJ.out.drew.trans (aC.mono aJ.out.size)⟩
        | true =>
         go_wp2;go_roundw
         case rel=>exact ⟨k2+1,by omega,by go_num,fun x hx=>by
                rw [List.take_succ_eq_append_getElem aB] at hx;rcases List.mem_append.1 hx with hx | hx
                ·exact aO.out x hx
                ·simp at hx;have e:=HS.out;simp [List.getD,aB] at e;rw [hx,<-e];exact hok,aP.out.drew.trans (aC.mono aQ)⟩
         case measure=>simp [intOf];omega
       ·clear aA aG
        go_wp2;go_ret;refine ⟨qgT ?_,aJ.out⟩;rw [HR.out];have h2:=aO.out;rw [List.take_of_length_le (by omega)] at h2;exact (Zof (by omega) aK.out h2).symm
   ·go_enter Tryz.func29,Tryz.ntmps29
    go_wp2;go_ret;exact ⟨qgT (by rw [HR.out];exact (vcs (by omega)).symm),aD _⟩
  ·go_enter Tryz.func29,Tryz.ntmps29
   go_wp2;go_ret;exact ⟨qgT (by rw [HR.out];exact (vcs (by omega)).symm),aD _⟩
 ·go_enter Tryz.func29,Tryz.ntmps29
  go_wp2;go_ret;exact ⟨qgT (by rw [HR.out];exact (vcs (by omega)).symm),aD _⟩
section
def xhE:List (Int×ByteArray)->List ByteArray->List ByteArray
 | [],ss=>ss
 | x::r,ss=>xhE r (ss.set x.1.toNat x.2)
theorem yOJ:∀ (ws:List (Int×ByteArray)) (ss:List ByteArray),(xhE ws ss).length=ss.length
 | [],_=>rfl
 | x::r,ss=>by rw [xhE,yOJ r];simp
structure SYs (W w:World) (R X g g' n n' c1 c1':Nat) (ws:List (Int×ByteArray)) (ts:List ByteArray):Prop where
 gr:W.grownBy w (some g)
 rr:Row w R [.slice none 0 0,.slice none 0 0]
 rx:Row w X [.slice (some ⟨g,0,none⟩) n c1,.slice (some ⟨g',0,none⟩) n' c1']
 rs:Row w g (ts.map Value.string)
 own:OwnS w (some ⟨g',0,none⟩) (yaV ws)
section
variable {W w w':World} {R X g g' n n' c1 c1':Nat} {ws:List (Int×ByteArray)} {ts:List ByteArray}
theorem SYs.below (h:SYs W w R X g g' n n' c1 c1' ws ts) (hb:Below w.heap.size w w'):SYs W w' R X g g' n n' c1 c1' ws ts :=
 ⟨ZpU h.gr (Qbp _ hb),h.rr.below hb,h.rx.below hb,h.rs.below hb,h.own.below hb⟩
theorem SYs.drew (h:SYs W w R X g g' n n' c1 c1' ws ts):SYs W w.drew R X g g' n n' c1 c1' ws ts:=h.below ((Below.refl _ _).drew)
theorem SYs.set (h:SYs W w R X g g' n n' c1 c1' ws ts) (m:Nat) (hm:m<ts.length) (s:ByteArray) (h2:R≠g) (h3:X≠g) (h4:yaV ws≠[]->g'≠g):SYs W (w.setCell ⟨g,m,none⟩ (.string s)) R X g g' n n' c1 c1' ws (ts.set m s):=by
 refine ⟨y09 h.gr _ _,h.rr.other _ (fun e=>h2 e.symm) _,h.rx.other _ (fun e=>h3 e.symm) _,?_,?_⟩
 ·rw [List.map_set];exact h.rs.set m (by simpa using hm) _
 ·rcases h.own with ho | ⟨b,e,hr⟩
  ·exact .inl ho
  ·injection e with e;injection e with e
   by_cases hc:yaV ws=[]
   ·exact .inl hc
   ·exact .inr ⟨g',rfl,(e ▸ hr).other _ (fun e2=>h4 hc e2.symm) _⟩
end
theorem JW6 {a b:World} {r:Option Nat} (h:a.grownBy b r) (p:Addr) (hp:a.heap.size<=p.block) (v:Value):a.grownBy (b.setCell p v) r :=
 ⟨h.os,h.tape,h.output,by rw [World.size_setCell];exact h.size,fun i hi hr=>(Below.heap_setCell _ _ _ _ (fun e=>by omega)).trans (h.block i hi hr)⟩
set_option maxRecDepth 100000 in
theorem Qh0 (g g':Nat) (ss:List ByteArray) (c:Nat) (ws:List (Int×ByteArray)) (c':Nat) (w:World) (aJ:Row w g (ss.map Value.string)) (hp:OwnS w (some ⟨g',0,none⟩) (yaV ws)) (aT:yaV ws≠[]->g'≠g) (hl:ss.length<=200) (bU:ws.length<=300) (aP:∀ x∈ws,0<=x.1/\x.1<(ss.length:Int)) :
  Calls Tryz.prog 31 #[Zoj (some ⟨g,0,none⟩) ss.length c (some ⟨g',0,none⟩) ws.length c'] w fun e w'=>∃ x,e=.returned (Zoj (some ⟨g,0,none⟩) ss.length c (some ⟨x,0,none⟩) 0 0)/\w.heap.size<=x/\x<w'.heap.size/\Row w' g ((xhE ws ss).map Value.string)/\w.grownBy w' (some g):=by
 obtain ⟨aC,aD⟩:∃ aC,Hid (aC=xhE ws ss):=⟨_,hid rfl⟩;rw [<-aD.out];have bI:=aJ.lt;go_enter Tryz.func31,Tryz.ntmps31;go_wp2
 have aA:SYs w ((w.alloc (.cells #[.slice (some ⟨g,0,none⟩) ss.length c,.slice (some ⟨g',0,none⟩) ws.length c'] 31)).alloc (.cells #[.slice none 0 0,.slice none 0 0] 31)) (w.heap.size+1) w.heap.size g g' ss.length ws.length c c' ws ss :=
  ⟨Qbp _ (((Below.refl _ _).alloc (Nat.le_refl _) _).alloc (by simp) _),kR4 _ _ _ _ (by simp),(xER _ _ _).alloc _,(aJ.alloc _).alloc _,(hp.below (zE5 _ _)).below (zE5 _ _)⟩
 have aS:=hid aA;have aW:=hid aP;have aR:=hid aT;clear aA aJ hp aP aT;go_loopw [3] (fun i wr=>∃ (k:Nat) (ts:List ByteArray),k<=ws.length/\i=.int .i64 k/\ts.length=ss.length/\Hid (xhE (ws.drop k) ts=aC)/\SYs w wr (w.heap.size+1) w.heap.size g g' ss.length ws.length c c' ws ts) (fun i _=>ws.length-(intOf i).toNat)
 case atStart=>exact ⟨0,ss,Nat.zero_le _,rfl,rfl,by show _=_;rw [List.drop_zero,aD.out],aS.out⟩
 case round =>
  clear aS;obtain ⟨k,ts,hk,rfl,aK,HK,aA⟩:=hrel
  by_cases aN:k<ws.length
  ·obtain ⟨b,o,m0,d,he,aM,aH,HX⟩:=aA.own.wrs.at aN
   obtain ⟨rfl,rfl⟩:g'=b/\o=0:=by cases he;exact ⟨rfl,rfl⟩
   rw [Nat.zero_add] at aM aH;clear he;have aF:=aW.out (m0,d) (by rw [HX.out];simp [List.getD,aN]);obtain ⟨m,rfl,hm⟩:∃ m:Nat,m0=(m:Int)/\m<ss.length:=⟨m0.toNat,by have:=aF.1;simp at *;omega,by have:=aF.1;have:=aF.2;simp at *;omega⟩
   have aE:yaV ws≠[]:=fun e=>by have:=congrArg List.length e;rw [zPu,List.length_nil] at this;omega
   have bV:=aR.out aE;have aQ:=yRA (jXx (aA.rs.cell m (.string (ts.getD m ByteArray.empty)) (by simp [List.getD,aK,hm])));have aO:=aA.rs.froz m (by simp [aK,hm]);have aV:=aA.rx.lt;have x0:=aA.rx.cell 0 _ rfl;have x1:=aA.rx.cell 1 _ rfl;have aB:=hid (And.intro x0 (And.intro x1 (And.intro aM (And.intro aH (And.intro aQ aO)))));have aG:=hid aA;have bQ:(0:Int)<=(k:Int):=by omega
   have aZ:(k:Int)<(ws.length:Int):=by omega
   have bC:(0:Int)<=(m:Int):=by omega
   have bH:(m:Int)<(ss.length:Int):=by omega
   clear aA aF aQ aO aM aH aE;go_wp2_with fail;clear x0 x1
   go_region_held3 (fun w'=>w'.cell? ⟨w.heap.size,0,none⟩=some (.slice (some ⟨g,0,none⟩) ss.length c)/\w'.cell? ⟨w.heap.size,1,none⟩=some (.slice (some ⟨g',0,none⟩) ws.length c')/\w'.cell? ⟨g',k*2,none⟩=some (.int .i64 (m:Int))/\w'.cell? ⟨g',k*2+1,none⟩=some (.string d)/\w'.cell? ⟨g,m,none⟩=some (JTS w' ⟨g,m,none⟩)/\w'.frozen? ⟨g,m,none⟩=false)
    (first | assumption | exact aB.out | exact ⟨(World.cell?_setCell_far _ _ _ _ (by show g≠w.heap.size;omega)).trans aB.out.1,(World.cell?_setCell_far _ _ _ _ (by show g≠w.heap.size;omega)).trans aB.out.2.1,(World.cell?_setCell_far _ _ _ _ (by show g≠g';omega)).trans aB.out.2.2.1,(World.cell?_setCell_far _ _ _ _ (by show g≠g';omega)).trans aB.out.2.2.2.1,yRA (jXx (World.cell?_setCell_same' wr _ (.string d) (jXx aB.out.2.2.2.2.1))),(World.frozen?_setCell wr _ _ _).trans aB.out.2.2.2.2.2⟩)
    (fail)
   have aL:=hid (aG.out.drew.set m (by omega) d (by omega) (by omega) aR.out)
   have aX:Hid (xhE (ws.drop (k+1)) (ts.set m d)=aC):=by
    show _=_;rw [<-HK.out,JGy ws k (0,ByteArray.empty) aN,<-HX.out,xhE,Int.toNat_natCast]
   rename_i hHe;clear hHe aB;go_wp2;go_roundw
   case rel=>exact ⟨k+1,_,by omega,by go_num,by simp [aK],aX,aL.out⟩
   case measure=>simp [intOf];omega
  ·have aI:Hid (ts=aC):=by
    have:=HK.out;rw [List.drop_of_length_le (by omega)] at this;exact this
   rw [aI.out] at aA;have aG:=hid aA;have q0:=aA.rx.cell 0 _ rfl;have q1:=aA.rx.cell 1 _ rfl;have f1:=aA.rx.froz 1 (by simp);have r0:=aA.rr.cell 0 _ rfl;have r1:=aA.rr.cell 1 _ rfl;obtain ⟨bJ,bG⟩:=aA.rr.z2;have aV:=aA.rx.lt;have aY:=aA.rr.lt;have n1:w.heap.size≠w.heap.size+1:=by omega
   clear aA;go_wp2;have aU:wr.heap.size≠w.heap.size+1:=by omega
   refine bodyPost_ret (v:=Zoj (some ⟨g,0,none⟩) ss.length c (some ⟨wr.heap.size,0,none⟩) 0 0) (by simp [results,Tryz.results31,go_sem,r0,r1,n1,aU,aY]) rfl ⟨_,rfl,by omega,by simp,?_,?_⟩
   ·exact (((aG.out.rs.other _ (by show w.heap.size≠g;omega) _).other _ (by show w.heap.size+1≠g;omega) _).other _ (by show w.heap.size+1≠g;omega) _).alloc _
   ·exact ZpU (JW6 (JW6 (JW6 aG.out.gr ⟨w.heap.size,1,none⟩ (by show w.heap.size<=w.heap.size;omega) _) ⟨w.heap.size+1,0,none⟩ (by show w.heap.size<=w.heap.size+1;omega) _) ⟨w.heap.size+1,1,none⟩ (by show w.heap.size<=w.heap.size+1;omega) _) (Qbp _ (zE5 _ _))
end
section
structure PR (w:World) (g:Nat) (ps:List (List Int)):Prop where
 lt:g<w.heap.size
 len:∀ p∈ps,p.length=64
 cell:∀ k,k<ps.length->∀ j,j<64->w.cell? ⟨g,k*64+j,none⟩=some (.int .u8 ((ps.getD k []).getD j 0))
 froz:∀ i,i<ps.length*64->w.frozen? ⟨g,i,none⟩=false
theorem PR.below {w w':World} {g:Nat} {ps:List (List Int)} (h:PR w g ps) (hb:Below w.heap.size w w'):PR w' g ps :=
 ⟨Nat.lt_of_lt_of_le h.lt hb.size,h.len,fun k hk j hj=>(hb.cell (p:=⟨g,_,none⟩) h.lt).trans (h.cell k hk j hj),fun i hi=>(hb.frozen (p:=⟨g,i,none⟩) h.lt).trans (h.froz i hi)⟩
theorem PR.grown {w w':World} {g:Nat} {ps:List (List Int)} {r:Option Nat} (h:PR w g ps) (hg:w.grownBy w' r) (hn:some g≠r):PR w' g ps :=
 ⟨Nat.lt_of_lt_of_le h.lt hg.size,h.len,fun k hk j hj=>(World.cell?_of_block (a:=⟨g,_,none⟩) (hg.block g h.lt hn)).trans (h.cell k hk j hj),fun i hi=>(World.frozen?_of_block (a:=⟨g,i,none⟩) (hg.block g h.lt hn)).trans (h.froz i hi)⟩
theorem PR.other {w:World} {g:Nat} {ps:List (List Int)} (h:PR w g ps) (p:Addr) (hp:p.block≠g) (v:Value):PR (w.setCell p v) g ps:=by
 refine ⟨by simpa [World.setCell] using h.lt,h.len,fun k hk j hj=>?_,fun i hi=>?_⟩
 ·rw [World.cell?_setCell_other (w:=w) (h:=fun e=>hp (by rw [e]))];exact h.cell k hk j hj
 ·rw [World.frozen?_setCell];exact h.froz i hi
theorem yEE {ps:List (List Int)} (h:∀ p∈ps,p.length=64) {k:Nat} (hk:k<ps.length):(ps.getD k []).length=64:=h _ (by simp [List.getD,hk])
theorem PR.there {w:World} {g:Nat} {ps:List (List Int)} (h:PR w g ps) {k:Nat} (hk:k<ps.length):w.there g (k*64) 64:=fun j hj=>by
 rw [h.cell k hk j hj];exact ⟨rfl,h.froz _ (by omega)⟩
theorem PR.range {w:World} {g:Nat} {ps:List (List Int)} (h:PR w g ps) {k:Nat} (hk:k<ps.length):w.rangeAt g (k*64) ((ps.getD k []).map (Value.int .u8)):=fun j v hv=>by
 obtain ⟨hj,e⟩:=List.getElem?_eq_some_iff.1 hv;simp only [List.length_map] at hj;have h64:=yEE h.len hk;rw [h.cell k hk j (by omega)];rw [<-e];simp only [List.getElem_map];rw [List.getD_eq_getElem?_getD (l:=ps.getD k []),List.getElem?_eq_getElem hj];rfl
theorem PR.plt {w:World} {g:Nat} {ps:List (List Int)} (h:PR w g ps):Plt w (some ⟨g,0,none⟩) ps :=
 .inr ⟨g,0,rfl,h.lt,fun i hi=>by rw [Nat.zero_add];exact h.range hi⟩
theorem PR.set {w:World} {g:Nat} {ps:List (List Int)} (h:PR w g ps) (k:Nat) (hk:k<ps.length) (x:List Int) (hx:x.length=64):PR (w.setCells g (k*64) (x.map (Value.int .u8))) g (ps.set k x):=by
 have hl:(x.map (Value.int .u8)).length=64:=by simp [hx]
 refine ⟨by rw [QUl];exact h.lt,fun p hp=>?_,fun i hi j hj=>?_,fun i hi=>?_⟩
 ·rcases List.mem_or_eq_of_mem_set hp with h1 | h1
  ·exact h.len p h1
  ·rw [h1];exact hx
 ·rw [List.length_set] at hi
  by_cases he:i=k
  ·subst he
   have e1:(ps.set i x).getD i []=x:=by rw [List.getD_eq_getElem?_getD,List.getElem?_set_self hk];rfl
   rw [e1,World.cell?_setCells_in g _ (i*64) w (fun j hj=>by rw [hl] at hj;exact (h.there hk j hj).1) j (by omega)];simp [List.getD,show j<x.length by omega]
  ·have e1:(ps.set k x).getD i []=ps.getD i []:=by rw [List.getD_eq_getElem?_getD,List.getElem?_set_ne (fun e=>he e.symm),List.getD_eq_getElem?_getD]
   rw [e1,World.cell?_setCells_out g _ (k*64) w ⟨g,i*64+j,none⟩ (fun _ _=>by rw [hl];show i*64+j<k*64\/k*64+64<=i*64+j;omega)];exact h.cell i hi j hj
 ·rw [World.frozen?_setCells];exact h.froz i (by simpa using hi)
theorem XGp {w:World} {g n:Nat} (h:Row w g (List.replicate (n*64) (.int .u8 0))):PR w g (List.replicate n (List.replicate 64 0)):=by
 refine ⟨h.lt,fun p hp=>by rw [List.eq_of_mem_replicate hp];simp,fun k hk j hj=>?_,fun i hi=>h.froz i (by simpa using hi)⟩;rw [List.length_replicate] at hk
 have e1:((List.replicate n (List.replicate 64 (0:Int))).getD k []).getD j 0=0:=by
  rw [List.getD_eq_getElem?_getD (l:=List.replicate n _),List.getElem?_replicate,if_pos hk,Option.getD_some,List.getD_eq_getElem?_getD,List.getElem?_replicate,if_pos hj];rfl
 rw [e1];exact h.cell _ _ (by rw [List.getElem?_replicate,if_pos (by omega)])
def qOX (hs:List (Int×List Int)):List Value:=hs.flatMap fun x=>.int .i64 x.1::x.2.map (Value.int .u8)
theorem vIR (a b:List (Int×List Int)):qOX (a++b)=qOX a++qOX b:=by simp [qOX]
theorem vK9:∀ (hs:List (Int×List Int)),(∀ p∈hs,p.2.length=64)->∀ (i:Nat),i<hs.length->∀ j,(Value.int .i64 (hs.getD i (0,[])).1::(hs.getD i (0,[])).2.map (Value.int .u8))[j]?≠none->(qOX hs)[i*65+j]?=(Value.int .i64 (hs.getD i (0,[])).1::(hs.getD i (0,[])).2.map (Value.int .u8))[j]?
 | x::r,hl,0,_,j,hj=>by
  have e:qOX (x::r)=(.int .i64 x.1::x.2.map (Value.int .u8))++qOX r:=by simp [qOX]
  have e2:(x::r).getD 0 (0,[])=x:=rfl;rw [e2] at hj ⊢;rw [e,Nat.zero_mul,Nat.zero_add,List.getElem?_append_left];rcases Nat.lt_or_ge j (Value.int .i64 x.1::x.2.map (Value.int .u8)).length with h | h
  ·exact h
  ·exact absurd (List.getElem?_eq_none h) hj
 | x::r,hl,i+1,h,j,hj=>by
  have e:qOX (x::r)=(.int .i64 x.1::x.2.map (Value.int .u8))++qOX r:=by simp [qOX]
  have hx:(Value.int .i64 x.1::x.2.map (Value.int .u8)).length=65:=by simp [hl x (by simp)]
  have e2:(x::r).getD (i+1) (0,[])=r.getD i (0,[]):=by simp [List.getD]
  rw [e2] at hj ⊢;rw [e,List.getElem?_append_right (by omega),hx,show (i+1)*65+j-65=i*65+j by omega];exact vK9 r (fun p hp=>hl p (by simp [hp])) i (by simpa using h) j hj
theorem Zqb (hs:List (Int×List Int)) (hl:∀ p∈hs,p.2.length=64):(qOX hs).length=hs.length*65:=by
 induction hs with
 | nil=>rfl
 | cons x r ih =>
  have e:qOX (x::r)=(.int .i64 x.1::x.2.map (Value.int .u8))++qOX r:=by simp [qOX]
  rw [e,List.length_append,ih (fun p hp=>hl p (by simp [hp]))];simp [hl x (by simp)];omega
theorem Row.hld {w:World} {g:Nat} {hs:List (Int×List Int)} (h:Row w g (qOX hs)) (hl:∀ p∈hs,p.2.length=64):Hld w (some ⟨g,0,none⟩) hs :=
 .inr ⟨g,0,rfl,h.lt,fun i hi j v hv=>by
  rw [Nat.zero_add]
  exact h.cell _ _ ((vK9 hs hl i hi j (by rw [hv];simp)).trans hv)⟩
structure Drs (W w:World) (n:Nat) (box:Value) (e:TypeId) (v:Value) (ps:List (List Int)) (hs:List (Int×List Int)):Prop where
 sz:W.heap.size+1+1+1+1<=w.heap.size
 bel:Below W.heap.size W w
 b1:w.cell? ⟨W.heap.size,1,none⟩=some box
 r0:w.cell? ⟨W.heap.size+1,0,none⟩=some (.slice none 0 0)
 r1:w.cell? ⟨W.heap.size+1,1,none⟩=some (.slice none 0 0)
 fr0:w.frozen? ⟨W.heap.size+1,0,none⟩=false
 fr1:w.frozen? ⟨W.heap.size+1,1,none⟩=false
 d0:w.cell? ⟨W.heap.size+1+1+1,0,none⟩=some (.slice (some ⟨W.heap.size+1+1,0,none⟩) n n)
 d1:w.cell? ⟨W.heap.size+1+1+1,1,none⟩=some v
 fd1:w.frozen? ⟨W.heap.size+1+1+1,1,none⟩=false
 pr:PR w (W.heap.size+1+1) ps
 len:∀ p∈hs,p.2.length=64
 own:w.ownsRow (W.heap.size+1+1+1+1) e 65 v hs.length (qOX hs)
section
variable {W w w':World} {n:Nat} {box v:Value} {e:TypeId} {ps:List (List Int)} {hs:List (Int×List Int)}
theorem Drs.below (h:Drs W w n box e v ps hs) (hb:Below w.heap.size w w'):Drs W w' n box e v ps hs :=
 have hs:=h.sz
 have bc:∀ b i,b<W.heap.size+1+1+1+1->w'.cell? ⟨b,i,none⟩=w.cell? ⟨b,i,none⟩:=fun b i hi=>hb.cell (p:=⟨b,i,none⟩) (by show b<_;omega)
 have bf:∀ b i,b<W.heap.size+1+1+1+1->w'.frozen? ⟨b,i,none⟩=w.frozen? ⟨b,i,none⟩:=fun b i hi=>hb.frozen (p:=⟨b,i,none⟩) (by show b<_;omega)
 ⟨Nat.le_trans hs hb.size,h.bel.trans (hb.mono (by omega)),(bc _ _ (by omega)).trans h.b1,(bc _ _ (by omega)).trans h.r0,(bc _ _ (by omega)).trans h.r1,(bf _ _ (by omega)).trans h.fr0,(bf _ _ (by omega)).trans h.fr1,
  (bc _ _ (by omega)).trans h.d0,(bc _ _ (by omega)).trans h.d1,(bf _ _ (by omega)).trans h.fd1,h.pr.below hb,h.len,jcb h.own hb⟩
theorem Drs.drew (h:Drs W w n box e v ps hs):Drs W w.drew n box e v ps hs:=h.below ((Below.refl _ _).drew)
theorem Drs.alloc (h:Drs W w n box e v ps hs) (o:Obj):Drs W (w.alloc o) n box e v ps hs:=h.below ((Below.refl _ _).alloc (Nat.le_refl _) _)
theorem Drs.fill (h:Drs W w n box e v ps []) (hv:v=.slice none 0 0) (k:Nat) (hk:k<ps.length) (x:List Int) (hx:x.length=64):Drs W (w.setCells (W.heap.size+1+1) (k*64) (x.map (Value.int .u8))) n box e v (ps.set k x) []:=by
 have hs:=h.sz
 have co:∀ b i,b≠W.heap.size+1+1->(w.setCells (W.heap.size+1+1) (k*64) (x.map (Value.int .u8))).cell? ⟨b,i,none⟩=w.cell? ⟨b,i,none⟩:=fun b i hb=>World.cell?_setCells_out _ _ _ _ _ (fun e=>absurd e hb)
 exact ⟨by rw [QUl];exact hs,Go.below_setCells (by omega) _ _ _ h.bel,(co _ _ (by omega)).trans h.b1,(co _ _ (by omega)).trans h.r0,(co _ _ (by omega)).trans h.r1,(World.frozen?_setCells _ _ _ _ _).trans h.fr0,(World.frozen?_setCells _ _ _ _ _).trans h.fr1,
  (co _ _ (by omega)).trans h.d0,(co _ _ (by omega)).trans h.d1,(World.frozen?_setCells _ _ _ _ _).trans h.fd1,h.pr.set k hk x hx,h.len,by rw [hv];exact World.ownsRow_nil _ _ _ _⟩
theorem Drs.grown {w1:World} (h:Drs W w n box e v ps hs) (hg:w.grownBy w1 v.ownBlock):w1.cell? ⟨W.heap.size+1+1+1,1,none⟩=some v/\w1.frozen? ⟨W.heap.size+1+1+1,1,none⟩=false:=by
 have hs:=h.sz
 have nb:some (W.heap.size+1+1+1)≠v.ownBlock:=fun he=>by have:=(h.own.lt _ he.symm).1;omega
 exact ⟨(hg.cell_far ⟨W.heap.size+1+1+1,1,none⟩ (by show W.heap.size+1+1+1<_;omega) nb).trans h.d1,(hg.frozen_far ⟨W.heap.size+1+1+1,1,none⟩ (by show W.heap.size+1+1+1<_;omega) nb).trans h.fd1⟩
theorem Drs.push (h:Drs W w n box e v ps hs) {w1:World} {g cap:Nat} {x:Int×List Int} (hx:x.2.length=64) (aB:w1.ownsRow (W.heap.size+1+1+1+1) e 65 (.slice (some ⟨g,0,none⟩) (hs.length+1) cap) (hs.length+1) (qOX hs++(.int .i64 x.1::x.2.map (Value.int .u8)))) (hg:w.grownBy w1 v.ownBlock) :
  Drs W (w1.setCell ⟨W.heap.size+1+1+1,1,none⟩ (.slice (some ⟨g,0,none⟩) (hs.length+1) cap)) n box e (.slice (some ⟨g,0,none⟩) (hs.length+1) cap) ps (hs++[x]):=by
 have aC:=h.sz
 have nb:∀ k,k<W.heap.size+1+1+1+1->some k≠v.ownBlock:=fun k hk he=>by have:=(h.own.lt k he.symm).1;omega
 have lt:∀ b,b<W.heap.size+1+1+1+1->b<w.heap.size:=fun b hb=>by omega
 have cc:∀ b i,b<W.heap.size+1+1+1+1->w1.cell? ⟨b,i,none⟩=w.cell? ⟨b,i,none⟩:=fun b i hb=>hg.cell_far ⟨b,i,none⟩ (lt b hb) (nb b hb)
 have ff:∀ b i,b<W.heap.size+1+1+1+1->w1.frozen? ⟨b,i,none⟩=w.frozen? ⟨b,i,none⟩:=fun b i hb=>hg.frozen_far ⟨b,i,none⟩ (lt b hb) (nb b hb)
 have so:∀ b i,b<W.heap.size+1+1+1+1->b≠W.heap.size+1+1+1->(w1.setCell ⟨W.heap.size+1+1+1,1,none⟩ (.slice (some ⟨g,0,none⟩) (hs.length+1) cap)).cell? ⟨b,i,none⟩=w.cell? ⟨b,i,none⟩:=fun b i hb hn=>by
  rw [World.cell?_setCell_other (w:=w1) (h:=show (⟨W.heap.size+1+1+1,1,none⟩:Addr)≠⟨b,i,none⟩ from fun he=>hn (by injection he with h1;exact h1.symm))];exact cc b i hb
 have aA:Below W.heap.size W w1:=h.bel.trans ⟨hg.os,hg.tape,hg.output,hg.size,fun k hk=>hg.block k (by omega) (nb k (by omega))⟩
 refine ⟨by simp only [World.size_setCell];have:=hg.size;omega,aA.setCell (by show W.heap.size<=W.heap.size+1+1+1;omega) _,(so _ _ (by omega) (by omega)).trans h.b1,(so _ _ (by omega) (by omega)).trans h.r0,(so _ _ (by omega) (by omega)).trans h.r1,
  (World.frozen?_setCell _ _ _ _).trans ((ff _ _ (by omega)).trans h.fr0),(World.frozen?_setCell _ _ _ _).trans ((ff _ _ (by omega)).trans h.fr1),?_,World.cell?_setCell_same w1 _ _ ((cc _ _ (by omega)).trans h.d1),(World.frozen?_setCell _ _ _ _).trans ((ff _ _ (by omega)).trans h.fd1),?_,?_,?_⟩
 ·rw [World.cell?_setCell_other (w:=w1) (h:=show (⟨W.heap.size+1+1+1,1,none⟩:Addr)≠⟨W.heap.size+1+1+1,0,none⟩ by simp)];exact (cc _ _ (by omega)).trans h.d0
 ·exact (h.pr.grown hg (nb _ (by omega))).other _ (by show W.heap.size+1+1+1≠W.heap.size+1+1;omega) _
 ·intro p hp
  rcases List.mem_append.1 hp with h1 | h1
  ·exact h.len p h1
  ·simp at h1;rw [h1];exact hx
 ·have k1:=ownsRow_setCell_below aB (a:=⟨W.heap.size+1+1+1,1,none⟩) (by show W.heap.size+1+1+1<_;omega) (.slice (some ⟨g,0,none⟩) (hs.length+1) cap)
  have e1:qOX (hs++[x])=qOX hs++(.int .i64 x.1::x.2.map (Value.int .u8)):=by rw [vIR];simp [qOX]
  rw [List.length_append,e1];exact k1
theorem Drs.start (w wx:World) (n:Nat) (c0 c1:Value) (t0 t1 t2 e:TypeId) (hb:Below ((w.alloc (.cells #[c0,c1] t0)).alloc (.cells #[.slice none 0 0,.slice none 0 0] t1)).heap.size ((w.alloc (.cells #[c0,c1] t0)).alloc (.cells #[.slice none 0 0,.slice none 0 0] t1)) wx)
  (hs:wx.heap.size=w.heap.size+1+1+1) (hr:Row wx (w.heap.size+1+1) (List.replicate (n*64) (.int .u8 0))) :
  Drs w (wx.alloc (.cells #[.slice (some ⟨w.heap.size+1+1,0,none⟩) n n,.slice none 0 0] t2)) n c1 e (.slice none 0 0) (List.replicate n (List.replicate 64 0)) []:=by
 have rb:=(((xER w #[c0,c1] t0).alloc (.cells #[.slice none 0 0,.slice none 0 0] t1)).below hb).alloc (.cells #[.slice (some ⟨w.heap.size+1+1,0,none⟩) n n,.slice none 0 0] t2);have rr:=((kR4 (w.alloc (.cells #[c0,c1] t0)) #[.slice none 0 0,.slice none 0 0] t1 (w.heap.size+1) (by simp)).below hb).alloc (.cells #[.slice (some ⟨w.heap.size+1+1,0,none⟩) n n,.slice none 0 0] t2);have rd:=kR4 wx #[.slice (some ⟨w.heap.size+1+1,0,none⟩) n n,.slice none 0 0] t2 (w.heap.size+1+1+1) hs.symm;have hB:Below w.heap.size w wx:=(((Below.refl _ _).alloc (Nat.le_refl _) _).alloc (by simp) _).trans (hb.mono (by simp;omega));exact ⟨by simp [hs],hB.alloc hB.size _,rb.cell 1 _ rfl,rr.cell 0 _ rfl,rr.cell 1 _ rfl,rr.froz 0 (by simp),rr.froz 1 (by simp),rd.cell 0 _ rfl,rd.cell 1 _ rfl,rd.froz 1 (by simp),XGp (hr.alloc _),by simp,World.ownsRow_nil _ _ _ _⟩
end
end
theorem k3S {P:Program} {aH:Array Oper} {o:Oper} {a:Act} {w:World} {K:Act->World->Prop} {Q:Exit->Act->World->Prop} {E:Prop}
  (hg:o.guard=none) (d x:Operand) (dT sT:TypeId) (aI:o.op=Op.call { callee:=Callee.builtin Builtin.copy,args:=#[d,x],argTypes:=#[dT,sT] })
  (aB:TypeId) (hu:P.underlying dT=some (.slice aB)) (hz:(P.info? aB).map (·.size)=some 1)
  (b off aA aE:Nat) (hd:a.eval d=.slice (some ⟨b,off,none⟩) aA aE) (s:Addr) (aC aD:Nat) (hx:a.eval x=.slice (some s) aC aD) (cs:List Value) (hn:cs.length=Nat.min aC aA)
  (aF:∀ j v,cs[j]?=some v->w.cell? (s.add j)=some v) (hc:∀ j,j<cs.length->(w.cell? ⟨b,off+j,none⟩).isSome=true) (hf:∀ j,j<cs.length->w.frozen? ⟨b,off+j,none⟩=false) (h1:∀ v∈cs,v.oneCell'=true)
  (hK:K (a.put o.dst (goInt cs.length)) (w.setCells b off cs)) :
  if Region.wanted o (yielded aH a.tmps)=true then Oper.wp P o a w K Q else E:=by
 have hw:Region.wanted o (yielded aH a.tmps)=true:=by simp [Region.wanted,hg]
 rw [if_pos hw];have aG:=run_copy_cells (P:=P) w dT sT o.type aB b off aA aE s aC aD cs hu hz hn aF hc hf h1;unfold Oper.wp;simp [execOp,aI,resolve,invoke,builtin,hd,hx,aG,Result.andThen];exact hK
def zcH (k:Nat) (x y:List Int):List Int:=x.take k++y.drop k
theorem jYn (k:Nat) (x y:List Int) (hk:k<=64) (hx:x.length=64) (hy:y.length=64):(zcH k x y).length=64:=by simp [zcH];omega
theorem PR.part {w:World} {g:Nat} {ps:List (List Int)} (h:PR w g ps) (i:Nat) (hi:i<ps.length) (k:Nat) (hk:k<=64) (x:List Int) (hx:x.length=64):PR (w.setCells g (i*64) ((x.take k).map (Value.int .u8))) g (ps.set i (zcH k x (ps.getD i []))):=by
 have hl:((x.take k).map (Value.int .u8)).length=k:=by simp;omega
 have hy:=yEE h.len hi;refine ⟨by rw [QUl];exact h.lt,fun p hp=>?_,fun q hq j hj=>?_,fun q hq=>?_⟩
 ·rcases List.mem_or_eq_of_mem_set hp with h1 | h1
  ·exact h.len p h1
  ·rw [h1];exact jYn k x _ hk hx hy
 ·rw [List.length_set] at hq
  by_cases he:q=i
  ·subst he
   have e1:(ps.set q (zcH k x (ps.getD q []))).getD q []=zcH k x (ps.getD q []):=by rw [List.getD_eq_getElem?_getD,List.getElem?_set_self hi];rfl
   rw [e1]
   by_cases aA:j<k
   ·rw [World.cell?_setCells_in g _ (q*64) w (fun j hj=>by rw [hl] at hj;exact (h.there hi j (by omega)).1) j (by omega)]
    unfold zcH;rw [List.getD_eq_getElem?_getD,List.getElem?_append_left (by simp;omega),List.getElem?_take_of_lt aA,List.getElem?_eq_getElem (by omega)];simp
   ·rw [World.cell?_setCells_out g _ (q*64) w ⟨g,q*64+j,none⟩ (fun _ _=>by rw [hl];show q*64+j<q*64\/q*64+k<=q*64+j;omega),h.cell q hq j hj]
    unfold zcH;rw [List.getD_eq_getElem?_getD (l:=x.take k++_),List.getElem?_append_right (by simp;omega),List.getElem?_drop];rw [show k+(j-(x.take k).length)=j by simp;omega,List.getD_eq_getElem?_getD]
  ·have e1:(ps.set i (zcH k x (ps.getD i []))).getD q []=ps.getD q []:=by rw [List.getD_eq_getElem?_getD,List.getElem?_set_ne (fun e=>he e.symm),List.getD_eq_getElem?_getD]
   rw [e1,World.cell?_setCells_out g _ (i*64) w ⟨g,q*64+j,none⟩ (fun _ _=>by rw [hl];show q*64+j<i*64\/i*64+k<=q*64+j;omega)];exact h.cell q hq j hj
 ·rw [World.frozen?_setCells];exact h.froz q (by simpa using hq)
set_option maxRecDepth 100000 in
theorem zWx (X g n c:Nat) (v:Value) (ps:List (List Int)) (m:Nat) (x:List Int) (k:Nat) (w:World) (hX:w.cell? ⟨X,0,none⟩=some (.slice (some ⟨g,0,none⟩) n c)) (aI:X≠g) (hp:PR w g ps) (hn:ps.length=n) (hm:m<n) (aU:n<=200) (aY:n<=c) (hx:x.length=64) (hk:k<=64) :
  Calls Tryz.prog 69 #[.pointer (some ⟨X,0,none⟩),.agg (Value.int .i64 (m:Int)::x.map (Value.int .u8)).toArray,.int .i64 (k:Int)] w fun e w'=>e=.returned (.tuple #[])/\PR w' g (ps.set m (zcH k x (ps.getD m [])))/\w.grownBy w' (some g):=by
 have aO:X<w.heap.size:=by have:=World.block_lt_of_cell? w _ hX;simpa using this
 have aS:=hp.lt;go_enter Tryz.func69,Tryz.ntmps69;go_wp2_with fail;have aA:=xER w (Value.int .i64 (m:Int)::x.map (Value.int .u8)).toArray 101;have aB:=zE5 w (.cells (Value.int .i64 (m:Int)::x.map (Value.int .u8)).toArray 101);obtain ⟨wy,aH⟩:∃ wy,wy=w.alloc (.cells (Value.int .i64 (m:Int)::x.map (Value.int .u8)).toArray 101):=⟨_,rfl⟩;rw [<-aH] at aA aB ⊢;clear aH;have aJ:=hid (hp.below aB);have HQ:=hid (And.intro ((aB.cell (p:=⟨X,0,none⟩) aO).trans hX) (aA.cell 0 (.int .i64 (m:Int)) rfl));have aD:=hid aB
 have aE:Hid (∀ j v,((x.take k).map (Value.int .u8))[j]?=some v->wy.drew.cell? ((⟨w.heap.size,1,none⟩:Addr).add j)=some v):=fun j v hv=>by
  obtain ⟨hj,e⟩:=List.getElem?_eq_some_iff.1 hv;have aM:j<k:=by simp at hj;omega
  have ha:(⟨w.heap.size,1,none⟩:Addr).add j=⟨w.heap.size,j+1,none⟩:=by unfold Addr.add;split<;>simp_all<;>omega
  rw [ha];refine aA.cell (j+1) v ?_;rw [<-hv];simp [List.getElem?_take_of_lt aM]
 have HL:Hid (((x.take k).map (Value.int .u8)).length=Nat.min k k):=by show _=_;simp [Nat.min_def];omega
 have aW:((x.take k).map (Value.int .u8)).length=k:=by simp;omega
 have HT:=hid (aJ.out.there (k:=m) (by omega))
 have aX:=fun wx=>QTH (P:=Tryz.prog) (t:=86) Tryz.underlying86 (fun _=>by kernel_rfl) g (m*64) k (by omega) hk .i64 (k:Int) rfl wx
 have aV:=fun wx=>QTH (P:=Tryz.prog) (t:=86) Tryz.underlying86 (fun _=>by kernel_rfl) w.heap.size 1 k (by omega) hk .i64 (k:Int) rfl wx
 have aR:(0:Int)<=(m:Int):=by omega
 have aT:(m:Int)<(n:Int):=by omega
 have aP:X≠g:=aI;have aL:w.heap.size≠g:=by omega
 clear hX hp aA aB aI
 go_region_held3 (fun w'=>w'.cell? ⟨X,0,none⟩=some (.slice (some ⟨g,0,none⟩) n c)/\w'.cell? ⟨w.heap.size,0,none⟩=some (.int .i64 (m:Int)))
  (first | assumption | exact HQ.out | exact ⟨(World.cell?_setCells_out _ _ _ _ _ (fun e=>absurd e aP)).trans HQ.out.1,(World.cell?_setCells_out _ _ _ _ _ (fun e=>absurd e aL)).trans HQ.out.2⟩)
  (first | (refine k3S (by rfl) _ _ _ _ (by rfl) 5 Tryz.underlying22 (by kernel_rfl) g (m*64) k 64 (by rfl) ⟨w.heap.size,1,none⟩ k 64 (by rfl) ((x.take k).map (Value.int .u8)) HL.out aE.out (fun j hj=>(HT.out j (by omega)).1) (fun j hj=>(HT.out j (by omega)).2) (xgE _) ?_))
 have aC:=(aJ.out.below ((Below.refl _ wy).drew)).part m (by omega) k hk x hx
 have aK:w.grownBy (wy.drew.setCells g (m*64) ((x.take k).map (Value.int .u8))) (some g):=by
  have aF:=zyN g ((x.take k).map (Value.int .u8)) (m*64) wy.drew;refine ⟨aF.1.trans aD.out.os,aF.2.1.trans aD.out.tape,aF.2.2.trans aD.out.output,by rw [QUl];exact aD.out.size,fun i hi aQ=>?_⟩;rw [zWW g _ _ _ i (fun e=>aQ (by rw [e]))];exact aD.out.block i hi
 have aG:=hid aC;have aN:=hid aK;clear aC aK;go_wp2;go_end0;exact ⟨rfl,aG.out,aN.out⟩
theorem y6L (v:Value) (cs:List Value) (z:Array Value) (hz:z.size=cs.length+1):List.foldl (fun (r:Array Value) (x:Value×Nat)=>r.setIfInBounds (1+x.snd) x.fst) (z.setIfInBounds 0 v) cs.zipIdx=(v::cs).toArray:=by
 obtain ⟨h3,h4⟩:=Great.foldl_set 1 cs 0 (z.setIfInBounds 0 v)
 apply Array.ext_getElem?
 intro k;have e:=h4 k;rw [e,Array.size_setIfInBounds]
 by_cases hk:1<=k/\k<1+cs.length
 ·rw [if_pos ⟨by omega,by omega,by omega⟩]
  obtain ⟨j,rfl⟩:∃ j,k=j+1:=⟨k-1,by omega⟩;simp
 ·rw [if_neg (by omega)]
  by_cases h0:k=0
  ·subst h0
   simp [show 0<z.size by omega]
  ·rw [Array.getElem?_eq_none (by simp;omega),Array.getElem?_eq_none (by simp;omega)]
theorem kJd (v:Value) (cs:List Value) (n:Nat) (hn:cs.length+1=n) (z:Array Value) (hz:z.size=n) (h0:z[0]?=some v):List.foldl (fun (r:Array Value) (x:Value×Nat)=>r.setIfInBounds x.snd x.fst) z (cs.zipIdx 1)=(v::cs).toArray:=by
 obtain ⟨h3,h4⟩:=Great.foldl_set 0 cs 1 z
 have e0:(fun (r:Array Value) (x:Value×Nat)=>r.setIfInBounds (0+x.2) x.1)=fun (r:Array Value) (x:Value×Nat)=>r.setIfInBounds x.snd x.fst:=by funext r x;rw [Nat.zero_add]
 rw [e0] at h3 h4
 apply Array.ext_getElem?
 intro k;rw [h4 k]
 by_cases hk:1<=k/\k<1+cs.length
 ·rw [if_pos ⟨by omega,by omega,by omega⟩]
  obtain ⟨j,rfl⟩:∃ j,k=j+1:=⟨k-1,by omega⟩;simp
 ·rw [if_neg (by omega)]
  by_cases aA:k=0
  ·subst aA;rw [h0];simp
  ·rw [Array.getElem?_eq_none (by omega),Array.getElem?_eq_none (by simp;omega)]
theorem qHW:y2b.size=65:=by kernel_rfl
theorem Qlg:¬ (y2b=#[]):=fun h=>by have:=congrArg Array.size h;rw [qHW] at this;cases this
set_option maxRecDepth 100000 in
theorem Z7z (a:Option Addr) (ps:List (List Int)) (c:Nat) (a':Option Addr) (hs:List (Int×List Int)) (c':Nat) (w:World) (h:Plt w a ps) (h':Hld w a' hs) (hl:ps.length<=200) (cL:hs.length<=300) (cC:∀ p∈ps,p.length=64) (bY:∀ p∈hs,p.2.length=64) :
  Calls Tryz.prog 35 #[Zoj a ps.length c a' hs.length c'] w fun e w'=>∃ v v',e=.returned (.agg #[v,v'])/\w'.ownsRow w.heap.size 9 1 v ps.length ((q95 ps).map Value.string)/\w'.ownsRow w.heap.size 97 2 v' hs.length (yaV (XbJ hs))/\(v.ownBlock=none\/v'.ownBlock=none\/v.ownBlock≠v'.ownBlock)/\Below w.heap.size w w':=by
 obtain ⟨i0,aM,aW,aR,aL⟩:=q00 kDp;have HI:=hid (And.intro aM (And.intro aW (And.intro aR aL)));clear aM aW aR aL;obtain ⟨i1,aM,aW,aR,aL⟩:=q00 yGS;have aX:=hid (And.intro aM (And.intro aW (And.intro aR aL)));clear aM aW aR aL;go_enter Tryz.func35,Tryz.ntmps35;go_wp2;go_loopw [5,11] (fun _ i wr=>∃ (k:Nat) (v:Value),k<=ps.length/\i=.int .i64 k/\Dsk w wr (w.heap.size+1) (w.heap.size+1+1) (w.heap.size+1+1+1) 9 97 v (.slice none 0 0) (q95 (ps.take k)) []/\wr.cell? ⟨w.heap.size,1,none⟩=some (.slice a' hs.length c')) (fun _ i _=>ps.length-(intOf i).toNat)
 case atStart=>exact ⟨0,_,Nat.zero_le _,rfl,Dsk.start3 _ _ _ _ _ _ _ _,by go_simp⟩
 case round =>
  obtain ⟨k,v,hk,rfl,hd,hq⟩:=hrel
  by_cases bH:k<ps.length
  ·obtain ⟨b,o,x,rfl,cE,aK,HS⟩:=(h.below hd.bel).at bH
   have aO:x.length=64:=by rw [HS.out];exact cC _ (by simp [List.getD,bH])
   have aH:(x.map (Value.int .u8)).length=64:=by simp [aO]
   have aI:(q95 (ps.take k)).length=k:=by simp [q95];omega
   have HL:=hid aI;have HD:=hid hd;have HQ:=hid hq;clear hd hq aI;have aP:Hid ((Tryz.prog.info? 86).map (·.size)=some (x.map (Value.int .u8)).length):=by rw [aH];show _=_;kernel_rfl
   have bG:=hid aH.symm;clear aH
   go_wp2_with (first | (with_reducible refine kVP 86 _ rfl ?_;refine wpList_load_mid rfl 86 _ rfl b (o+k*64) rfl (x.map (Value.int .u8)) _ aK Tryz.underlying86 rfl aP.out ?_) | (with_reducible refine JWC 86 _ _ rfl ?_;refine Xnw rfl 86 _ _ rfl (x.map (Value.int .u8)) (xgE x) rfl rfl _ _ (by rw [<-bG.out];kernel_rfl) aP.out ?_;intro wx aC aE bI))
   have aF:=hid (HD.out.below aE);have q0:=(HD.out.below aE).d0;have q1:=(HD.out.below aE).fd0;have cI:w.heap.size+1+1<wx.heap.size:=by have:=aF.out.sz;omega
   have aV:w.heap.size+1+1+1<=wx.heap.size:=aF.out.sz;have cH:=aC.drew.text (P:=Tryz.prog) x 0 64 64 aO (fun i hi=>by simp [List.getD,show i<x.length by omega]) 22 5 9 Tryz.underlying22 Tryz.underlying5 Tryz.underlying9;have b8:Hid (wx.cell? ⟨w.heap.size,1,none⟩=some (.slice a' hs.length c')):=(aE.cell (p:=⟨w.heap.size,1,none⟩) (by have:=HD.out.sz;show w.heap.size<wr.heap.size;omega)).trans HQ.out;have HO:=hid (aF.out.drew.own.alloc (.cells #[.string (strOfNums x)] 9));have aJ:=hid (aF.out.drew.alloc (.cells #[.string (strOfNums x)] 9));clear aC aE bI HD HQ aK
   go_region_law (first | (refine step_append_lies _ (by rfl) _ _ _ (by rfl) (w.heap.size+1+1+1) 9 i0 (.string ByteArray.empty) 1 16 Tryz.underlying28 HI.out.1 HI.out.2.1 HI.out.2.2.1 HI.out.2.2.2 rfl (by omega) v (q95 (ps.take k)).length ((q95 (ps.take k)).map Value.string) (by rfl) HO.out ⟨wx.heap.size,0,none⟩ 1 1 [.string (strOfNums x)] (by rfl) rfl (World.news_of_block (heap_alloc_new wx.drew _)) (by intro u hu;simp at hu;subst hu;rfl) (by omega) (by rw [HL.out];unfold maxLen;omega) (by rw [HL.out];omega) (by simp<;>omega) (wx.heap.size+1) (by simp) ?_;intro g cap w3 aD aB aQ bQ;obtain ⟨q4,q5⟩:=aJ.out.grown aB;have bV:=hid aD;have aY:=hid aB;have bZ:=hid aQ;clear aD aB aQ))
   all_goals
    have aA:=aJ.out.push bV.out aY.out bZ.out (by simp);have aU:=(aJ.out.far aY.out w.heap.size 1 0 (by omega) (by omega) (.slice (some ⟨g,0,none⟩) ((q95 (ps.take k)).length+1) cap)).trans ((World.cell?_alloc_past (w:=wx.drew) _ w.heap.size 1 (by show w.heap.size<wx.heap.size;omega)).trans b8.out);rw [HS.out,<-vnP ps k bH] at aA;have HP:=hid aA;have HF:=hid aU;clear aA aU;go_wp2;go_roundw
    case rel=>exact ⟨k+1,_,by omega,by go_num,HP.out,HF.out⟩
    case measure=>simp [intOf];omega
  ·have cF:Hid (ps.take k=ps):=List.take_of_length_le (by omega)
   rw [cF.out] at hd;have bW:w.heap.size<wr.heap.size:=by have:=hd.sz;omega
   go_wp2;go_loopw [7,26] (fun _ i wr=>∃ (k:Nat) (v':Value),k<=hs.length/\i=.int .i64 k/\Dsk w wr (w.heap.size+1) (w.heap.size+1+1) (w.heap.size+1+1+1) 9 97 v v' (q95 ps) (XbJ (hs.take k))) (fun _ i _=>hs.length-(intOf i).toNat)
   case atStart=>exact ⟨0,_,Nat.zero_le _,rfl,hd⟩
   case round =>
    clear hd hq bW;obtain ⟨k2,v',cN,rfl,hd⟩:=hrel
    by_cases aG:k2<hs.length
    ·obtain ⟨b,o,n,x,rfl,cE,aK,HS⟩:=(h'.below hd.bel).at aG
     have aO:x.length=64:=by
      have:=bY (n,x) (by rw [HS.out];simp [List.getD,aG]);exact this
     have aH:(Value.int .i64 n::x.map (Value.int .u8)).length=65:=by simp [aO]
     have aI:(XbJ (hs.take k2)).length=k2:=by simp [XbJ];omega
     have HL:=hid aI;have HD:=hid hd;clear hd aI;have aS:Hid ((Tryz.prog.info? 101).map (·.size)=some (Value.int .i64 n::x.map (Value.int .u8)).length):=by rw [aH];show _=_;kernel_rfl
     have bG:=hid aH.symm;clear aH;have cM:=vXi
     go_wp2_with (first | (with_reducible refine kVP 101 _ rfl ?_;refine wpList_load_mid rfl 101 _ rfl b (o+k2*65) rfl (Value.int .i64 n::x.map (Value.int .u8)) _ aK Tryz.underlying101 rfl aS.out ?_) | (with_reducible refine JWC 101 _ _ rfl ?_;refine Xnw rfl 101 _ _ rfl (Value.int .i64 n::x.map (Value.int .u8)) (qQs n x) rfl rfl _ _ (by rw [<-bG.out];kernel_rfl) aS.out ?_;intro wx aC aE bI))
     have aF:=hid (HD.out.below aE);have q0:=(HD.out.below aE).d1;have q1:=(HD.out.below aE).fd1;have cI:w.heap.size+1+1<wx.heap.size:=by have:=aF.out.sz;omega
     have cJ:wr.heap.size<wx.heap.size:=by omega
     have aV:w.heap.size+1+1+1<=wx.heap.size:=aF.out.sz;have cK:wx.cell? ⟨wr.heap.size,0,none⟩=some (.int .i64 n):=aC.cell 0 _ rfl;have cH:=aC.drew.text (P:=Tryz.prog) x 1 64 64 aO (fun i hi=>by rw [show 1+i=i+1 by omega];simp [List.getD,show i<x.length by omega]) 22 5 9 Tryz.underlying22 Tryz.underlying5 Tryz.underlying9;have HO:=hid (aF.out.drew.own'.alloc (.cells #[.int .i64 n,.string (strOfNums x)] 97));have aJ:=hid (aF.out.drew.alloc (.cells #[.int .i64 n,.string (strOfNums x)] 97));clear aC aE bI HD aK
     go_region_law (first | (refine step_append_lies _ (by rfl) _ _ _ (by rfl) (w.heap.size+1+1+1) 97 i1 (.agg #[.int .i64 0,.string ByteArray.empty]) 2 24 Tryz.underlying29 aX.out.1 aX.out.2.1 aX.out.2.2.1 aX.out.2.2.2 rfl (by omega) v' (XbJ (hs.take k2)).length (yaV (XbJ (hs.take k2))) (by rfl) HO.out ⟨wx.heap.size,0,none⟩ 1 1 [.int .i64 n,.string (strOfNums x)] (by rfl) rfl (World.news_of_block (heap_alloc_new wx.drew _)) (by intro u hu;simp at hu;rcases hu with rfl | rfl<;>rfl) (by omega) (by rw [HL.out];unfold maxLen;omega) (by rw [HL.out];omega) (by simp<;>omega) (wx.heap.size+1) (by simp) ?_;intro g cap w3 aD aB aQ bQ;obtain ⟨q4,q5⟩:=aJ.out.grown2 aB;have bV:=hid aD;have aY:=hid aB;have bZ:=hid aQ;clear aD aB aQ))
     all_goals
      have aA:=aJ.out.push2 (x:=(n,strOfNums x)) bV.out aY.out bZ.out (by simp);rw [show (n,strOfNums x)=((hs.getD k2 (0,[])).1,strOfNums (hs.getD k2 (0,[])).2) by rw [<-HS.out],<-jwj hs k2 aG] at aA;have HP:=hid aA;clear aA;go_wp2;go_roundw
      case rel=>exact ⟨k2+1,_,by omega,by go_num,HP.out⟩
      case measure=>simp [intOf];omega
    ·have bC:Hid (hs.take k2=hs):=List.take_of_length_le (by omega)
     rw [bC.out] at hd;have HD:=hid hd;have q0:=hd.d0;have q1:=hd.d1;have q2:=hd.r0;have q3:=hd.r1;have q4:=hd.fr0;have q5:=hd.fr1;have o1:=hd.own;have o2:=hd.own';obtain ⟨av,nv,cv,rfl⟩:∃ a n c,v=.slice a n c:=by rcases yUO hd.own with ⟨e,_⟩ | ⟨g,c,e,_⟩<;>exact ⟨_,_,_,e⟩
     obtain ⟨b7,aZ,bJ,rfl⟩:∃ a n c,v'=.slice a n c:=by rcases yUO hd.own' with ⟨e,_⟩ | ⟨g,c,e,_⟩<;>exact ⟨_,_,_,e⟩
     clear hd o1 o2;go_wp2;have aI:(q95 ps).length=ps.length:=by simp [q95]
     have bU:(XbJ hs).length=hs.length:=by simp [XbJ]
     have aN:=ownsRow_setCell_below (ownsRow_setCell_below HD.out.own (a:=⟨w.heap.size+1,0,none⟩) (by show w.heap.size+1<_;omega) (.slice av nv cv)) (a:=⟨w.heap.size+1,1,none⟩) (by show w.heap.size+1<_;omega) (.slice b7 aZ bJ);have aT:=ownsRow_setCell_below (ownsRow_setCell_below HD.out.own' (a:=⟨w.heap.size+1,0,none⟩) (by show w.heap.size+1<_;omega) (.slice av nv cv)) (a:=⟨w.heap.size+1,1,none⟩) (by show w.heap.size+1<_;omega) (.slice b7 aZ bJ);rw [aI] at aN;rw [bU] at aT;refine bodyPost_ret (v:=.agg #[.slice av nv cv,.slice b7 aZ bJ]) (by simp [results,Tryz.results35,go_sem,q2,q3]) rfl ⟨_,_,rfl,aN.mono (by omega),aT.mono (by omega),HD.out.apart,?_⟩;exact (HD.out.bel.setCell (by show w.heap.size<=w.heap.size+1;omega) _).setCell (by show w.heap.size<=w.heap.size+1;omega) _
theorem v19 (a:Option Addr) (ps:List (List Int)) (n c:Nat) (a':Option Addr) (hs:List (Int×List Int)) (n' c':Nat) (hn:ps.length=n) (aC:hs.length=n') (w:World) (h:Plt w a ps) (h':Hld w a' hs) (hl:n<=200) (aD:n'<=300) (aE:∀ p∈ps,p.length=64) (aA:∀ p∈hs,p.2.length=64) :
  Calls Tryz.prog 35 #[Zoj a n c a' n' c'] w fun e w'=>∃ a1 c1 aB c1',e=.returned (Zoj a1 n c1 aB n' c1')/\OwnD w' a1 (q95 ps) aB (XbJ hs)/\(∀ g,blk a1 n=some g->w.heap.size<=g)/\(∀ g,blk aB n'=some g->w.heap.size<=g)/\Below w.heap.size w w':=by
 subst hn aC;refine (Z7z a ps c a' hs c' w h h' hl aD aE aA).mono ?_;rintro e w' ⟨v,v',rfl,o1,o2,aF,hb⟩;have l1:(q95 ps).length=ps.length:=by simp [q95]
 have l2:(XbJ hs).length=hs.length:=by simp [XbJ]
 have f1:∃ a1 c1,v=.slice a1 ps.length c1/\OwnS w' a1 ((q95 ps).map Value.string)/\(∀ g,blk a1 ps.length=some g->w.heap.size<=g)/\(blk a1 ps.length=none\/blk a1 ps.length=v.ownBlock):=by
  rcases yUO o1 with ⟨e,h0⟩ | ⟨g,cap,e,h1,_,hr⟩
  ·refine ⟨none,0,by rw [h0];exact e,.inl ?_,fun g hg=>?_,.inl ?_⟩
   ·rw [List.eq_nil_of_length_eq_zero (l1.trans h0)];rfl
   ·rw [h0] at hg;cases hg
   ·rw [h0];rfl
  ·refine ⟨_,cap,e,.inr ⟨g,rfl,hr⟩,fun g' hg=>?_,?_⟩
   ·unfold blk at hg;split at hg
    ·cases hg
    ·cases hg;exact h1
   ·unfold blk;split
    ·exact .inl rfl
    ·right;rw [e];rfl
 have f2:∃ a1 c1,v'=.slice a1 hs.length c1/\OwnS w' a1 (yaV (XbJ hs))/\(∀ g,blk a1 hs.length=some g->w.heap.size<=g)/\(blk a1 hs.length=none\/blk a1 hs.length=v'.ownBlock):=by
  rcases yUO o2 with ⟨e,h0⟩ | ⟨g,cap,e,h1,_,hr⟩
  ·refine ⟨none,0,by rw [h0];exact e,.inl ?_,fun g hg=>?_,.inl ?_⟩
   ·rw [List.eq_nil_of_length_eq_zero (l2.trans h0)];rfl
   ·rw [h0] at hg;cases hg
   ·rw [h0];rfl
  ·refine ⟨_,cap,e,.inr ⟨g,rfl,hr⟩,fun g' hg=>?_,?_⟩
   ·unfold blk at hg;split at hg
    ·cases hg
    ·cases hg;exact h1
   ·unfold blk;split
    ·exact .inl rfl
    ·right;rw [e];rfl
 obtain ⟨a1,c1,e1,g1,g2,g3⟩:=f1;obtain ⟨a2,c2,e2,k1,k2,k3⟩:=f2;refine ⟨a1,c1,a2,c2,by rw [e1,e2],⟨g1,k1,?_⟩,g2,k2,hb⟩;rw [l1,l2];rcases g3 with g3 | g3
 ·exact .inl g3
 ·rcases k3 with k3 | k3
  ·exact .inr (.inl k3)
  ·rw [g3,k3];exact aF
end Go.Proofs.YtcdojnnkjeakmaaGreatDoor
