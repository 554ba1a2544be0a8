import Derived.Test.YtcdojnnkjeakmaaGreatDoorPrG48
set_option maxHeartbeats 16000000
set_option maxRecDepth 8000
set_option linter.unusedVariables false
set_option linter.unusedSimpArgs false
namespace Go.Proofs.YtcdojnnkjeakmaaGreatDoor
open Go.RowKit
structure Wrt (w:World) (base g:Nat) (v:Value) (os:List OpT) (at_ nm lf wd:Int):Prop where
 row:Row w g [v,.int .i64 at_,.int .i64 nm,.int .i64 lf,.int .i64 wd]
 own:w.ownsRow base 38 3 v os.length (JFO os)
 ge:base<=g
 ne:v.ownBlock≠some g
theorem Wrt.below {w w':World} {base g:Nat} {v:Value} {os:List OpT} {aA nm lf wd:Int} (h:Wrt w base g v os aA nm lf wd) (hb:Below w.heap.size w w'):Wrt w' base g v os aA nm lf wd:=⟨h.row.below hb,jcb h.own hb,h.ge,h.ne⟩
theorem JEq (b:Bool) (n:Int) (s:ByteArray):∀ u∈[Value.bool b,.int .i64 n,.string s],u.oneCell'=true:=by
 intro u hu;simp only [List.mem_cons,List.not_mem_nil,or_false] at hu;rcases hu with rfl | rfl | rfl<;>rfl
theorem Wrt.set {w:World} {base g:Nat} {v:Value} {os:List OpT} {aA nm lf wd:Int} (h:Wrt w base g v os aA nm lf wd) (b o:Nat) (hb:b<base) (u:Value):Wrt (w.setCell ⟨b,o,none⟩ u) base g v os aA nm lf wd:=by
 have aB:w.grownBy (w.setCell ⟨b,o,none⟩ u) (some b):=⟨rfl,rfl,rfl,by simp [World.setCell],fun k _ hk=>Below.heap_setCell _ _ _ k (fun e=>hk (by rw [e]))⟩;refine ⟨h.row.other _ (by show b≠g;have:=h.ge;omega) _,h.own.kept aB ?_,h.ge,h.ne⟩
 cases hk:v.ownBlock with
 | none=>exact .inl rfl
 | some k =>
  refine .inr fun e=>?_
  cases e
  have:=(h.own.lt b hk).1;omega
theorem Wrt.sl {w:World} {base g:Nat} {v:Value} {os:List OpT} {aA nm lf wd:Int} (h:Wrt w base g v os aA nm lf wd):∃ va vc,v=Value.slice va os.length vc:=by
 rcases yUO h.own with ⟨e1,e2⟩ | ⟨g,cap,e1,_⟩
 ·exact ⟨none,0,by rw [e1,e2]⟩
 ·exact ⟨_,cap,e1⟩
theorem Wrt.count {w:World} {base g:Nat} {v:Value} {os:List OpT} {aA nm lf wd:Int} {x y:Int} (h:Wrt w base g v os aA nm lf wd):Wrt ((w.setCell ⟨g,1,none⟩ (.int .i64 x)).setCell ⟨g,2,none⟩ (.int .i64 y)) base g v os x y lf wd:=by
 refine ⟨(h.row.set 1 (by simp) (.int .i64 x)).set 2 (by simp) (.int .i64 y),?_,h.ge,h.ne⟩;have aB:w.grownBy ((w.setCell ⟨g,1,none⟩ (.int .i64 x)).setCell ⟨g,2,none⟩ (.int .i64 y)) (some g):=⟨rfl,rfl,rfl,by simp [World.setCell],fun k _ hk=>(Below.heap_setCell _ _ _ k (fun e=>hk (by rw [e]))).trans (Below.heap_setCell _ _ _ k (fun e=>hk (by rw [e])))⟩;exact h.own.kept aB (.inr h.ne)
structure WK (g:Nat) (w:World) (v:Value) (w':World) (v':Value):Prop where
 size:w.heap.size<=w'.heap.size
 own:∀ k,v'.ownBlock=some k->v.ownBlock=some k\/w.heap.size<=k
 blk:∀ b,b<w.heap.size->b≠g->some b≠v.ownBlock->w'.heap[b]?=w.heap[b]?
theorem WK.start (g:Nat) (w:World) (v:Value):WK g w v w v:=⟨Nat.le_refl _,fun _ h=>.inl h,fun _ _ _ _=>rfl⟩
theorem WK.trans {g:Nat} {w w1 w2:World} {v v1 v2:Value} (h:WK g w v w1 v1) (k:WK g w1 v1 w2 v2):WK g w v w2 v2 :=
 ⟨Nat.le_trans h.size k.size,fun j hj=>(k.own j hj).elim (h.own j) (fun e=>.inr (Nat.le_trans h.size e)),fun b hb h1 h2=>(k.blk b (Nat.lt_of_lt_of_le hb h.size) h1 (fun e=>(h.own b e.symm).elim (fun e=>h2 e.symm) (fun e=>by omega))).trans (h.blk b hb h1 h2)⟩
theorem WK.below {g:Nat} {w w1 w2:World} {v v1:Value} (h:WK g w v w1 v1) (k:Below w1.heap.size w1 w2):WK g w v w2 v1:=h.trans ⟨k.size,fun _ h=>.inl h,fun b hb _ _=>k.block b hb⟩
theorem Row.wk {w w':World} {k g:Nat} {v v':Value} {cs:List Value} (h:Row w k cs) (hk:WK g w v w' v') (h1:k≠g) (h2:some k≠v.ownBlock):Row w' k cs:=by
 have e:=hk.blk k h.lt h1 h2;refine ⟨Nat.lt_of_lt_of_le h.lt hk.size,fun i v hv=>(?_:w'.cell? ⟨k,i,none⟩=some v),fun i hi=>?_⟩
 ·rw [<-h.cell i v hv];simp [World.cell?,e]
 ·rw [<-h.froz i hi];simp [World.frozen?,e]
theorem xMy {w w':World} {base:Nat} {e:TypeId} {s:Nat} {v:Value} {n:Nat} {xs:List Value} (h:w.ownsRow base e s v n xs) (hk:∀ b,base<=b->b<w.heap.size->w'.heap[b]?=w.heap[b]?):w'.ownsRow base e s v n xs:=by
 refine ⟨h.1,?_⟩;rcases h.2 with hn | ⟨g,cap,aC,rfl,hb,aB,aA⟩
 ·exact .inl hn
 ·exact .inr ⟨g,cap,aC,rfl,hb,(hk g hb (Array.getElem?_eq_some_iff.1 aB).1).trans aB,aA⟩
theorem Row.below2 {w w':World} {N g:Nat} {cs:List Value} (h:Row w g cs) (hg:g<N) (hb:Below N w w'):Row w' g cs :=
 ⟨Nat.lt_of_lt_of_le h.lt hb.size,fun i v hv=>(hb.cell (p:=⟨g,i,none⟩) hg).trans (h.cell i v hv),fun i hi=>(hb.frozen (p:=⟨g,i,none⟩) hg).trans (h.froz i hi)⟩
end Go.Proofs.YtcdojnnkjeakmaaGreatDoor
