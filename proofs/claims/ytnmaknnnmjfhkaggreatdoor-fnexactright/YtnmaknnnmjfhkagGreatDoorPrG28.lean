import Derived.Deep.RegionHeld
import Derived.Test.YtnmaknnnmjfhkagGreatDoorPrG43
import Derived.Test.YtnmaknnnmjfhkagGreatDoorPrG36
import Derived.Test.YtnmaknnnmjfhkagGreatDoorPrG34
import Derived.Test.YtnmaknnnmjfhkagGreatDoorPrG44
import Derived.ChangeKeysEq
import Derived.Laws.BytesArg
import Derived.Laws.IdiomStrings
import Derived.Test.YtnmaknnnmjfhkagGreatDoorProg
import Derived.SliceStrings
import Derived.Deep.SlicePairs
import Derived.ProofKit
import Derived.ChangeOld
import Derived.Deep.Slices
import Derived.Lib.SmallJoins
set_option maxHeartbeats 16000000
set_option maxRecDepth 8000
set_option linter.unusedVariables false
set_option linter.unusedSimpArgs false
namespace Go.Proofs.YtnmaknnnmjfhkagGreatDoor
open Go.RowKit
structure B4 (w:World) (B:Nat) (v0 v1 v2 v3:Value):Prop where
 lt:B<w.heap.size
 c0:w.cell? ⟨B,0,none⟩=some v0
 c1:w.cell? ⟨B,1,none⟩=some v1
 c2:w.cell? ⟨B,2,none⟩=some v2
 c3:w.cell? ⟨B,3,none⟩=some v3
 f0:w.frozen? ⟨B,0,none⟩=false
 f1:w.frozen? ⟨B,1,none⟩=false
 f2:w.frozen? ⟨B,2,none⟩=false
 f3:w.frozen? ⟨B,3,none⟩=false
section
variable {w w':World} {B:Nat} {v0 v1 v2 v3:Value}
theorem B4.past (h:B4 w B v0 v1 v2 v3) {N:Nat} (hN:B<N) (hb:Below N w w'):B4 w' B v0 v1 v2 v3:=by
 have hc:∀ i,w'.cell? ⟨B,i,none⟩=w.cell? ⟨B,i,none⟩:=fun i=>hb.cell (p:=⟨B,i,none⟩) hN
 have hf:∀ i,w'.frozen? ⟨B,i,none⟩=w.frozen? ⟨B,i,none⟩:=fun i=>hb.frozen (p:=⟨B,i,none⟩) hN
 exact ⟨Nat.lt_of_lt_of_le h.lt hb.size,(hc _).trans h.c0,(hc _).trans h.c1,(hc _).trans h.c2,(hc _).trans h.c3,(hf _).trans h.f0,(hf _).trans h.f1,(hf _).trans h.f2,(hf _).trans h.f3⟩
theorem B4.below (h:B4 w B v0 v1 v2 v3) (hb:Below w.heap.size w w'):B4 w' B v0 v1 v2 v3:=h.past h.lt hb
theorem B4.drew (h:B4 w B v0 v1 v2 v3):B4 w.drew B v0 v1 v2 v3:=⟨h.lt,h.c0,h.c1,h.c2,h.c3,h.f0,h.f1,h.f2,h.f3⟩
theorem B4.alloc (h:B4 w B v0 v1 v2 v3) (o:Obj):B4 (w.alloc o) B v0 v1 v2 v3:=h.below ((Below.refl _ _).alloc (Nat.le_refl _) _)
theorem B4.new (w:World) (v0 v1 v2 v3:Value) (t:TypeId):B4 (w.alloc (.cells #[v0,v1,v2,v3] t)) w.heap.size v0 v1 v2 v3:=by
 refine ⟨by simp,?_,?_,?_,?_,?_,?_,?_,?_⟩<;>first | (simp;done) | (rw [frozen?_alloc_cells];exact frozen_past _ _ _ (Nat.le_refl _))
end
def cvl (w:World) (p:Addr):Value:=(w.cell? p).getD (.int .i64 0)
theorem cvl_some {w:World} {p:Addr} (h:(w.cell? p).isSome=true):w.cell? p=some (cvl w p):=by
 unfold cvl
 cases e:w.cell? p with
 | none=>rw [e] at h;exact absurd h (by simp)
 | some v=>rfl
theorem cvl_is {w:World} {p:Addr} {v:Value} (h:w.cell? p=some v):(w.cell? p).isSome=true:=by rw [h];rfl
def KR (W:World) (R B:Nat) (v0 v1 v2 v3:Value) (w:World):Prop :=
 w.cell? ⟨B,0,none⟩=some v0/\w.cell? ⟨B,1,none⟩=some v1/\w.cell? ⟨B,2,none⟩=some v2/\w.cell? ⟨B,3,none⟩=some v3/\w.cell? ⟨R,0,none⟩=some (cvl w ⟨R,0,none⟩)/\w.cell? ⟨R,1,none⟩=some (cvl w ⟨R,1,none⟩)/\w.cell? ⟨R,2,none⟩=some (cvl w ⟨R,2,none⟩)/\w.cell? ⟨R,3,none⟩=some (cvl w ⟨R,3,none⟩)/\w.frozen? ⟨R,0,none⟩=false/\w.frozen? ⟨R,1,none⟩=false/\w.frozen? ⟨R,2,none⟩=false/\w.frozen? ⟨R,3,none⟩=false/\Below W.heap.size W w/\R<w.heap.size/\B<w.heap.size/\R≠B/\W.heap.size<=R
section
variable {W w w':World} {R B:Nat} {v0 v1 v2 v3 u0 u1 u2 u3:Value}
theorem KR.of (hB:B4 w B v0 v1 v2 v3) (hR:B4 w R u0 u1 u2 u3) (hb:Below W.heap.size W w) (hne:R≠B) (hW:W.heap.size<=R):KR W R B v0 v1 v2 v3 w :=
 ⟨hB.c0,hB.c1,hB.c2,hB.c3,cvl_some (cvl_is hR.c0),cvl_some (cvl_is hR.c1),cvl_some (cvl_is hR.c2),cvl_some (cvl_is hR.c3),hR.f0,hR.f1,hR.f2,hR.f3,hb,hR.lt,hB.lt,hne,hW⟩
theorem KR.below (h:KR W R B v0 v1 v2 v3 w) (hb:Below w.heap.size w w'):KR W R B v0 v1 v2 v3 w':=by
 obtain ⟨a0,a1,a2,a3,c0,c1,c2,c3,f0,f1,f2,f3,hW,hR,hB,hne,hle⟩:=h
 have cR:∀ i,w'.cell? ⟨R,i,none⟩=w.cell? ⟨R,i,none⟩:=fun i=>hb.cell (p:=⟨R,i,none⟩) hR
 have cB:∀ i,w'.cell? ⟨B,i,none⟩=w.cell? ⟨B,i,none⟩:=fun i=>hb.cell (p:=⟨B,i,none⟩) hB
 have fR:∀ i,w'.frozen? ⟨R,i,none⟩=w.frozen? ⟨R,i,none⟩:=fun i=>hb.frozen (p:=⟨R,i,none⟩) hR
 exact ⟨(cB _).trans a0,(cB _).trans a1,(cB _).trans a2,(cB _).trans a3,cvl_some (by rw [cR];exact cvl_is c0),cvl_some (by rw [cR];exact cvl_is c1),cvl_some (by rw [cR];exact cvl_is c2),cvl_some (by rw [cR];exact cvl_is c3),(fR _).trans f0,(fR _).trans f1,(fR _).trans f2,(fR _).trans f3,hW.trans (hb.mono (Nat.le_trans hle (Nat.le_of_lt hR))),Nat.lt_of_lt_of_le hR hb.size,Nat.lt_of_lt_of_le hB hb.size,hne,hle⟩
theorem KR.drew (h:KR W R B v0 v1 v2 v3 w):KR W R B v0 v1 v2 v3 w.drew:=h.below ((Below.refl _ _).drew)
theorem KR.set (h:KR W R B v0 v1 v2 v3 w) (j:Nat) (v:Value):KR W R B v0 v1 v2 v3 (w.setCell ⟨R,j,none⟩ v):=by
 obtain ⟨a0,a1,a2,a3,c0,c1,c2,c3,f0,f1,f2,f3,hW,hR,hB,hne,hle⟩:=h
 have hs:∀ p,(w.cell? p).isSome=true->((w.setCell ⟨R,j,none⟩ v).cell? p).isSome=true:=fun p hp=>by
  by_cases e:(⟨R,j,none⟩:Addr)=p
  ·subst e
   obtain ⟨u,hu⟩:=Option.isSome_iff_exists.1 hp
   rw [World.cell?_setCell_same (w:=w) (h:=hu)];rfl
  ·rw [World.cell?_setCell_other (w:=w) (h:=e)];exact hp
 have cB:∀ i,(w.setCell ⟨R,j,none⟩ v).cell? ⟨B,i,none⟩=w.cell? ⟨B,i,none⟩:=fun i=>World.cell?_setCell_far _ _ _ _ hne
 exact ⟨(cB _).trans a0,(cB _).trans a1,(cB _).trans a2,(cB _).trans a3,cvl_some (hs _ (cvl_is c0)),cvl_some (hs _ (cvl_is c1)),cvl_some (hs _ (cvl_is c2)),cvl_some (hs _ (cvl_is c3)),by rw [World.frozen?_setCell];exact f0,by rw [World.frozen?_setCell];exact f1,by rw [World.frozen?_setCell];exact f2,by rw [World.frozen?_setCell];exact f3,hW.setCell hle _,by rw [World.size_setCell];exact hR,by rw [World.size_setCell];exact hB,hne,hle⟩
end
end Go.Proofs.YtnmaknnnmjfhkagGreatDoor
namespace Go.Proofs.YtnmaknnnmjfhkagGreatDoor
structure Wr (p:Prop):Prop where
 out:p
end Go.Proofs.YtnmaknnnmjfhkagGreatDoor
namespace Go.Proofs.YtnmaknnnmjfhkagGreatDoor
open Go.RowKit
structure Dep (w:World) (lo hi:Nat) (F:World->Prop):Prop where
 now:F w
 top:hi<=w.heap.size
 keep:∀ w':World,(∀ b,lo<=b->b<hi->w'.heap[b]?=w.heap[b]?)->hi<=w'.heap.size->F w'
theorem Dep.below {w w':World} {lo hi:Nat} {F:World->Prop} (h:Dep w lo hi F) (hb:Below w.heap.size w w'):Dep w' lo hi F :=
 ⟨h.keep w' (fun b _ h2=>hb.block b (Nat.lt_of_lt_of_le h2 h.top)) (Nat.le_trans h.top hb.size),Nat.le_trans h.top hb.size,fun w2 h2 h3=>h.keep w2 (fun b h4 h5=>(h2 b h4 h5).trans (hb.block b (Nat.lt_of_lt_of_le h5 h.top))) h3⟩
theorem Dep.grown {w w':World} {lo hi:Nat} {F:World->Prop} {r:Option Nat} (h:Dep w lo hi F) (hg:w.grownBy w' r) (hr:∀ g,r=some g->g<lo\/hi<=g):Dep w' lo hi F:=by
 have key:∀ b,lo<=b->b<hi->w'.heap[b]?=w.heap[b]?:=fun b h1 h2=>hg.block b (Nat.lt_of_lt_of_le h2 h.top) (fun e=>by have:=hr b e.symm;omega)
 exact ⟨h.keep w' key (Nat.le_trans h.top hg.size),Nat.le_trans h.top hg.size,fun w2 h2 h3=>h.keep w2 (fun b h4 h5=>(h2 b h4 h5).trans (key b h4 h5)) h3⟩
theorem Dep.and {w:World} {lo hi:Nat} {F G:World->Prop} (h:Dep w lo hi F) (k:Dep w lo hi G):Dep w lo hi (fun w=>F w/\G w):=⟨⟨h.now,k.now⟩,h.top,fun w' h1 h2=>⟨h.keep w' h1 h2,k.keep w' h1 h2⟩⟩
theorem Dep.wide {w:World} {lo hi lo' hi':Nat} {F:World->Prop} (h:Dep w lo hi F) (h1:lo'<=lo) (h2:hi<=hi') (h3:hi'<=w.heap.size):Dep w lo' hi' F:=⟨h.now,h3,fun w' k1 k2=>h.keep w' (fun b a c=>k1 b (by omega) (by omega)) (by omega)⟩
theorem row_same {w w':World} {g:Nat} {cs:List Value} (h:Row w g cs) (e:w'.heap[g]?=w.heap[g]?) (hs:g<w'.heap.size):Row w' g cs :=
 ⟨hs,fun i v hv=>by rw [<-h.cell i v hv];simp [World.cell?,e],fun i hi=>by rw [<-h.froz i hi];simp [World.frozen?,e]⟩
theorem dep_row {w:World} {g lo hi:Nat} {cs:List Value} (h:Row w g cs) (h1:lo<=g) (h2:g<hi) (h3:hi<=w.heap.size):Dep w lo hi (fun w=>Row w g cs):=⟨h,h3,fun w' k1 k2=>row_same h (k1 g h1 h2) (by omega)⟩
theorem dep_own {w:World} {a:Option Addr} {lo n:Nat} {cs:List Value} (h:OwnS w a cs) (hn:cs≠[]->n≠0) (h1:∀ g,blk a n=some g->lo<=g):Dep w lo w.heap.size (fun w=>OwnS w a cs) :=
 ⟨h,Nat.le_refl _,fun w' k1 k2=>by
  by_cases h0:cs=[]
  ·exact .inl h0
  ·obtain ⟨g,rfl,hr⟩:=h.resolve_left h0
   exact .inr ⟨g,rfl,row_same hr (k1 g (h1 g (blk_pos _ _ _ (hn h0))) hr.lt) (Nat.lt_of_lt_of_le hr.lt k2)⟩⟩
theorem Dep.cut {w:World} {a:Option Addr} {lo hi:Nat} {cs:List Value} (h:Dep w lo w.heap.size (fun w=>OwnS w a cs)) (h1:∀ g,a=some ⟨g,0,none⟩->cs≠[]->g<hi) (h2:hi<=w.heap.size) (h3:∀ g,a=some ⟨g,0,none⟩->cs≠[]->lo<=g):Dep w lo hi (fun w=>OwnS w a cs) :=
 ⟨h.now,h2,fun w' k1 k2=>by
  by_cases h0:cs=[]
  ·exact .inl h0
  ·obtain ⟨g,rfl,hr⟩:=h.now.resolve_left h0
   exact .inr ⟨g,rfl,row_same hr (k1 g (h3 g rfl h0) (h1 g rfl h0)) (Nat.lt_of_lt_of_le (h1 g rfl h0) k2)⟩⟩
theorem blk_is {g n k:Nat} (h:blk (some ⟨g,0,none⟩) n=some k):k=g:=by
 unfold blk at h
 split at h
 ·cases h
 ·simp at h;exact h.symm
theorem Dep.low {w w':World} {lo hi N:Nat} {F:World->Prop} (h:Dep w lo hi F) (hb:Below N w w') (hN:hi<=N):Dep w' lo hi F :=
 ⟨h.keep w' (fun b _ h2=>hb.block b (by omega)) (Nat.le_trans h.top hb.size),Nat.le_trans h.top hb.size,fun w2 h2 h3=>h.keep w2 (fun b h4 h5=>(h2 b h4 h5).trans (hb.block b (by omega))) h3⟩
theorem dep_box (w:World) (A:Array Value) (t:TypeId):Dep (w.alloc (.cells A t)) w.heap.size (w.heap.size+1) (fun W=>Row W w.heap.size A.toList):=dep_row (row_new w A t) (Nat.le_refl _) (by omega) (by simp)
theorem bx1 {w v:World} {A:Array Value} {t:TypeId} (e:w.alloc (.cells A t)=v):Below w.heap.size w v/\v.heap.size=w.heap.size+1/\Dep v w.heap.size (w.heap.size+1) (fun W=>Row W w.heap.size A.toList):=by
 subst e
 exact ⟨(Below.refl _ _).alloc (Nat.le_refl _) _,by simp,dep_row (row_new w A t) (Nat.le_refl _) (by omega) (by simp)⟩
theorem dep_at {w:World} {g:Nat} {cs:List Value} (h:Row w g cs):Dep w g (g+1) (fun W=>Row W g cs):=dep_row h (Nat.le_refl _) (by omega) (by have:=h.lt;omega)
theorem c10 {w:World} {g:Nat} {a0 a1 a2 a3 a4 a5 a6 a7 a8 a9:Value} (h:Row w g [a0,a1,a2,a3,a4,a5,a6,a7,a8,a9]):w.cell? ⟨g,0,none⟩=some a0/\w.cell? ⟨g,1,none⟩=some a1/\w.cell? ⟨g,2,none⟩=some a2/\w.cell? ⟨g,3,none⟩=some a3/\w.cell? ⟨g,4,none⟩=some a4/\w.cell? ⟨g,5,none⟩=some a5/\w.cell? ⟨g,6,none⟩=some a6/\w.cell? ⟨g,7,none⟩=some a7/\w.cell? ⟨g,8,none⟩=some a8/\w.cell? ⟨g,9,none⟩=some a9/\g<w.heap.size :=
 ⟨h.cell 0 _ rfl,h.cell 1 _ rfl,h.cell 2 _ rfl,h.cell 3 _ rfl,h.cell 4 _ rfl,h.cell 5 _ rfl,h.cell 6 _ rfl,h.cell 7 _ rfl,h.cell 8 _ rfl,h.cell 9 _ rfl,h.lt⟩
theorem c12 {w:World} {g:Nat} {a0 a1 a2 a3 a4 a5 a6 a7 a8 a9 a10 a11:Value} (h:Row w g [a0,a1,a2,a3,a4,a5,a6,a7,a8,a9,a10,a11]):w.cell? ⟨g,0,none⟩=some a0/\w.cell? ⟨g,1,none⟩=some a1/\w.cell? ⟨g,2,none⟩=some a2/\w.cell? ⟨g,3,none⟩=some a3/\w.cell? ⟨g,4,none⟩=some a4/\w.cell? ⟨g,5,none⟩=some a5/\w.cell? ⟨g,6,none⟩=some a6/\w.cell? ⟨g,7,none⟩=some a7/\w.cell? ⟨g,8,none⟩=some a8/\w.cell? ⟨g,9,none⟩=some a9/\w.cell? ⟨g,10,none⟩=some a10/\w.cell? ⟨g,11,none⟩=some a11/\g<w.heap.size :=
 ⟨h.cell 0 _ rfl,h.cell 1 _ rfl,h.cell 2 _ rfl,h.cell 3 _ rfl,h.cell 4 _ rfl,h.cell 5 _ rfl,h.cell 6 _ rfl,h.cell 7 _ rfl,h.cell 8 _ rfl,h.cell 9 _ rfl,h.cell 10 _ rfl,h.cell 11 _ rfl,h.lt⟩
theorem c16 {w:World} {g:Nat} {a0 a1 a2 a3 a4 a5 a6 a7 a8 a9 a10 a11 a12 a13 a14 a15:Value} (h:Row w g [a0,a1,a2,a3,a4,a5,a6,a7,a8,a9,a10,a11,a12,a13,a14,a15]):w.cell? ⟨g,0,none⟩=some a0/\w.cell? ⟨g,1,none⟩=some a1/\w.cell? ⟨g,2,none⟩=some a2/\w.cell? ⟨g,3,none⟩=some a3/\w.cell? ⟨g,4,none⟩=some a4/\w.cell? ⟨g,5,none⟩=some a5/\w.cell? ⟨g,6,none⟩=some a6/\w.cell? ⟨g,7,none⟩=some a7/\w.cell? ⟨g,8,none⟩=some a8/\w.cell? ⟨g,9,none⟩=some a9/\w.cell? ⟨g,10,none⟩=some a10/\w.cell? ⟨g,11,none⟩=some a11/\w.cell? ⟨g,12,none⟩=some a12/\w.cell? ⟨g,13,none⟩=some a13/\w.cell? ⟨g,14,none⟩=some a14/\w.cell? ⟨g,15,none⟩=some a15/\g<w.heap.size :=
 ⟨h.cell 0 _ rfl,h.cell 1 _ rfl,h.cell 2 _ rfl,h.cell 3 _ rfl,h.cell 4 _ rfl,h.cell 5 _ rfl,h.cell 6 _ rfl,h.cell 7 _ rfl,h.cell 8 _ rfl,h.cell 9 _ rfl,h.cell 10 _ rfl,h.cell 11 _ rfl,h.cell 12 _ rfl,h.cell 13 _ rfl,h.cell 14 _ rfl,h.cell 15 _ rfl,h.lt⟩
def Pst (w:World) (a:Option Addr) (P:List (List (ByteArray×ByteArray))):Prop :=
 P=[]\/∃ b o,a=some ⟨b,o,none⟩/\b<w.heap.size/\∀ i,i<P.length->∃ p c,w.cell? ⟨b,o+i,none⟩=some (.slice p (P.getD i []).length c)/\Prs w p (P.getD i [])
theorem Pst.below {w w':World} {a:Option Addr} {P:List (List (ByteArray×ByteArray))} (h:Pst w a P) (hb:Below w.heap.size w w'):Pst w' a P:=by
 rcases h with h | ⟨b,o,h1,h2,h3⟩
 ·exact .inl h
 ·refine .inr ⟨b,o,h1,Nat.lt_of_lt_of_le h2 hb.size,fun i hi=>?_⟩
  obtain ⟨p,c,h4,h5⟩:=h3 i hi
  exact ⟨p,c,(hb.cell (p:=⟨b,o+i,none⟩) h2).trans h4,h5.below hb⟩
theorem Pst.at {w:World} {a:Option Addr} {P:List (List (ByteArray×ByteArray))} (h:Pst w a P) {k:Nat} (hk:k<P.length):∃ b o p c,a=some ⟨b,o,none⟩/\b<w.heap.size/\w.cell? ⟨b,o+k,none⟩=some (.slice p (P.getD k []).length c)/\Hid (Prs w p (P.getD k [])):=by
 rcases h with h | ⟨b,o,h1,h2,h3⟩
 ·subst h;simp at hk
 ·obtain ⟨p,c,h4,h5⟩:=h3 k hk
  exact ⟨b,o,p,c,h1,h2,h4,hid h5⟩
def stsz (rs:List (ByteArray×ByteArray)):List Nat:=rs.length::rs.flatMap prsz
def pcs (P:List (List (ByteArray×ByteArray))) (gs:Nat->Nat) (k:Nat):List Value:=(List.range P.length).map fun i=>if i<k then .slice (some ⟨gs i,0,none⟩) (P.getD i []).length (P.getD i []).length else .slice none 0 0
theorem pcs_length (P:List (List (ByteArray×ByteArray))) (gs:Nat->Nat) (k:Nat):(pcs P gs k).length=P.length:=by simp [pcs]
theorem pcs_set (P:List (List (ByteArray×ByteArray))) (gs:Nat->Nat) (k g:Nat) (h:k<P.length):(pcs P gs k).set k (.slice (some ⟨g,0,none⟩) (P.getD k []).length (P.getD k []).length)=pcs P (fun i=>if i=k then g else gs i) (k+1):=by
 apply List.ext_getElem
 ·simp [pcs]
 ·intro i h1 h2
  rw [List.getElem_set]
  by_cases e:k=i
  ·subst e
   simp [pcs]
  ·rw [if_neg e]
   simp only [pcs,List.getElem_map,List.getElem_range]
   by_cases h3:i<k
   ·rw [if_pos h3,if_pos (by omega),if_neg (fun x=>e x.symm)]
   ·rw [if_neg h3,if_neg (by omega)]
theorem made_pcs (P:List (List (ByteArray×ByteArray))) (gs:Nat->Nat):(madeCells (Value.agg #[.slice none 0 0]).cells (P.length*1)).toList=pcs P gs 0:=by
 unfold madeCells pcs
 rw [Array.toList_map,Array.toList_range,Nat.mul_one]
 refine List.map_congr_left fun i _=>?_
 rw [if_neg (by omega)]
 simp [Value.cells,Nat.mod_one]
structure OwnP (w:World) (g:Nat) (P:List (List (ByteArray×ByteArray))) (gs:Nat->Nat) (k:Nat):Prop where
 row:Row w g (pcs P gs k)
 st:∀ i,i<k->Row w (gs i) (prcells (P.getD i []))/\g<gs i
 asc:∀ i j,i<j->j<k->gs i<gs j
theorem OwnP.below {w w':World} {g k:Nat} {P:List (List (ByteArray×ByteArray))} {gs:Nat->Nat} (h:OwnP w g P gs k) (hb:Below w.heap.size w w'):OwnP w' g P gs k :=
 ⟨h.row.below hb,fun i hi=>⟨(h.st i hi).1.below hb,(h.st i hi).2⟩,h.asc⟩
theorem OwnP.push {w w':World} {g k g1:Nat} {P:List (List (ByteArray×ByteArray))} {gs:Nat->Nat} (h:OwnP w g P gs k) (hb:Below w.heap.size w w') (hg:w.heap.size<=g1) (hr:Row w' g1 (prcells (P.getD k []))) (hk:k<P.length) :
  OwnP (w'.setCell ⟨g,k,none⟩ (.slice (some ⟨g1,0,none⟩) (P.getD k []).length (P.getD k []).length)) g P (fun i=>if i=k then g1 else gs i) (k+1):=by
 have h':=h.below hb
 have hlt:=h.row.lt
 refine ⟨?_,fun i hi=>?_,fun i j hij hj=>?_⟩
 ·rw [<-pcs_set P gs k g1 hk]
  exact h'.row.set k (by rw [pcs_length];exact hk) _
 ·show Row _ (if i=k then g1 else gs i) _/\g<(if i=k then g1 else gs i)
  by_cases e:i=k
  ·subst e
   rw [if_pos rfl]
   exact ⟨hr.other _ (by show g≠g1;omega) _,by omega⟩
  ·rw [if_neg e]
   have:=h'.st i (by omega)
   exact ⟨this.1.other _ (by show g≠gs i;omega) _,this.2⟩
 ·show (if i=k then g1 else gs i)<(if j=k then g1 else gs j)
  rw [if_neg (by omega)]
  by_cases e:j=k
  ·rw [if_pos e]
   have:=(h.st i (by omega)).1.lt
   omega
  ·rw [if_neg e]
   exact h.asc i j hij (by omega)
theorem OwnP.pst {w:World} {g:Nat} {P:List (List (ByteArray×ByteArray))} {gs:Nat->Nat} (h:OwnP w g P gs P.length):Pst w (some ⟨g,0,none⟩) P :=
 .inr ⟨g,0,rfl,h.row.lt,fun i hi=>⟨_,_,by rw [Nat.zero_add];exact h.row.cell i (.slice (some ⟨gs i,0,none⟩) (P.getD i []).length (P.getD i []).length) (by simp [pcs,hi]),(h.st i hi).1.prs⟩⟩
set_option maxHeartbeats 16000000 in
theorem sz_past (a:Option Addr) (P:List (List (ByteArray×ByteArray))) (c:Nat) (left:Int) (w:World) (h:Pst w a P) (h0:0<=left) (h1:left<=1048576) (hl:P.length<=maxLen) (hs:∀ rs∈P,rs.length<=maxLen/\∀ s∈rs,s.1.size<=maxLen/\s.2.size<=maxLen) :
  Calls Tryz.prog 124 #[.slice a P.length c,.int .i64 left] w fun e w'=>e=.returned (.int .i64 (szL (P.length::P.flatMap stsz) left))/\Below w.heap.size w w':=by
 unfold maxLen at hl
 by_cases hn:left-(P.length:Int)<0
 ·have HR:=hid (szL_cons_lt (P.flatMap stsz) hn)
  go_enter Tryz.func124,Tryz.ntmps124
  go_wp2
  go_ret
  exact ⟨ret_int HR.out.symm,Below.refl _ _⟩
 ·have HR:=hid (szL_cons_ge (P.flatMap stsz) hn)
  obtain ⟨R,HE⟩:∃ R,Hid (R=szL (P.length::P.flatMap stsz) left):=⟨_,hid rfl⟩
  rw [<-HE.out]
  go_enter Tryz.func124,Tryz.ntmps124
  go_wp2
  go_loopw [1,5] (fun x i wr=>∃ (k:Nat) (y:Int),k<=P.length/\i=.int .i64 k/\x=.int .i64 y/\0<=y/\y<=1048576/\Hid (szL ((P.drop k).flatMap stsz) y=R)/\Below w.heap.size w wr) (fun _ i _=>P.length-(intOf i).toNat)
  case atStart=>exact ⟨0,_,Nat.zero_le _,rfl,rfl,by omega,by omega,by show _=_;rw [HE.out,HR.out,List.drop_zero],Below.refl _ _⟩
  case round =>
   obtain ⟨k,y,hk,rfl,rfl,hy0,hy1,HZ,hbel⟩:=hrel
   by_cases hlt:k<P.length
   ·obtain ⟨b,o,p,cp,rfl,hb0,hc0,HP⟩:=(h.below hbel).at hlt
    obtain ⟨rs,HRS⟩:∃ rs,Hid (rs=P.getD k []):=⟨_,hid rfl⟩
    rw [<-HRS.out] at hc0 HP
    have hmem:rs∈P:=by rw [HRS.out];simp [List.getD,hlt]
    have HSZ:=hid (sz_state p rs cp wr HP.out y hy0 hy1 (hs rs hmem).1 (hs rs hmem).2)
    unfold stV at HSZ
    obtain ⟨y',HY⟩:∃ y',Hid (y'=szL (rs.length::rs.flatMap prsz) y):=⟨_,hid rfl⟩
    have hbd:=szL_bd (rs.length::rs.flatMap prsz) y hy0
    rw [<-HY.out] at hbd HSZ
    have HD:Hid (szL ((P.drop k).flatMap stsz) y=szL (stsz rs++(P.drop (k+1)).flatMap stsz) y):=by
     show _=_
     rw [drop_at P k [] hlt,<-HRS.out]
     rfl
    by_cases hy:y'<0
    ·have hy2:y'=-1:=by omega
     have HN:=hid (szL_append_no (stsz rs) ((P.drop (k+1)).flatMap stsz) y hy0 (by show szL (rs.length::rs.flatMap prsz) y<0;rw [<-HY.out];exact hy))
     clear hbd
     subst hy2
     go_wp2_with (go_at_call 209;refine HSZ.out.mono ?_;rintro e w2 ⟨rfl,hb2⟩)
     go_ret
     refine ⟨ret_int ?_,hbel.trans (hb2.mono hbel.size)⟩
     rw [<-HZ.out,HD.out,HN.out]
    ·have hy2:0<=y':=by omega
     have hy3:y'<=1048576:=by omega
     have HN:=hid (szL_append_yes (stsz rs) ((P.drop (k+1)).flatMap stsz) y hy0 (by show 0<=szL (rs.length::rs.flatMap prsz) y;rw [<-HY.out];exact hy2))
     clear hbd
     go_wp2_with (go_at_call 209;refine HSZ.out.mono ?_;rintro e w2 ⟨rfl,hb2⟩)
     go_roundw
     case rel=>exact ⟨k+1,_,by omega,by go_num,rfl,by omega,by omega,by show _=_;rw [<-HZ.out,HD.out,HN.out,HY.out];rfl,hbel.trans (hb2.mono hbel.size)⟩
     case measure=>simp [intOf];omega
   ·go_wp2
    go_ret
    refine ⟨ret_int ?_,hbel⟩
    rw [<-HZ.out,List.drop_of_length_le (by omega)]
    rfl
theorem info_st:(Tryz.prog.info? 31).map (fun i=>(i.zero,i.size,i.bytes))=some (some (.agg #[.slice none 0 0]),1,24):=by kernel_rfl
set_option maxHeartbeats 16000000 in
theorem to_past (a:Option Addr) (P:List (List (ByteArray×ByteArray))) (c:Nat) (w:World) (h:Pst w a P) (hl:P.length<=1048576) (hs:∀ rs∈P,rs.length<=1048576) :
  Calls Tryz.prog 128 #[.slice a P.length c] w fun e w'=>∃ g gs,e=.returned (.slice (some ⟨g,0,none⟩) P.length P.length)/\w.heap.size<=g/\OwnP w' g P gs P.length/\Below w.heap.size w w':=by
 go_enter Tryz.func128,Tryz.ntmps128
 go_wp2_with (at_make;refine wpList_make_new rfl _ _ 48 rfl 31 _ 1 _ Tryz.underlying48 info_st P.length rfl rfl (by omega) (by omega) ?_;intro wx hrow hbx hsx;rw [made_pcs P (fun _=>0)] at hrow)
 have hr0:OwnP wx w.heap.size P (fun _=>0) 0:=⟨hrow,fun i hi=>absurd hi (by omega),fun i j _ hj=>absurd hj (by omega)⟩
 clear hrow
 go_loopw [4] (fun i wr=>∃ (k:Nat) (gs:Nat->Nat),k<=P.length/\i=.int .i64 k/\OwnP wr w.heap.size P gs k/\Below w.heap.size w wr) (fun i _=>P.length-(intOf i).toNat)
 case atStart=>exact ⟨0,_,Nat.zero_le _,rfl,hr0,hbx⟩
 case round =>
  obtain ⟨k,gs,hk,rfl,hrow,hbel⟩:=hrel
  by_cases hlt:k<P.length
  ·obtain ⟨b,o,p,cp,rfl,hb0,hc0,HP⟩:=(h.below hbel).at hlt
   obtain ⟨rs,HRS⟩:∃ rs,Hid (rs=P.getD k []):=⟨_,hid rfl⟩
   rw [<-HRS.out] at hc0 HP
   have hmem:rs∈P:=by rw [HRS.out];simp [List.getD,hlt]
   have HT:=hid (to_state p rs cp wr HP.out (hs rs hmem))
   unfold stV at HT
   have HB:=hid hbel
   have HR:=hid hrow
   clear hrow hbel
   go_wp2_with (go_at_call 211;refine HT.out.mono ?_;rintro e w2 ⟨g1,rfl,hg1,hr1,hb2⟩;have hu0:=(HR.out.row.below hb2).cell k _ (List.getElem?_eq_getElem (by rw [pcs_length];exact hlt));have hf0:=(HR.out.row.below hb2).froz k (by rw [pcs_length];exact hlt);have HR1:=hid hr1;clear hr1)
   have HPU:=hid (HR.out.push (k:=k) hb2 hg1 (by rw [<-HRS.out];exact HR1.out) hlt)
   rw [<-HRS.out] at HPU
   go_roundw
   case rel=>exact ⟨k+1,_,by omega,by go_num,HPU.out,(HB.out.trans (hb2.mono HB.out.size)).setCell (Nat.le_refl _) _⟩
   case measure=>simp [intOf];omega
  ·have hkn:k=P.length:=by omega
   subst hkn
   go_wp2
   go_ret
   exact ⟨w.heap.size,gs,rfl,Nat.le_refl _,hrow,hbel⟩
set_option maxHeartbeats 16000000 in
theorem eq_pst (p q:Option Addr) (P:List (List (ByteArray×ByteArray))) (c c':Nat) (w:World) (h:Pst w p P) (h':Pst w q P) (hl:P.length<=1048576) (hs:∀ rs∈P,rs.length<=1048576) :
  Calls Tryz.prog 131 #[.slice p P.length c,.slice q P.length c'] w fun e w'=>e=.returned (.bool true)/\Below w.heap.size w w':=by
 go_enter Tryz.func131,Tryz.ntmps131
 go_wp2
 go_loopw [5] (fun i wr=>∃ k:Nat,k<=P.length/\i=.int .i64 (k:Int)/\Below w.heap.size w wr) (fun i _=>P.length-(intOf i).toNat)
 case atStart=>exact ⟨0,Nat.zero_le _,rfl,Below.refl _ _⟩
 case round =>
  obtain ⟨k,hk,rfl,hbel⟩:=hrel
  by_cases hlt:k<P.length
  ·have hlt':(k:Int)<(P.length:Int):=by omega
   have hk0:(0:Int)<=(k:Int):=by omega
   obtain ⟨g,o,p1,c1,rfl,lg,hc,HP⟩:=(h.below hbel).at hlt
   obtain ⟨g',o',p2,c2,rfl,lg',hc',HP'⟩:=(h'.below hbel).at hlt
   obtain ⟨rs,HRS⟩:∃ rs,Hid (rs=P.getD k []):=⟨_,hid rfl⟩
   rw [<-HRS.out] at hc hc' HP HP'
   have hmem:rs∈P:=by rw [HRS.out];simp [List.getD,hlt]
   have HBL:=hid hbel
   have HE:=hid (eq_state p1 p2 rs c1 c2 wr.drew (HP.out.below (Below.refl _ _).drew) (HP'.out.below (Below.refl _ _).drew) (hs rs hmem))
   unfold stV at HE
   clear hbel
   go_wp2_with fail
   go_region_held3 (fun w'=>w'.cell? ⟨g,o+k,none⟩=some (.slice p1 rs.length c1)/\w'.cell? ⟨g',o'+k,none⟩=some (.slice p2 rs.length c2))
    (first | assumption | exact ⟨hc,hc'⟩ | exact ⟨(hb3.cell (p:=⟨g,o+k,none⟩) lg).trans hc,(hb3.cell (p:=⟨g',o'+k,none⟩) lg').trans hc'⟩)
    (first | (go_at_call 167;refine HE.out.mono ?_;rintro e w3 ⟨rfl,hb3⟩))
   have HB3:=hid (HBL.out.trans ((((Below.refl _ _).drew).trans hb3).mono HBL.out.size))
   clear hb3
   go_wp2
   exact ⟨⟨k+1,by omega,by go_num,HB3.out⟩,by simp [intOf];omega⟩
  ·go_wp2
   go_ret
   exact ⟨rfl,hbel⟩
theorem eqroot' (t h f l:Int) (w:World):Calls Tryz.prog 166 #[.agg #[.int .i64 t,.int .i64 h,.int .i64 f,.int .i64 l],.agg #[.int .i64 t,.int .i64 h,.int .i64 f,.int .i64 l]] w fun e w'=>e=.returned (.bool true)/\Below w.heap.size w w':=by
 go_enter Tryz.func166,Tryz.ntmps166
 go_wp2
 all_goals go_ret
 all_goals exact ⟨rfl,((Below.refl _ _).alloc (Nat.le_refl _) _).alloc (by simp) _⟩
set_option maxHeartbeats 16000000 in
theorem eq_store (W S L T H F R U O:Int) (a b:Option Addr) (rs:List (ByteArray×ByteArray)) (c d:Nat) (w:World) (h1:Prs w a rs) (h2:Prs w b rs) (hl:rs.length<=1048576) :
  Calls Tryz.prog 70 #[storeV W S L T H F R U O a rs.length c,storeV W S L T H F R U O b rs.length d] w fun e w'=>e=.returned (.bool true)/\Below w.heap.size w w':=by
 unfold storeV
 have hb0:∀ o1 o2,Below w.heap.size w ((w.alloc o1).alloc o2):=fun o1 o2=>((Below.refl _ _).alloc (Nat.le_refl _) _).alloc (by simp) _
 go_enter Tryz.func70,Tryz.ntmps70
 go_wp2_with (first | (go_at_call 166;refine (eqroot' T H F R _).mono ?_;rintro e w1 ⟨rfl,hb1⟩;have HB1:=hid ((hb0 _ _).trans (hb1.mono (by simp<;>omega)));have w1p7:w1.cell? ⟨w.heap.size,7,none⟩=some (.int .i64 U):=(hb1.cell (p:=⟨w.heap.size,7,none⟩) (by simp<;>omega)).trans (by go_simp);have w1p8:w1.cell? ⟨w.heap.size,8,none⟩=some (.int .i64 O):=(hb1.cell (p:=⟨w.heap.size,8,none⟩) (by simp<;>omega)).trans (by go_simp);have w1p9:w1.cell? ⟨w.heap.size,9,none⟩=some (.slice a rs.length c):=(hb1.cell (p:=⟨w.heap.size,9,none⟩) (by simp<;>omega)).trans (by go_simp);have w1q7:w1.cell? ⟨w.heap.size+1,7,none⟩=some (.int .i64 U):=(hb1.cell (p:=⟨w.heap.size+1,7,none⟩) (by simp<;>omega)).trans (by go_simp);have w1q8:w1.cell? ⟨w.heap.size+1,8,none⟩=some (.int .i64 O):=(hb1.cell (p:=⟨w.heap.size+1,8,none⟩) (by simp<;>omega)).trans (by go_simp);have w1q9:w1.cell? ⟨w.heap.size+1,9,none⟩=some (.slice b rs.length d):=(hb1.cell (p:=⟨w.heap.size+1,9,none⟩) (by simp<;>omega)).trans (by go_simp);clear hb1) | (go_at_call 167;refine (eq_state a b rs c d _ (h1.below HB1.out) (h2.below HB1.out) hl).mono ?_;rintro e w2 ⟨rfl,hb2⟩))
 go_ret
 exact ⟨rfl,HB1.out.trans (hb2.mono HB1.out.size)⟩
end Go.Proofs.YtnmaknnnmjfhkagGreatDoor
namespace Go.Proofs.YtnmaknnnmjfhkagGreatDoor
open Go.RowKit
structure RI (W w:World) (c0 c1 c2 c3:Value):Prop where
 size:W.heap.size+2<=w.heap.size
 bel:Below W.heap.size W w
 b0:w.cell? ⟨W.heap.size,0,none⟩=some c0
 b1:w.cell? ⟨W.heap.size,1,none⟩=some c1
 b2:w.cell? ⟨W.heap.size,2,none⟩=some c2
 b3:w.cell? ⟨W.heap.size,3,none⟩=some c3
section
variable {W w w':World} {c0 c1 c2 c3:Value}
theorem RI.drew (h:RI W w c0 c1 c2 c3):RI W w.drew c0 c1 c2 c3:=⟨h.size,h.bel.drew,h.b0,h.b1,h.b2,h.b3⟩
theorem RI.past (h:RI W w c0 c1 c2 c3) (hb:Below (W.heap.size+1) w w'):RI W w' c0 c1 c2 c3 :=
 have hs:=h.size
 ⟨Nat.le_trans hs hb.size,h.bel.trans (hb.mono (by omega)),(hb.cell (p:=⟨_,0,none⟩) (by show W.heap.size<_;omega)).trans h.b0,(hb.cell (p:=⟨_,1,none⟩) (by show W.heap.size<_;omega)).trans h.b1,
  (hb.cell (p:=⟨_,2,none⟩) (by show W.heap.size<_;omega)).trans h.b2,(hb.cell (p:=⟨_,3,none⟩) (by show W.heap.size<_;omega)).trans h.b3⟩
theorem RI.below (h:RI W w c0 c1 c2 c3) (hb:Below w.heap.size w w'):RI W w' c0 c1 c2 c3:=h.past (hb.mono (by have:=h.size;omega))
theorem RI.wrote {o:Nat} {ys:List Int} (h:RI W w c0 c1 c2 c3) (hw:Wrote w w' (W.heap.size+1) o ys):RI W w' c0 c1 c2 c3:=h.past (hw.below (Nat.le_refl _))
theorem RI.toS (h:RI W w c0 c1 c2 c3):w.cell? ⟨W.heap.size,0,none⟩=some c0/\w.cell? ⟨W.heap.size,1,none⟩=some c1/\w.cell? ⟨W.heap.size,2,none⟩=some c2/\w.cell? ⟨W.heap.size,3,none⟩=some c3/\RI W w c0 c1 c2 c3:=⟨h.b0,h.b1,h.b2,h.b3,h⟩
theorem RI.ofS (h:w.cell? ⟨W.heap.size,0,none⟩=some c0/\w.cell? ⟨W.heap.size,1,none⟩=some c1/\w.cell? ⟨W.heap.size,2,none⟩=some c2/\w.cell? ⟨W.heap.size,3,none⟩=some c3/\RI W w c0 c1 c2 c3):RI W w c0 c1 c2 c3:=h.2.2.2.2
end
theorem wp_start5 {P:Program} {c:Code} {Q:Exit->Act->World->Prop} {a:Act} (w:World) (c0 c1 c2 c3:Value) (t1 t2:TypeId)
  (h:∀ wa,RI w wa c0 c1 c2 c3->Fm wa (w.heap.size+1) [0,0,0,0,0]->c.wp P Q a wa) :
  c.wp P Q a ((w.alloc (.cells #[c0,c1,c2,c3] t1)).alloc (.cells #[.int .u8 0,.int .u8 0,.int .u8 0,.int .u8 0,.int .u8 0] t2)):=by
 refine h _ ⟨by simp,((Below.refl _ _).alloc (Nat.le_refl _) _).alloc (by simp) _,by simp,by simp,by simp,by simp⟩ ⟨fun i hi=>?_,fun i hi=>?_⟩
 ·rw [World.cell?_alloc_at _ _ _ _ (by simp)]
  have hi':i<5:=hi
  have:i=0\/i=1\/i=2\/i=3\/i=4:=by omega
  rcases this with h | h | h | h | h<;>subst h<;>rfl
 ·rw [frozen?_alloc_cells,frozen?_alloc_cells]
  exact frozen_past _ _ _ (by omega)
theorem rt_list (h f:Int) {xs1 xs2:List Int} (h1:xs1=spl [0,0,0,0,0] 0 (be 1 h)) (h2:xs2=spl xs1 1 (be 4 f)):strOfNums xs2=rtPart h f:=by
 have a1:(be 1 h).length=1:=be_length _ _
 have a2:(be 4 f).length=4:=be_length _ _
 unfold rtPart
 rw [<-strOfNums_append]
 subst h1 h2
 congr 1
theorem rootpage_i_no (t h f l n:Int) (w:World) (hno:¬ rtOk h f):Calls Tryz.prog 227 #[rootV t h f l,.int .i64 n] w fun e w'=>e=.returned (.string ByteArray.empty)/\Below w.heap.size w w':=by
 have hb0:∀ o,Below w.heap.size w (w.alloc o):=fun o=>(Below.refl _ _).alloc (Nat.le_refl _) _
 unfold rtOk at hno
 by_cases d1:0<=h/\h<=1
 ·have d1':decide (0<=h/\h<=1)=true:=decide_eq_true d1
  have d2':decide (1<=f/\f<=999999000)=false:=by simp;omega
  clear hno d1
  go_enter Tryz.func227,Tryz.ntmps227
  go_wp2_with (first | (go_at_call 223;refine (half_i _ _).mono ?_;rw [d1'];rintro e w1 ⟨rfl,rfl⟩) | (go_at_call 224;refine (first_i _ _).mono ?_;rw [d2'];rintro e w2 ⟨rfl,rfl⟩))
  go_ret
  exact ⟨rfl,hb0 _⟩
 ·have d1':decide (0<=h/\h<=1)=false:=decide_eq_false d1
  clear hno d1
  go_enter Tryz.func227,Tryz.ntmps227
  go_wp2_with (first | (go_at_call 223;refine (half_i _ _).mono ?_;rw [d1'];rintro e w1 ⟨rfl,rfl⟩))
  go_ret
  exact ⟨rfl,hb0 _⟩
set_option maxRecDepth 4000 in
set_option maxHeartbeats 16000000 in
theorem rootpage_i_ok (t h f l n:Int) (w:World) (hok:rtOk h f):Calls Tryz.prog 227 #[rootV t h f l,.int .i64 n] w fun e w'=>e=.returned (.string (formOf 4 l t (rtPart h f) n))/\Below w.heap.size w w':=by
 obtain ⟨h1,h2,h3,h4⟩:=hok
 have d1:decide (0<=h/\h<=1)=true:=by simp;omega
 have d2:decide (1<=f/\f<=999999000)=true:=by simp;omega
 have u1:IntKind.u64.wrap h=h:=wrap_u64_id h (by omega) (by omega)
 have u2:IntKind.u64.wrap f=f:=wrap_u64_id f (by omega) (by omega)
 obtain ⟨pt,HPT⟩:∃ pt,Hid (pt=rtPart h f):=⟨_,hide rfl⟩
 rw [<-HPT.out]
 go_enter Tryz.func227,Tryz.ntmps227
 go_wp2_with (first | (go_at_call 223;refine (half_i _ _).mono ?_;rw [d1];rintro e w1 ⟨rfl,rfl⟩) | (go_at_call 224;refine (first_i _ _).mono ?_;rw [d2];rintro e w2 ⟨rfl,rfl⟩))
 refine wp_start5 w (.int .i64 t) (.int .i64 h) (.int .i64 f) (.int .i64 l) _ _ ?_
 intro wa hpi0 hfm0
 have HS0:=hide hpi0.toS
 clear hpi0
 go_region_held3 (fun w'=>w'.cell? ⟨w.heap.size,0,none⟩=some (.int .i64 t)/\w'.cell? ⟨w.heap.size,1,none⟩=some (.int .i64 h)/\w'.cell? ⟨w.heap.size,2,none⟩=some (.int .i64 f)/\w'.cell? ⟨w.heap.size,3,none⟩=some (.int .i64 l)/\RI w w' (.int .i64 t) (.int .i64 h) (.int .i64 f) (.int .i64 l))
  (first | assumption | exact (RI.ofS HS0.out).drew.toS | exact (RI.wrote (RI.ofS (by assumption)) (by assumption)).toS)
  (first | (go_at_call 263;refine (put_any (w.heap.size+1) 0 1 5 h _ (by omega) (by omega) (by omega) (fun i hi=>⟨_,hfm0.drew.cell (0+i) (by simp;omega)⟩) (fun i hi=>hfm0.drew.froz (0+i) (by simp;omega))).mono ?_;rintro e wb ⟨rfl,hw0⟩))
 have hpi1:RI w wb (.int .i64 t) (.int .i64 h) (.int .i64 f) (.int .i64 l):=RI.ofS (by assumption)
 have hfm1:=hfm0.drew.wrote hw0 (by rw [be_length];simp)
 obtain ⟨xs1,HX1⟩:∃ xs1,Hid (xs1=spl [0,0,0,0,0] 0 (be 1 h)):=⟨_,hide rfl⟩
 have hl1:xs1.length=5:=by rw [HX1.out,spl_length _ _ _ (by rw [be_length];simp)];rfl
 rw [<-HX1.out] at hfm1
 clear HS0 hw0 hfm0
 go_wp2_with fail
 have HS1:=hide hpi1.toS
 clear hpi1
 go_region_held3 (fun w'=>w'.cell? ⟨w.heap.size,0,none⟩=some (.int .i64 t)/\w'.cell? ⟨w.heap.size,1,none⟩=some (.int .i64 h)/\w'.cell? ⟨w.heap.size,2,none⟩=some (.int .i64 f)/\w'.cell? ⟨w.heap.size,3,none⟩=some (.int .i64 l)/\RI w w' (.int .i64 t) (.int .i64 h) (.int .i64 f) (.int .i64 l))
  (first | assumption | exact (RI.ofS HS1.out).drew.toS | exact (RI.wrote (RI.ofS (by assumption)) (by assumption)).toS)
  (first | (go_at_call 263;refine (put_any (w.heap.size+1) 1 4 4 f _ (by omega) (by omega) (by omega) (fun i hi=>⟨_,hfm1.drew.cell (1+i) (by rw [hl1];omega)⟩) (fun i hi=>hfm1.drew.froz (1+i) (by rw [hl1];omega))).mono ?_;rintro e wc ⟨rfl,hw1⟩))
 have hpi2:RI w wc (.int .i64 t) (.int .i64 h) (.int .i64 f) (.int .i64 l):=RI.ofS (by assumption)
 have hfm2:=hfm1.drew.wrote hw1 (by rw [be_length,hl1];omega)
 obtain ⟨xs2,HX2⟩:∃ xs2,Hid (xs2=spl xs1 1 (be 4 f)):=⟨_,hide rfl⟩
 have hl2:xs2.length=5:=by rw [HX2.out,spl_length _ _ _ (by rw [be_length,hl1];omega),hl1]
 rw [<-HX2.out] at hfm2
 have hPt:strOfNums xs2=rtPart h f:=rt_list h f HX1.out HX2.out
 rw [<-HPT.out] at hPt
 have hpz:pt.size<=1048576:=by rw [<-hPt,strOfNums_size,hl2];omega
 have hcv:∀ wx,Fm wx (w.heap.size+1) xs2->(convert 47 9 (.slice (some ⟨w.heap.size+1,0,none⟩) 5 5)).run Tryz.prog wx=.ok (.string pt) wx:=fun wx hf=>by
  have:=hf.text (P:=Tryz.prog) 47 5 9 Tryz.underlying47 Tryz.underlying5 Tryz.underlying9 0 5 5 (by omega)
  rw [List.drop_zero,List.take_of_length_le (by omega),hPt] at this
  exact this
 have HCV:=hide hcv
 have HFM:=hide hfm2
 clear HS1 hw1 hfm1 hfm2 hcv
 go_wp2_with fail
 have HS2:=hide hpi2.toS
 clear hpi2
 have hFl:w.heap.size+1<wc.heap.size:=by have:=(RI.ofS HS2.out).size;omega
 go_region_held3 (fun w'=>(convert 47 9 (.slice (some ⟨w.heap.size+1,0,none⟩) 5 5)).run Tryz.prog w'=.ok (.string pt) w'/\w'.cell? ⟨w.heap.size,0,none⟩=some (.int .i64 t)/\w'.cell? ⟨w.heap.size,3,none⟩=some (.int .i64 l)/\RI w w' (.int .i64 t) (.int .i64 h) (.int .i64 f) (.int .i64 l))
  (first | assumption | exact ⟨HCV.out _ HFM.out.drew,(RI.ofS HS2.out).drew.b0,(RI.ofS HS2.out).drew.b3,(RI.ofS HS2.out).drew⟩ | exact ⟨HCV.out _ (HFM.out.drew.below hb4 hFl),((RI.ofS HS2.out).drew.below hb4).b0,((RI.ofS HS2.out).drew.below hb4).b3,(RI.ofS HS2.out).drew.below hb4⟩)
  (first | (go_at_call 228;refine (form_i_any 4 l t pt n _ hpz).mono ?_;rintro e w4 ⟨rfl,hb4⟩))
 rename_i hSl
 have hbl:=hSl.2.2.2.bel
 clear hSl
 go_wp2
 go_ret
 exact ⟨rfl,hbl⟩
theorem rootpage_i_any (t h f l n:Int) (w:World):Calls Tryz.prog 227 #[rootV t h f l,.int .i64 n] w fun e w'=>e=.returned (.string (rtForm t h f l n))/\Below w.heap.size w w':=by
 unfold rtForm
 by_cases hok:rtOk h f
 ·rw [if_pos hok];exact rootpage_i_ok t h f l n w hok
 ·rw [if_neg hok];exact rootpage_i_no t h f l n w hok
end Go.Proofs.YtnmaknnnmjfhkagGreatDoor
namespace Go.Proofs.YtnmaknnnmjfhkagGreatDoor
open Go.RowKit
theorem part_short (s r:ByteArray) (a m:Nat) (h:r=s.extract a s.size) (hm:r.size<=m):r=s.extract a (a+m):=extract_all s r a m h hm
theorem rest_short (s r:ByteArray) (a m:Nat) (h:r=s.extract a s.size) (hm:r.size<=m):ByteArray.empty=s.extract (a+m) s.size:=by
 subst h
 simp only [ByteArray.size_extract] at hm
 apply ByteArray.ext
 symm
 apply Array.eq_empty_of_size_eq_zero
 show (ByteArray.size _)=0
 simp only [ByteArray.size_extract]
 omega
theorem last_iff (s r:ByteArray) (k m N:Nat) (hN:N=nparts s.size m) (hm:0<m) (hk:k<N) (h:r=s.extract (k*m) s.size):r.size<=m<->k+1=N:=by
 subst h
 rw [hN] at hk ⊢
 rw [<-nparts_last s.size m k hm hk]
 simp only [ByteArray.size_extract,Nat.add_mul,Nat.one_mul]
 omega
theorem pageOk_cut (K l x:Int) (p:ByteArray) (n m:Nat) (hm:n+m=56) (h1:1<=n) (h2:n<=8) (hK:K=1\/K=2) (hp:p.size<=m):pageOk K l x p (n:Int)=decide (1<=l/\l<=60000/\1<=x/\x<=1000000000):=by
 unfold pageOk
 apply decide_eq_decide.2
 rcases hK with rfl | rfl<;>constructor<;>intro h<;>omega
theorem notall {f:Int} {k:Nat} (l:Int) (P:Nat->Prop) (h:∀ j,j<k->1<=l/\l<=60000/\1<=f+(j:Int)/\f+(j:Int)<=1000000000) (hf1:-9223372036854775808<=f) (hf2:f<=9223372036854775807) (hk:k<=1048577):-9223372036854775808<=f+(k:Int)/\f+(k:Int)<=9223372036854775807:=by
 rcases Nat.eq_zero_or_pos k with h0 | h0
 ·subst h0;simp;omega
 ·have:=h 0 h0;simp at this;omega
theorem formOf_empty (k l m:Int) (p:ByteArray) (n:Int):(formOf k l m p n).toList.isEmpty=!pageOk k l m p n:=by
 rw [isEmpty_size]
 unfold formOf
 cases h:pageOk k l m p n with
 | false=>simp
 | true =>
  simp only [if_true]
  have hp:1<=n/\n<=8/\(p.size:Int)<=56-n:=by unfold pageOk at h;simp at h;omega
  rw [pageForm_size k l m p n.toNat (by omega)]
  rfl
set_option maxRecDepth 4000 in
set_option maxHeartbeats 16000000 in
theorem cut_i (s:ByteArray) (l f:Int) (n m:Nat) (w:World) (hs:s.size<=1048576) (hm:n+m=56) (h1:1<=n) (h2:n<=8) (hf1:-9223372036854775808<=f) (hf2:f<=9223372036854775807) :
  Calls Tryz.prog 188 #[.string s,.int .i64 l,.int .i64 f,.int .i64 (n:Int)] w fun e w'=>NewS w w' e (cutAll s l f n m):=by
 obtain ⟨N,HN⟩:∃ N,Hid (N=nparts s.size m):=⟨_,hid rfl⟩
 have hN1:N<=1048577:=by have:=nparts_le s.size m;rw [HN.out];omega
 have hN0:0<N:=by rw [HN.out];exact nparts_pos _ _
 have HNP:Hid (npages s.size (n:Int)=(N:Int)):=by
  show _=_
  unfold npages
  rw [if_pos (by omega),HN.out,show (56-(n:Int)).toNat=m by omega]
 obtain ⟨R,HR⟩:∃ R,Hid (R=cutAll s l f n m):=⟨_,hid rfl⟩
 rw [<-HR.out]
 obtain ⟨i0,hi0,hz0,hz1,hz2⟩:=info_parts infoStr'
 have HI:=hid (And.intro hi0 (And.intro hz0 (And.intro hz1 hz2)))
 clear hi0 hz0 hz1 hz2
 go_enter Tryz.func188,Tryz.ntmps188
 go_wp2_with (first | (go_at_call 95;refine (pages_i s n _ hs).mono ?_;rw [HNP.out];rintro e w2 ⟨rfl,hb2⟩))
 go_loopw [0,9,10,11,12,13,17] (fun x y _ _ _ _ i wr=>∃ (k:Nat) (r:ByteArray),k<=N/\i=.int .i64 k/\x=.string r/\Hid (r=s.extract (k*m) s.size)/\r.size<=1048576/\Hid (∀ j,j<k->1<=l/\l<=60000/\1<=f+(j:Int)/\f+(j:Int)<=1000000000)/\wr.ownsRow w.heap.size 9 1 y k ((cutList s l f n m N k).map Value.string)/\Below w.heap.size w wr) (fun _ _ _ _ _ _ i _=>N-(intOf i).toNat)
 case atStart=>exact ⟨0,s,Nat.zero_le _,rfl,rfl,by show s=_;simp,hs,fun j hj=>by omega,World.ownsRow_nil _ _ _ _,hb2⟩
 case round =>
  obtain ⟨k,r,hk,rfl,rfl,HX,hrz,HOK,hown,hbel⟩:=hrel
  by_cases hlt:k<N
  ·have hsz:w.heap.size<=wr.heap.size:=hbel.size
   have HB:=hid hbel
   have HOWN:=hid hown
   clear hbel hown
   obtain ⟨hfk1,hfk2⟩:=notall l (fun _=>True) HOK.out hf1 hf2 (by omega)
   by_cases hrm:m<r.size
   ·have hrm':(m:Int)<(r.size:Int):=by omega
    have hne:(r.extract m r.size).toList.isEmpty=false:=by rw [isEmpty_size];simp only [ByteArray.size_extract];simp;omega
    have hpz:(r.extract 0 m).size<=1048576:=by simp only [ByteArray.size_extract];omega
    have HPZ:Hid ((r.extract 0 m).size<=m):=by show _<=_;simp only [ByteArray.size_extract];omega
    have HPE:Hid ((r.extract 0 m)=s.extract (k*m) (k*m+m)):=by show _=_;exact extract_part s r _ m HX.out
    have HRE:Hid ((r.extract m r.size)=s.extract ((k+1)*m) s.size):=by show _=_;rw [Nat.add_mul,Nat.one_mul];exact extract_rest s r _ m HX.out
    have HKN:Hid ((if k+1=N then (2:Int) else 1)=1):=by show _=_;have:=last_iff s r k m N HN.out (by omega) hlt HX.out;rw [if_neg (by omega)]
    obtain ⟨F,HF⟩:∃ F,Hid (F=formOf 1 l (f+(k:Int)) (r.extract 0 m) (n:Int)):=⟨_,hid rfl⟩
    have HFC:Hid (F=cutAt s l f n m N k):=by show _=_;rw [HF.out,HPE.out];unfold cutAt;rw [HKN.out]
    have HFE:Hid (F.toList.isEmpty=!decide (1<=l/\l<=60000/\1<=f+(k:Int)/\f+(k:Int)<=1000000000)):=by show _=_;rw [HF.out,formOf_empty,pageOk_cut 1 l _ _ n m hm h1 h2 (by omega) HPZ.out]
    by_cases hok:1<=l/\l<=60000/\1<=f+(k:Int)/\f+(k:Int)<=1000000000
    ·have hfe:F.toList.isEmpty=false:=by rw [HFE.out];simpa using hok
     have HOK2:=hid hok
     clear hok
     go_wp2_with (first | (go_at_call 187;refine (partw_i n m _ hm h1 h2).mono ?_;rintro e w4 ⟨rfl,rfl⟩) | (go_at_call 228;refine (form_i_any 1 l (f+(k:Int)) (r.extract 0 m) (n:Int) _ hpz).mono ?_;rw [<-HF.out];rintro e w5 ⟨rfl,hb5⟩;have hs5:=hb5.size;simp only [World.size_alloc] at hs5;have HB5:=hid (HB.out.trans ((((Below.refl _ _).alloc (Nat.le_refl _) _).trans (hb5.mono (by simp))).mono hsz));have HO5:=hid ((owns_below HOWN.out (((Below.refl _ _).alloc (Nat.le_refl _) _).trans (hb5.mono (by simp)))).alloc (.cells #[.string F] 9));clear hb5) | (at_builtin;refine wpList_append_lies _ rfl _ _ 22 rfl w.heap.size 9 i0 (.string ByteArray.empty) 1 16 Tryz.underlying22 HI.out.1 HI.out.2.1 HI.out.2.2.1 HI.out.2.2.2 rfl (by omega) _ k _ rfl HO5.out ⟨w5.heap.size,0,none⟩ 1 1 [.string F] rfl rfl (World.news_of_block (heap_alloc_new w5 _)) (by intro u hu;simp at hu;subst hu;rfl) (by omega) (by unfold maxLen;omega) (by omega) (by simp;omega) (w5.heap.size+1) (by simp) ?_;intro g' cap w7 hown7 hgrow7 hat7 hlt7;have HO7:=hid hown7;have HB7:=hid (below_grown (HB5.out.alloc (by omega) _) HO5.out hgrow7 (by simp;omega));clear hown7 hgrow7 hat7))
     refine ⟨⟨k+1,(r.extract m r.size),by omega,by go_num,rfl,HRE.out,by simp only [ByteArray.size_extract];omega,fun j hj=>?_,?_,HB7.out⟩,by simp [intOf];omega⟩
     ·rcases Nat.lt_or_ge j k with h | h
      ·exact HOK.out j h
      ·have:j=k:=by omega
       subst this;exact HOK2.out
     ·rw [cutList_succ,List.map_append,<-HFC.out];exact HO7.out
    ·have hfe:F.toList.isEmpty=true:=by rw [HFE.out,decide_eq_false hok];rfl
     have HRR:Hid (R=[]):=by show _=_;rw [HR.out];exact cutAll_no HN.out (by omega)
     clear hok
     go_wp2_with (first | (go_at_call 187;refine (partw_i n m _ hm h1 h2).mono ?_;rintro e w4 ⟨rfl,rfl⟩) | (go_at_call 228;refine (form_i_any 1 l (f+(k:Int)) (r.extract 0 m) (n:Int) _ hpz).mono ?_;rw [<-HF.out];rintro e w5 ⟨rfl,hb5⟩;have hs5:=hb5.size;simp only [World.size_alloc] at hs5;have HB5:=hid (HB.out.trans ((((Below.refl _ _).alloc (Nat.le_refl _) _).trans (hb5.mono (by simp))).mono hsz));have HO5:=hid ((owns_below HOWN.out (((Below.refl _ _).alloc (Nat.le_refl _) _).trans (hb5.mono (by simp)))).alloc (.cells #[.string F] 9));clear hb5))
     go_ret
     rw [HRR.out]
     exact newS_nil rfl HB5.out
   ·have hrm':(r.size:Int)<=(m:Int):=by omega
    have hpz:r.size<=1048576:=by omega
    have HPZ:Hid (r.size<=m):=by show _<=_;omega
    have HPE:Hid (r=s.extract (k*m) (k*m+m)):=by show _=_;exact part_short s r _ m HX.out (by omega)
    have HRE:Hid (ByteArray.empty=s.extract ((k+1)*m) s.size):=by show _=_;rw [Nat.add_mul,Nat.one_mul];exact rest_short s r _ m HX.out (by omega)
    have HKN:Hid ((if k+1=N then (2:Int) else 1)=2):=by show _=_;have:=last_iff s r k m N HN.out (by omega) hlt HX.out;rw [if_pos (by omega)]
    obtain ⟨F,HF⟩:∃ F,Hid (F=formOf 2 l (f+(k:Int)) r (n:Int)):=⟨_,hid rfl⟩
    have HFC:Hid (F=cutAt s l f n m N k):=by show _=_;rw [HF.out,HPE.out];unfold cutAt;rw [HKN.out]
    have HFE:Hid (F.toList.isEmpty=!decide (1<=l/\l<=60000/\1<=f+(k:Int)/\f+(k:Int)<=1000000000)):=by show _=_;rw [HF.out,formOf_empty,pageOk_cut 2 l _ _ n m hm h1 h2 (by omega) HPZ.out]
    by_cases hok:1<=l/\l<=60000/\1<=f+(k:Int)/\f+(k:Int)<=1000000000
    ·have hfe:F.toList.isEmpty=false:=by rw [HFE.out];simpa using hok
     have HOK2:=hid hok
     clear hok
     go_wp2_with (first | (go_at_call 187;refine (partw_i n m _ hm h1 h2).mono ?_;rintro e w4 ⟨rfl,rfl⟩) | (go_at_call 228;refine (form_i_any 2 l (f+(k:Int)) r (n:Int) _ hpz).mono ?_;rw [<-HF.out];rintro e w5 ⟨rfl,hb5⟩;have hs5:=hb5.size;simp only [World.size_alloc] at hs5;have HB5:=hid (HB.out.trans ((((Below.refl _ _).alloc (Nat.le_refl _) _).trans (hb5.mono (by simp))).mono hsz));have HO5:=hid ((owns_below HOWN.out (((Below.refl _ _).alloc (Nat.le_refl _) _).trans (hb5.mono (by simp)))).alloc (.cells #[.string F] 9));clear hb5) | (at_builtin;refine wpList_append_lies _ rfl _ _ 22 rfl w.heap.size 9 i0 (.string ByteArray.empty) 1 16 Tryz.underlying22 HI.out.1 HI.out.2.1 HI.out.2.2.1 HI.out.2.2.2 rfl (by omega) _ k _ rfl HO5.out ⟨w5.heap.size,0,none⟩ 1 1 [.string F] rfl rfl (World.news_of_block (heap_alloc_new w5 _)) (by intro u hu;simp at hu;subst hu;rfl) (by omega) (by unfold maxLen;omega) (by omega) (by simp;omega) (w5.heap.size+1) (by simp) ?_;intro g' cap w7 hown7 hgrow7 hat7 hlt7;have HO7:=hid hown7;have HB7:=hid (below_grown (HB5.out.alloc (by omega) _) HO5.out hgrow7 (by simp;omega));clear hown7 hgrow7 hat7))
     refine ⟨⟨k+1,ByteArray.empty,by omega,by go_num,rfl,HRE.out,by simp,fun j hj=>?_,?_,HB7.out⟩,by simp [intOf];omega⟩
     ·rcases Nat.lt_or_ge j k with h | h
      ·exact HOK.out j h
      ·have:j=k:=by omega
       subst this;exact HOK2.out
     ·rw [cutList_succ,List.map_append,<-HFC.out];exact HO7.out
    ·have hfe:F.toList.isEmpty=true:=by rw [HFE.out,decide_eq_false hok];rfl
     have HRR:Hid (R=[]):=by show _=_;rw [HR.out];exact cutAll_no HN.out (by omega)
     clear hok
     go_wp2_with (first | (go_at_call 187;refine (partw_i n m _ hm h1 h2).mono ?_;rintro e w4 ⟨rfl,rfl⟩) | (go_at_call 228;refine (form_i_any 2 l (f+(k:Int)) r (n:Int) _ hpz).mono ?_;rw [<-HF.out];rintro e w5 ⟨rfl,hb5⟩;have hs5:=hb5.size;simp only [World.size_alloc] at hs5;have HB5:=hid (HB.out.trans ((((Below.refl _ _).alloc (Nat.le_refl _) _).trans (hb5.mono (by simp))).mono hsz));have HO5:=hid ((owns_below HOWN.out (((Below.refl _ _).alloc (Nat.le_refl _) _).trans (hb5.mono (by simp)))).alloc (.cells #[.string F] 9));clear hb5))
     go_ret
     rw [HRR.out]
     exact newS_nil rfl HB5.out
  ·have hkN:k=N:=by omega
   subst hkN
   have HRR:Hid (R=cutList s l f n m k k):=by
    show _=_
    rw [HR.out]
    have h0:=HOK.out 0 hN0
    have h3:=HOK.out (k-1) (by omega)
    exact cutAll_yes HN.out (by omega)
   have HO:=hid hown
   clear hown
   go_wp2
   go_ret
   rw [HRR.out]
   exact newS_of HO.out (cutList_length _ _ _ _ _ _ _).symm hbel
end Go.Proofs.YtnmaknnnmjfhkagGreatDoor
namespace Go.Proofs.YtnmaknnnmjfhkagGreatDoor
open Go.RowKit
section
variable {P:Program} {e t:TypeId} {i:TypeInfo} {n:Nat}
theorem part_u8 (he:∀ w,(isAgg e).run P w=.ok false w) (xs:List Int) (j:Nat) (hj:j<xs.length) (w:World):(part e (xs.map (Value.int .u8)).toArray j).run P w=.ok (.int .u8 (xs.getD j 0)) w:=by
 unfold part
 simp [he,Result.andThen,hj,List.getD]
theorem eq_u8 (hu:P.underlying e=some (.int .u8)) (d:Nat) (a b:Int) (w:World):(Op.equalIn (d+1) e (.int .u8 a) (.int .u8 b)).run P w=.ok (a == b) w:=by
 simp [Op.equalIn,run_underlying hu,Result.andThen]
theorem eqItems_u8 (he:∀ w,(isAgg e).run P w=.ok false w) (hu:P.underlying e=some (.int .u8)) (d:Nat) (xs ys:List Int) (w:World):∀ (js:List Nat),(∀ j∈js,j<xs.length/\j<ys.length)->(Op.eqItems (d+1) e 1 (xs.map (Value.int .u8)).toArray (ys.map (Value.int .u8)).toArray js).run P w=.ok (js.all fun j=>xs.getD j 0 == ys.getD j 0) w
 | [],_=>by simp [Op.eqItems]
 | j::js,h=>by
  have hj:=h j (List.mem_cons_self)
  have ih:=eqItems_u8 he hu d xs ys w js (fun q hq=>h q (List.mem_cons_of_mem _ hq))
  simp only [Op.eqItems,Sem.run_bind,Nat.mul_one,part_u8 he xs j hj.1,part_u8 he ys j hj.2,eq_u8 hu,Result.andThen_ok]
  cases hc:(xs.getD j 0 == ys.getD j 0) with
  | false=>simp only [Bool.not_false,if_true,Sem.run_pure,List.all_cons,hc,Bool.false_and]
  | true=>simp only [Bool.not_true,Bool.false_eq_true,if_false,ih,List.all_cons,hc,Bool.true_and]
theorem all_eq (xs ys:List Int) (hl:xs.length=ys.length):((List.range xs.length).all fun j=>xs.getD j 0 == ys.getD j 0)=decide (xs=ys):=by
 rw [Bool.eq_iff_iff]
 simp only [List.all_eq_true,List.mem_range,beq_iff_eq,decide_eq_true_eq]
 constructor
 ·intro h
  apply List.ext_getElem hl
  intro j h1 h2
  have:=h j h1
  simpa [List.getD,h1,h2] using this
 ·intro h j hj;rw [h]
theorem run_neq_arr (hu:P.underlying t=some (.array n e)) (hi:P.info? e=some i) (hc:P.cellsOf e=1) (he:∀ w,(isAgg e).run P w=.ok false w) (hb:P.underlying e=some (.int .u8)) (xs ys:List Int) (hx:xs.length=n) (hy:ys.length=n) (w:World) :
  (binOp .neq t (.agg (xs.map (Value.int .u8)).toArray) (.agg (ys.map (Value.int .u8)).toArray)).run P w=.ok (.bool (!decide (xs=ys))) w:=by
 have h:=run_equalIn_array (w:=w) 9999 (xs.map (Value.int .u8)).toArray (ys.map (Value.int .u8)).toArray hu hi
 rw [hc,<-hx,eqItems_u8 he hb 9998 xs ys w (List.range xs.length) (fun j hj=>by have:=List.mem_range.1 hj;omega),all_eq xs ys (by omega)] at h
 simp only [binOp]
 simp [Op.equal,Op.maxDepth,h,Result.andThen]
end
end Go.Proofs.YtnmaknnnmjfhkagGreatDoor
namespace Go.Proofs.YtnmaknnnmjfhkagGreatDoor
open Go.RowKit
theorem heap_new (w:World) (o:Obj):(w.alloc o).heap[w.heap.size]?=some o:=by
 show (w.heap.push o)[w.heap.size]?=some o
 simp
theorem frozen_new (w:World) (C:Array Value) (e:TypeId) (n i:Nat) (h:i<n):(w.alloc (.cells C e (n,n+1))).frozen? ⟨w.heap.size,i,none⟩=false:=by
 simp only [World.frozen?,heap_new]
 simp
 omega
theorem cell_newf (w:World) (C:Array Value) (e:TypeId) (fr:Nat×Nat) (i:Nat):(w.alloc (.cells C e fr)).cell? ⟨w.heap.size,i,none⟩=C[i]?:=by
 simp only [World.cell?,heap_new]
 simp
theorem conv_bytes (w:World) (p:ByteArray):∃ cap wB,(convert 9 47 (.string p)).run Tryz.prog w=.ok (.slice (some ⟨w.heap.size,0,none⟩) p.size cap) wB/\Below w.heap.size w wB/\wB.heap.size=w.heap.size+1/\Fm wB w.heap.size (nums p)/\p.size<=cap:=by
 refine ⟨_,_,run_bytes_of_string w _ _ 5 p Tryz.underlying9 Tryz.underlying47 Tryz.underlying5,((Below.refl _ _).drew).alloc (Nat.le_refl _) _,by simp,⟨fun i hi=>?_,fun i hi=>?_⟩,grownCap_ge _ _ _ _⟩
 ·rw [nums_length] at hi
  refine (cell_newf w.drew _ _ _ i).trans ?_
  rw [bytesRow_at p _ i hi]
  have hl:i<p.data.toList.length:=hi
  simp only [List.getD_eq_getElem?_getD,nums,List.getElem?_map,List.getElem?_eq_getElem hl]
  rfl
 ·rw [nums_length] at hi
  exact frozen_new w.drew _ _ _ i (by unfold bytesRow;simp;omega)
end Go.Proofs.YtnmaknnnmjfhkagGreatDoor
namespace Go.Proofs.YtnmaknnnmjfhkagGreatDoor
open Go.RowKit Go.ChangeShapes Go.WideShapes Go.Deep
section
variable {H:Type} {enc:TypeId×Value->H} {P:Program} {w:World} {base:Nat} {spare:Nat->Bool} {held:Bool}
theorem add_none {a:Addr} {i:Nat} {v:Value} (h:w.cell? (a.add i)=some v) (h0:∃ u,w.cell? (a.add 0)=some u):∃ b o,a=⟨b,o,none⟩:=by
 obtain ⟨b,o,s⟩:=a
 obtain ⟨u,hu⟩:=h0
 have hs:s=none:=by simpa [Addr.add] using World.cell?_spot hu
 exact ⟨b,o,by rw [hs]⟩
theorem add_mk (b o i:Nat):(⟨b,o,none⟩:Addr).add i=⟨b,o+i,none⟩:=by unfold Addr.add;split<;>simp_all
theorem strs_of_trod {t e:TypeId} {fuel:Nat} {v:Value} {x:DataW H×List MemPlace} (ht:P.underlying t=some (.slice e)) (he:P.underlying e=some .string) (hc:P.cellsOf e=1)
  (h:DataW.trod enc P w base spare held fuel t [v]=some x):∃ a ss c,v=.slice a ss.length c/\Strs w a ss/\ss.length<=maxLen/\∀ s∈ss,s.size<=maxLen:=by
 rcases open_strings ht he hc h with ⟨hcs,_⟩ | ⟨a,len,cap,ss,hcs,_,hl,hm,hz,_,hcell,hw⟩
 ·simp at hcs
  exact ⟨none,[],0,by simpa using hcs,.inl rfl,by simp,by simp⟩
 ·simp at hcs
  have hlen:len<=ss.length:=by rw [hz];split<;>omega
  have e1:(ss.take len).length=len:=by simp;omega
  refine ⟨some a,ss.take len,cap,by rw [e1];exact hcs,?_,by omega,fun s hs=>hw s (List.mem_of_mem_take hs)⟩
  by_cases h0:len=0
  ·exact .inl (by subst h0;simp)
  ·obtain ⟨b,o,rfl⟩:=add_none (hcell 0 (by omega)) ⟨_,hcell 0 (by omega)⟩
   have hb:=World.block_lt_of_cell? w _ (hcell 0 (by omega))
   rw [add_mk] at hb
   refine .inr ⟨b,o,rfl,hb,fun i hi=>?_⟩
   have:=hcell i (by omega)
   rw [add_mk] at this
   rw [this]
   have hi':i<len:=by omega
   simp [List.getD,List.getElem?_take_of_lt hi']
theorem wrs_of_trod {t e:TypeId} {f0 f1:Field} {fuel:Nat} {v:Value} {x:DataW H×List MemPlace} (ht:P.underlying t=some (.slice e)) (he:P.underlying e=some (.struct #[f0,f1]))
  (ce:P.cellsOf e=2) (o0:f0.offset=0) (o1:f1.offset=1) (c0:P.cellsOf f0.type=1) (c1:P.cellsOf f1.type=1) (t0:P.underlying f0.type=some (.int .i64)) (t1:P.underlying f1.type=some .string)
  (h:DataW.trod enc P w base spare held fuel t [v]=some x):∃ a ws c,v=.slice a ws.length c/\Wrs w a ws/\ws.length<=maxLen/\(∀ s∈ws,s.2.size<=maxLen)/\∀ s∈ws,(Lit.int .i64 s.1).wf=true:=by
 rcases open_slice_pairs ht he ce o0 o1 c0 c1 h with ⟨hcs,_⟩ | ⟨a,len,cap,m,n,V0,V1,D0,D1,P0,P1,hcs,_,hl,hm,hz,_,hcell⟩
 ·simp at hcs
  exact ⟨none,[],0,by simpa using hcs,.inl rfl,by simp,by simp,by simp⟩
 ·simp at hcs
  have hlm:len<=m:=by rw [hz];split<;>omega
  have each:∀ i,i<len->∃ q:Int×ByteArray,w.cell? (a.add (i*2))=some (.int .i64 q.1)/\w.cell? (a.add (i*2+1))=some (.string q.2)/\q.2.size<=maxLen/\(Lit.int .i64 q.1).wf=true:=by
   intro i hi
   obtain ⟨h1,h2,h3,h4⟩:=hcell i (by omega)
   obtain ⟨y,ey,_,wy⟩:=DataW.trod_int t0 h3
   obtain ⟨s,es,_,ws⟩:=DataW.trod_string t1 h4
   simp at ey es
   rw [ey] at h1
   rw [es] at h2
   exact ⟨(y,s),h1,h2,ws,wy⟩
  obtain ⟨q,hq⟩:=choose_lt each
  have e1:((List.range len).map q).length=len:=by simp
  refine ⟨some a,(List.range len).map q,cap,by rw [e1];exact hcs,?_,by omega,fun s hs=>?_,fun s hs=>?_⟩
  ·by_cases h0:len=0
   ·exact .inl (by subst h0;simp)
   ·have hq0:=(hq 0 (by omega)).1
    obtain ⟨b,o,rfl⟩:=add_none hq0 ⟨_,hq0⟩
    have hb:=World.block_lt_of_cell? w _ hq0
    rw [add_mk] at hb
    refine .inr ⟨b,o,rfl,hb,fun i hi=>?_⟩
    rw [e1] at hi
    obtain ⟨h1,h2,_⟩:=hq i hi
    rw [add_mk] at h1 h2
    simp [List.getD,hi,h1,<-Nat.add_assoc] at h2 ⊢
    exact h2
  ·obtain ⟨i,hi,rfl⟩:=List.mem_map.1 hs
   exact (hq i (by simpa using hi)).2.2.1
  ·obtain ⟨i,hi,rfl⟩:=List.mem_map.1 hs
   exact (hq i (by simpa using hi)).2.2.2
end
end Go.Proofs.YtnmaknnnmjfhkagGreatDoor
namespace Go.Proofs.YtnmaknnnmjfhkagGreatDoor
open Go.RowKit Go.ChangeShapes Go.WideShapes Go.Deep
section
variable {H:Type} {enc:TypeId×Value->H} {P:Program} {w:World} {base:Nat} {spare:Nat->Bool} {held:Bool}
theorem prs_of_trod {t e:TypeId} {f0 f1:Field} {fuel:Nat} {v:Value} {x:DataW H×List MemPlace} (ht:P.underlying t=some (.slice e)) (he:P.underlying e=some (.struct #[f0,f1]))
  (ce:P.cellsOf e=2) (o0:f0.offset=0) (o1:f1.offset=1) (c0:P.cellsOf f0.type=1) (c1:P.cellsOf f1.type=1) (t0:P.underlying f0.type=some .string) (t1:P.underlying f1.type=some .string)
  (h:DataW.trod enc P w base spare held fuel t [v]=some x):∃ a rs c,v=.slice a rs.length c/\Prs w a rs/\rs.length<=maxLen/\(∀ s∈rs,s.1.size<=maxLen/\s.2.size<=maxLen):=by
 rcases open_slice ht h with ⟨hcs,_⟩ | ⟨a,len,cap,m,n,D,Pl,hcs,hb,hl,hm,hmm,_,hx⟩
 ·simp at hcs
  exact ⟨none,[],0,by simpa using hcs,.inl rfl,by simp,by simp⟩
 ·simp at hcs
  have hlm:len<=m:=by rw [hmm];split<;>omega
  have each:∀ i,i<len->∃ q:ByteArray×ByteArray,w.cell? (a.add (i*2))=some (.string q.1)/\w.cell? (a.add (i*2+1))=some (.string q.2)/\q.1.size<=maxLen/\q.2.size<=maxLen:=by
   intro i hi
   obtain ⟨cs',h1,h2⟩:=hx i (by omega)
   rw [ce] at h1
   obtain ⟨_,hlen,hcell⟩:=World.cells?_some h1
   obtain ⟨xs,k,hk,hxy,_,hxl,hf⟩:=DataW.trod_struct he h2
   match xs,hxl,cs',hlen with
   | [y0,y1],_,[v0,v1],_ =>
    have g0:=hf 0 f0 rfl
    have g1:=hf 1 f1 rfl
    simp [o0,o1,c0,c1] at g0 g1
    have e0:=hcell 0 (by omega)
    have e1:=hcell 1 (by omega)
    rw [add_add] at e0 e1
    obtain ⟨z0,ez0,_,wz0⟩:=DataW.trod_string t0 g0
    simp at ez0
    subst ez0
    obtain ⟨z1,ez1,_,wz1⟩:=DataW.trod_string t1 g1
    simp at ez1
    subst ez1
    exact ⟨(z0,z1),by simpa using e0,by simpa using e1,wz0,wz1⟩
  obtain ⟨q,hq⟩:=choose_lt each
  have e1:((List.range len).map q).length=len:=by simp
  refine ⟨some a,(List.range len).map q,cap,by rw [e1];exact hcs,?_,by omega,fun s hs=>?_⟩
  ·by_cases h0:len=0
   ·exact .inl (by subst h0;simp)
   ·have hq0:=(hq 0 (by omega)).1
    obtain ⟨b,o,rfl⟩:=add_none hq0 ⟨_,hq0⟩
    have hb:=World.block_lt_of_cell? w _ hq0
    rw [add_mk] at hb
    refine .inr ⟨b,o,rfl,hb,fun i hi=>?_⟩
    rw [e1] at hi
    obtain ⟨h0,h1,_⟩:=hq i hi
    rw [add_mk] at h0 h1
    have eg:((List.range len).map q).getD i (ByteArray.empty,ByteArray.empty)=q i:=by simp [List.getD,hi]
    rw [eg]
    exact ⟨h0,by rw [Nat.add_assoc];exact h1⟩
  ·obtain ⟨i,hi,rfl⟩:=List.mem_map.1 hs
   exact (hq i (by simpa using hi)).2.2
end
end Go.Proofs.YtnmaknnnmjfhkagGreatDoor
namespace Go.Proofs.YtnmaknnnmjfhkagGreatDoor
open Go.RowKit Go.ChangeShapes Go.WideShapes Go.Deep Go.Joins
section
variable {H:Type} {enc:TypeId×Value->H} {w:World} {base:Nat} {spare:Nat->Bool} {held:Bool}
theorem openS {P:Program} {t:TypeId} {f0:Field} {n:Nat} {cs:List Value} {x:DataW H×List MemPlace} (hs:P.underlying t=some (.struct #[f0])) (o0:f0.offset=0) (k0:P.cellsOf f0.type=1) (hC:P.cellsOf t=1) (h:DataW.trod enc P w base spare held n t cs=some x) :
  ∃ (c0:Value) (y0:DataW H×List MemPlace) (m:Nat),cs=[c0]/\DataW.trod enc P w base spare held m f0.type [c0]=some y0:=by
 obtain ⟨xs,m,_,_,hl,hxl,hf⟩:=DataW.trod_struct hs h
 rw [hC] at hl
 match cs,hl,xs,hxl with
 | [c0],_,[y0],_ =>
  have g0:=hf 0 f0 rfl
  rw [o0,k0] at g0
  exact ⟨c0,y0,m,rfl,g0⟩
theorem cells2':Tryz.prog.cellsOf 355=2:=by kernel_rfl
theorem state_of_trod {n:Nat} {cs:List Value} {x:DataW H×List MemPlace} (h:DataW.trod enc Tryz.prog w base spare held n 81 cs=some x):∃ a rs c,cs=[.slice a rs.length c]/\Prs w a rs/\rs.length<=maxLen/\(∀ s∈rs,s.1.size<=maxLen/\s.2.size<=maxLen):=by
 obtain ⟨c0,y0,m,rfl,g0⟩:=openS Tryz.underlying81 rfl (by kernel_rfl) (by kernel_rfl) h
 obtain ⟨a,rs,c,rfl,h1,h2,h3⟩:=prs_of_trod Tryz.underlying79 Tryz.underlying355 cells2' rfl rfl (by kernel_rfl) (by kernel_rfl) Tryz.underlying9 Tryz.underlying9 g0
 exact ⟨a,rs,c,rfl,h1,h2,h3⟩
theorem int_of_trod {n:Nat} {v:Value} {x:DataW H×List MemPlace} (h:DataW.trod enc Tryz.prog w base spare held n 3 [v]=some x):∃ a,v=.int .i64 a:=by
 obtain ⟨a,e,_,_⟩:=DataW.trod_int Tryz.underlying3 h
 simp at e
 exact ⟨a,e⟩
end
end Go.Proofs.YtnmaknnnmjfhkagGreatDoor
namespace Go.Proofs.YtnmaknnnmjfhkagGreatDoor
open Go.RowKit Go.ChangeShapes Go.WideShapes Go.Deep Go.Joins
section
variable {H:Type} {enc:TypeId×Value->H} {w:World} {base:Nat} {spare:Nat->Bool} {held:Bool}
theorem openR {P:Program} {t:TypeId} {f0 f1 f2 f3:Field} {n:Nat} {cs:List Value} {x:DataW H×List MemPlace} (hs:P.underlying t=some (.struct #[f0,f1,f2,f3])) (o0:f0.offset=0) (o1:f1.offset=1) (o2:f2.offset=2) (o3:f3.offset=3) (k0:P.cellsOf f0.type=1) (k1:P.cellsOf f1.type=1) (k2:P.cellsOf f2.type=1) (k3:P.cellsOf f3.type=1) (hC:P.cellsOf t=4) (h:DataW.trod enc P w base spare held n t cs=some x) :
  ∃ (c0 c1 c2 c3:Value) (y0 y1 y2 y3:DataW H×List MemPlace) (m:Nat),cs=[c0,c1,c2,c3]/\DataW.trod enc P w base spare held m f0.type [c0]=some y0/\DataW.trod enc P w base spare held m f1.type [c1]=some y1/\DataW.trod enc P w base spare held m f2.type [c2]=some y2/\DataW.trod enc P w base spare held m f3.type [c3]=some y3:=by
 obtain ⟨xs,m,_,_,hl,hxl,hf⟩:=DataW.trod_struct hs h
 rw [hC] at hl
 match cs,hl,xs,hxl with
 | [c0,c1,c2,c3],_,[y0,y1,y2,y3],_ =>
  have g0:=hf 0 f0 rfl
  rw [o0,k0] at g0
  have g1:=hf 1 f1 rfl
  rw [o1,k1] at g1
  have g2:=hf 2 f2 rfl
  rw [o2,k2] at g2
  have g3:=hf 3 f3 rfl
  rw [o3,k3] at g3
  exact ⟨c0,c1,c2,c3,y0,y1,y2,y3,m,rfl,g0,g1,g2,g3⟩
theorem openT {P:Program} {t:TypeId} {f0 f1 f2 f3 f4 f5 f6:Field} {n:Nat} {cs:List Value} {x:DataW H×List MemPlace} (hs:P.underlying t=some (.struct #[f0,f1,f2,f3,f4,f5,f6])) (o0:f0.offset=0) (o1:f1.offset=1) (o2:f2.offset=2) (o3:f3.offset=3) (o4:f4.offset=7) (o5:f5.offset=8) (o6:f6.offset=9) (k0:P.cellsOf f0.type=1) (k1:P.cellsOf f1.type=1) (k2:P.cellsOf f2.type=1) (k3:P.cellsOf f3.type=4) (k4:P.cellsOf f4.type=1) (k5:P.cellsOf f5.type=1) (k6:P.cellsOf f6.type=1) (hC:P.cellsOf t=10) (h:DataW.trod enc P w base spare held n t cs=some x) :
  ∃ (c0 c1 c2 c3 c4 c5 c6 c7 c8 c9:Value) (y0 y1 y2 y3 y4 y5 y6:DataW H×List MemPlace) (m:Nat),cs=[c0,c1,c2,c3,c4,c5,c6,c7,c8,c9]/\DataW.trod enc P w base spare held m f0.type [c0]=some y0/\DataW.trod enc P w base spare held m f1.type [c1]=some y1/\DataW.trod enc P w base spare held m f2.type [c2]=some y2/\DataW.trod enc P w base spare held m f3.type [c3,c4,c5,c6]=some y3/\DataW.trod enc P w base spare held m f4.type [c7]=some y4/\DataW.trod enc P w base spare held m f5.type [c8]=some y5/\DataW.trod enc P w base spare held m f6.type [c9]=some y6:=by
 obtain ⟨xs,m,_,_,hl,hxl,hf⟩:=DataW.trod_struct hs h
 rw [hC] at hl
 match cs,hl,xs,hxl with
 | [c0,c1,c2,c3,c4,c5,c6,c7,c8,c9],_,[y0,y1,y2,y3,y4,y5,y6],_ =>
  have g0:=hf 0 f0 rfl
  rw [o0,k0] at g0
  have g1:=hf 1 f1 rfl
  rw [o1,k1] at g1
  have g2:=hf 2 f2 rfl
  rw [o2,k2] at g2
  have g3:=hf 3 f3 rfl
  rw [o3,k3] at g3
  have g4:=hf 4 f4 rfl
  rw [o4,k4] at g4
  have g5:=hf 5 f5 rfl
  rw [o5,k5] at g5
  have g6:=hf 6 f6 rfl
  rw [o6,k6] at g6
  exact ⟨c0,c1,c2,c3,c4,c5,c6,c7,c8,c9,y0,y1,y2,y3,y4,y5,y6,m,rfl,g0,g1,g2,g3,g4,g5,g6⟩
theorem root_of_trod {n:Nat} {cs:List Value} {x:DataW H×List MemPlace} (h:DataW.trod enc Tryz.prog w base spare held n 78 cs=some x):∃ T Hh F R,cs=[.int .i64 T,.int .i64 Hh,.int .i64 F,.int .i64 R]:=by
 obtain ⟨c0,c1,c2,c3,y0,y1,y2,y3,m,rfl,g0,g1,g2,g3⟩:=openR Tryz.underlying78 rfl rfl rfl rfl (by kernel_rfl) (by kernel_rfl) (by kernel_rfl) (by kernel_rfl) (by kernel_rfl) h
 obtain ⟨a0,rfl⟩:=int_of_trod g0
 obtain ⟨a1,rfl⟩:=int_of_trod g1
 obtain ⟨a2,rfl⟩:=int_of_trod g2
 obtain ⟨a3,rfl⟩:=int_of_trod g3
 exact ⟨a0,a1,a2,a3,rfl⟩
theorem store_of_trod {n:Nat} {cs:List Value} {x:DataW H×List MemPlace} (h:DataW.trod enc Tryz.prog w base spare held n 83 cs=some x):∃ W S L T Hh F R U O a rs c,cs=[.int .i64 W,.int .i64 S,.int .i64 L,.int .i64 T,.int .i64 Hh,.int .i64 F,.int .i64 R,.int .i64 U,.int .i64 O,.slice a rs.length c]/\Prs w a rs/\rs.length<=maxLen/\(∀ s∈rs,s.1.size<=maxLen/\s.2.size<=maxLen):=by
 obtain ⟨c0,c1,c2,c3,c4,c5,c6,c7,c8,c9,y0,y1,y2,y3,y4,y5,y6,m,rfl,g0,g1,g2,g3,g4,g5,g6⟩:=openT Tryz.underlying83 rfl rfl rfl rfl rfl rfl rfl (by kernel_rfl) (by kernel_rfl) (by kernel_rfl) (by kernel_rfl) (by kernel_rfl) (by kernel_rfl) (by kernel_rfl) (by kernel_rfl) h
 obtain ⟨a0,rfl⟩:=int_of_trod g0
 obtain ⟨a1,rfl⟩:=int_of_trod g1
 obtain ⟨a2,rfl⟩:=int_of_trod g2
 obtain ⟨T,Hh,F,R,e3⟩:=root_of_trod g3
 obtain ⟨a4,rfl⟩:=int_of_trod g4
 obtain ⟨a5,rfl⟩:=int_of_trod g5
 obtain ⟨a,rs,c,e6,h1,h2,h3⟩:=state_of_trod g6
 simp only [List.cons.injEq,and_true] at e3 e6
 obtain ⟨rfl,rfl,rfl,rfl⟩:=e3
 subst e6
 exact ⟨a0,a1,a2,T,Hh,F,R,a4,a5,a,rs,c,rfl,h1,h2,h3⟩
end
end Go.Proofs.YtnmaknnnmjfhkagGreatDoor
