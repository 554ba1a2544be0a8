import Derived.Test.YtcdojnnkjeakmaaGreatDoorPrG45
import Derived.Laws.Bits64b
set_option maxHeartbeats 16000000
set_option maxRecDepth 8000
set_option linter.unusedVariables false
set_option linter.unusedSimpArgs false
namespace Go.Proofs.YtcdojnnkjeakmaaGreatDoor
open Go.RowKit
abbrev OpT:=Bool×Int×ByteArray
def Ops (w:World) (a:Option Addr) (rs:List (Bool×Int×ByteArray)):Prop :=
 rs=[]\/∃ b o,a=some ⟨b,o,none⟩/\b<w.heap.size/\∀ i,i<rs.length->w.cell? ⟨b,o+i*3,none⟩=some (.bool (rs.getD i (false,0,ByteArray.empty)).1)/\w.cell? ⟨b,o+i*3+1,none⟩=some (.int .i64 (rs.getD i (false,0,ByteArray.empty)).2.1)/\w.cell? ⟨b,o+i*3+2,none⟩=some (.string (rs.getD i (false,0,ByteArray.empty)).2.2)
theorem Ops.below {w w':World} {a:Option Addr} {rs:List (Bool×Int×ByteArray)} (h:Ops w a rs) (hb:Below w.heap.size w w'):Ops w' a rs:=by
 rcases h with h | ⟨b,o,h1,h2,h3⟩
 ·exact .inl h
 ·exact .inr ⟨b,o,h1,Nat.lt_of_lt_of_le h2 hb.size,fun i hi=>⟨(hb.cell (p:=⟨b,o+i*3,none⟩) h2).trans (h3 i hi).1,(hb.cell (p:=⟨b,o+i*3+1,none⟩) h2).trans (h3 i hi).2.1,(hb.cell (p:=⟨b,o+i*3+2,none⟩) h2).trans (h3 i hi).2.2⟩⟩
theorem Ops.at {w:World} {a:Option Addr} {rs:List (Bool×Int×ByteArray)} (h:Ops w a rs) {k:Nat} (hk:k<rs.length):∃ b o g0 n1 s2,a=some ⟨b,o,none⟩/\w.cell? ⟨b,o+k*3,none⟩=some (.bool g0)/\w.cell? ⟨b,o+k*3+1,none⟩=some (.int .i64 n1)/\w.cell? ⟨b,o+k*3+2,none⟩=some (.string s2)/\Hid ((g0,n1,s2)=rs.getD k (false,0,ByteArray.empty)):=by
 rcases h with h | ⟨b,o,h1,h2,h3⟩
 ·subst h;simp at hk
 ·exact ⟨b,o,_,_,_,h1,(h3 k hk).1,(h3 k hk).2.1,(h3 k hk).2.2,hid rfl⟩
def JFO (rs:List (Bool×Int×ByteArray)):List Value:=rs.flatMap fun x=>[.bool x.1,.int .i64 x.2.1,.string x.2.2]
theorem xfH (a b:List (Bool×Int×ByteArray)):JFO (a++b)=JFO a++JFO b:=by simp [JFO]
theorem JlA (rs:List (Bool×Int×ByteArray)):(JFO rs).length=rs.length*3:=by
 induction rs with
 | nil=>rfl
 | cons x r ih=>simp [JFO] at ih ⊢;omega
theorem yfN:∀ (rs:List (Bool×Int×ByteArray)) (i:Nat),i<rs.length->(JFO rs)[i*3]?=some (.bool (rs.getD i (false,0,ByteArray.empty)).1)/\(JFO rs)[i*3+1]?=some (.int .i64 (rs.getD i (false,0,ByteArray.empty)).2.1)/\(JFO rs)[i*3+2]?=some (.string (rs.getD i (false,0,ByteArray.empty)).2.2)
 | x::r,0,_=>by simp [JFO]
 | x::r,i+1,h=>by
  have ih:=yfN r i (by simpa using h);have e:JFO (x::r)=.bool x.1::.int .i64 x.2.1::.string x.2.2::JFO r:=by simp [JFO]
  rw [e,show (i+1)*3=i*3+3 by omega];simpa using ih
theorem Row.ops {w:World} {g:Nat} {rs:List (Bool×Int×ByteArray)} (h:Row w g (JFO rs)):Ops w (some ⟨g,0,none⟩) rs :=
 .inr ⟨g,0,rfl,h.lt,fun i hi=>by
  rw [Nat.zero_add]
  exact ⟨h.cell _ _ (yfN rs i hi).1,h.cell _ _ (yfN rs i hi).2.1,h.cell _ _ (yfN rs i hi).2.2⟩⟩
theorem Q44:(Tryz.prog.info? 5).map (fun i=>(i.zero,i.size,i.bytes))=some (some (.int .u8 0),1,1):=by kernel_rfl
def vWo:ByteArray:=strOfNums (List.replicate 64 0)
theorem qG7 (a b:Nat) (ha:a<4611686018427387904) (hb:b<4611686018427387904) :
  bits .xor .i64 (a:Int) (b:Int)=((a ^^^ b:Nat):Int):=by
 have hx:a ^^^ b<2 ^ 62:=Nat.xor_lt_two_pow (by omega) (by omega)
 have h1:(BitVec.ofInt 64 (a:Int)).toNat=a:=by
  rw [BitVec.ofInt_natCast,BitVec.toNat_ofNat];exact Nat.mod_eq_of_lt (by omega)
 have h2:(BitVec.ofInt 64 (b:Int)).toNat=b:=by
  rw [BitVec.ofInt_natCast,BitVec.toNat_ofNat];exact Nat.mod_eq_of_lt (by omega)
 show IntKind.i64.wrap ((BitVec.ofInt 64 (a:Int) ^^^ BitVec.ofInt 64 (b:Int)).toNat:Int)=_;rw [BitVec.toNat_xor,h1,h2];simp [IntKind.wrap,IntKind.bits,IntKind.signed];omega
def Prs (w:World) (a:Option Addr) (rs:List (ByteArray×ByteArray)):Prop :=
 rs=[]\/∃ b o,a=some ⟨b,o,none⟩/\b<w.heap.size/\∀ i,i<rs.length->w.cell? ⟨b,o+i*2,none⟩=some (.string (rs.getD i (ByteArray.empty,ByteArray.empty)).1)/\w.cell? ⟨b,o+i*2+1,none⟩=some (.string (rs.getD i (ByteArray.empty,ByteArray.empty)).2)
theorem Prs.below {w w':World} {a:Option Addr} {rs:List (ByteArray×ByteArray)} (h:Prs w a rs) (hb:Below w.heap.size w w'):Prs w' a rs:=by
 rcases h with h | ⟨b,o,h1,h2,h3⟩
 ·exact .inl h
 ·exact .inr ⟨b,o,h1,Nat.lt_of_lt_of_le h2 hb.size,fun i hi=>⟨(hb.cell (p:=⟨b,o+i*2,none⟩) h2).trans (h3 i hi).1,(hb.cell (p:=⟨b,o+i*2+1,none⟩) h2).trans (h3 i hi).2⟩⟩
theorem Prs.at {w:World} {a:Option Addr} {rs:List (ByteArray×ByteArray)} (h:Prs w a rs) {k:Nat} (hk:k<rs.length):∃ b o s0 s1,a=some ⟨b,o,none⟩/\w.cell? ⟨b,o+k*2,none⟩=some (.string s0)/\w.cell? ⟨b,o+k*2+1,none⟩=some (.string s1)/\Hid ((s0,s1)=rs.getD k (ByteArray.empty,ByteArray.empty)):=by
 rcases h with h | ⟨b,o,h1,h2,h3⟩
 ·subst h;simp at hk
 ·exact ⟨b,o,_,_,h1,(h3 k hk).1,(h3 k hk).2,hid rfl⟩
def qJS (rs:List (ByteArray×ByteArray)):List Value:=rs.flatMap fun x=>[.string x.1,.string x.2]
theorem qAB (a b:List (ByteArray×ByteArray)):qJS (a++b)=qJS a++qJS b:=by simp [qJS]
theorem vzd (rs:List (ByteArray×ByteArray)):(qJS rs).length=rs.length*2:=by
 induction rs with
 | nil=>rfl
 | cons x r ih=>simp [qJS] at ih ⊢;omega
theorem xkI:∀ (rs:List (ByteArray×ByteArray)) (i:Nat),i<rs.length->(qJS rs)[i*2]?=some (.string (rs.getD i (ByteArray.empty,ByteArray.empty)).1)/\(qJS rs)[i*2+1]?=some (.string (rs.getD i (ByteArray.empty,ByteArray.empty)).2)
 | x::r,0,_=>by simp [qJS]
 | x::r,i+1,h=>by
  have ih:=xkI r i (by simpa using h);have e:qJS (x::r)=.string x.1::.string x.2::qJS r:=by simp [qJS]
  rw [e,show (i+1)*2=i*2+2 by omega];simpa using ih
theorem Row.prs {w:World} {g:Nat} {rs:List (ByteArray×ByteArray)} (h:Row w g (qJS rs)):Prs w (some ⟨g,0,none⟩) rs :=
 .inr ⟨g,0,rfl,h.lt,fun i hi=>by
  rw [Nat.zero_add]
  exact ⟨h.cell _ _ (xkI rs i hi).1,h.cell _ _ (xkI rs i hi).2⟩⟩
@[reducible] def stV (a:Option Addr) (n c:Nat):Value:=.agg #[.slice a n c]
structure Dep (w:World) (lo hi:Nat) (F:World->Prop):Prop where
 now:F w
 top:hi<=w.heap.size
 keep:∀ w':World,(∀ b,lo<=b->b<hi->w'.heap[b]?=w.heap[b]?)->hi<=w'.heap.size->F w'
theorem Dep.below {w w':World} {lo hi:Nat} {F:World->Prop} (h:Dep w lo hi F) (hb:Below w.heap.size w w'):Dep w' lo hi F :=
 ⟨h.keep w' (fun b _ h2=>hb.block b (Nat.lt_of_lt_of_le h2 h.top)) (Nat.le_trans h.top hb.size),Nat.le_trans h.top hb.size,fun w2 h2 h3=>h.keep w2 (fun b h4 h5=>(h2 b h4 h5).trans (hb.block b (Nat.lt_of_lt_of_le h5 h.top))) h3⟩
theorem Dep.grown {w w':World} {lo hi:Nat} {F:World->Prop} {r:Option Nat} (h:Dep w lo hi F) (hg:w.grownBy w' r) (hr:∀ g,r=some g->g<lo\/hi<=g):Dep w' lo hi F:=by
 have aA:∀ b,lo<=b->b<hi->w'.heap[b]?=w.heap[b]?:=fun b h1 h2=>hg.block b (Nat.lt_of_lt_of_le h2 h.top) (fun e=>by have:=hr b e.symm;omega)
 exact ⟨h.keep w' aA (Nat.le_trans h.top hg.size),Nat.le_trans h.top hg.size,fun w2 h2 h3=>h.keep w2 (fun b h4 h5=>(h2 b h4 h5).trans (aA b h4 h5)) h3⟩
theorem Dep.and {w:World} {lo hi:Nat} {F G:World->Prop} (h:Dep w lo hi F) (k:Dep w lo hi G):Dep w lo hi (fun w=>F w/\G w):=⟨⟨h.now,k.now⟩,h.top,fun w' h1 h2=>⟨h.keep w' h1 h2,k.keep w' h1 h2⟩⟩
theorem Dep.wide {w:World} {lo hi aB aA:Nat} {F:World->Prop} (h:Dep w lo hi F) (h1:aB<=lo) (h2:hi<=aA) (h3:aA<=w.heap.size):Dep w aB aA F:=⟨h.now,h3,fun w' k1 k2=>h.keep w' (fun b a c=>k1 b (by omega) (by omega)) (by omega)⟩
theorem xbT {w w':World} {g:Nat} {cs:List Value} (h:Row w g cs) (e:w'.heap[g]?=w.heap[g]?) (hs:g<w'.heap.size):Row w' g cs :=
 ⟨hs,fun i v hv=>by rw [<-h.cell i v hv];simp [World.cell?,e],fun i hi=>by rw [<-h.froz i hi];simp [World.frozen?,e]⟩
theorem xuV {w:World} {g lo hi:Nat} {cs:List Value} (h:Row w g cs) (h1:lo<=g) (h2:g<hi) (h3:hi<=w.heap.size):Dep w lo hi (fun w=>Row w g cs):=⟨h,h3,fun w' k1 k2=>xbT h (k1 g h1 h2) (by omega)⟩
theorem JKD {w:World} {a:Option Addr} {lo n:Nat} {cs:List Value} (h:OwnS w a cs) (hn:cs≠[]->n≠0) (h1:∀ g,blk a n=some g->lo<=g):Dep w lo w.heap.size (fun w=>OwnS w a cs) :=
 ⟨h,Nat.le_refl _,fun w' k1 k2=>by
  by_cases h0:cs=[]
  ·exact .inl h0
  ·obtain ⟨g,rfl,hr⟩:=h.resolve_left h0
   exact .inr ⟨g,rfl,xbT hr (k1 g (h1 g (qdd _ _ _ (hn h0))) hr.lt) (Nat.lt_of_lt_of_le hr.lt k2)⟩⟩
theorem Dep.cut {w:World} {a:Option Addr} {lo hi:Nat} {cs:List Value} (h:Dep w lo w.heap.size (fun w=>OwnS w a cs)) (h1:∀ g,a=some ⟨g,0,none⟩->cs≠[]->g<hi) (h2:hi<=w.heap.size) (h3:∀ g,a=some ⟨g,0,none⟩->cs≠[]->lo<=g):Dep w lo hi (fun w=>OwnS w a cs) :=
 ⟨h.now,h2,fun w' k1 k2=>by
  by_cases h0:cs=[]
  ·exact .inl h0
  ·obtain ⟨g,rfl,hr⟩:=h.now.resolve_left h0
   exact .inr ⟨g,rfl,xbT hr (k1 g (h3 g rfl h0) (h1 g rfl h0)) (Nat.lt_of_lt_of_le (h1 g rfl h0) k2)⟩⟩
theorem k8j {g n k:Nat} (h:blk (some ⟨g,0,none⟩) n=some k):k=g:=by
 unfold blk at h
 split at h
 ·cases h
 ·simp at h;exact h.symm
theorem Dep.low {w w':World} {lo hi N:Nat} {F:World->Prop} (h:Dep w lo hi F) (hb:Below N w w') (hN:hi<=N):Dep w' lo hi F :=
 ⟨h.keep w' (fun b _ h2=>hb.block b (by omega)) (Nat.le_trans h.top hb.size),Nat.le_trans h.top hb.size,fun w2 h2 h3=>h.keep w2 (fun b h4 h5=>(h2 b h4 h5).trans (hb.block b (by omega))) h3⟩
theorem zle (w:World) (A:Array Value) (t:TypeId):Dep (w.alloc (.cells A t)) w.heap.size (w.heap.size+1) (fun W=>Row W w.heap.size A.toList):=xuV (xER w A t) (Nat.le_refl _) (by omega) (by simp)
theorem bx1 {w v:World} {A:Array Value} {t:TypeId} (e:w.alloc (.cells A t)=v):Below w.heap.size w v/\v.heap.size=w.heap.size+1/\Dep v w.heap.size (w.heap.size+1) (fun W=>Row W w.heap.size A.toList):=by
 subst e;exact ⟨(Below.refl _ _).alloc (Nat.le_refl _) _,by simp,xuV (xER w A t) (Nat.le_refl _) (by omega) (by simp)⟩
theorem qXs {w:World} {g:Nat} {cs:List Value} (h:Row w g cs):Dep w g (g+1) (fun W=>Row W g cs):=xuV h (Nat.le_refl _) (by omega) (by have:=h.lt;omega)
theorem c10 {w:World} {g:Nat} {a0 a1 a2 a3 a4 a5 a6 a7 a8 a9:Value} (h:Row w g [a0,a1,a2,a3,a4,a5,a6,a7,a8,a9]):w.cell? ⟨g,0,none⟩=some a0/\w.cell? ⟨g,1,none⟩=some a1/\w.cell? ⟨g,2,none⟩=some a2/\w.cell? ⟨g,3,none⟩=some a3/\w.cell? ⟨g,4,none⟩=some a4/\w.cell? ⟨g,5,none⟩=some a5/\w.cell? ⟨g,6,none⟩=some a6/\w.cell? ⟨g,7,none⟩=some a7/\w.cell? ⟨g,8,none⟩=some a8/\w.cell? ⟨g,9,none⟩=some a9/\g<w.heap.size :=
 ⟨h.cell 0 _ rfl,h.cell 1 _ rfl,h.cell 2 _ rfl,h.cell 3 _ rfl,h.cell 4 _ rfl,h.cell 5 _ rfl,h.cell 6 _ rfl,h.cell 7 _ rfl,h.cell 8 _ rfl,h.cell 9 _ rfl,h.lt⟩
theorem c12 {w:World} {g:Nat} {a0 a1 a2 a3 a4 a5 a6 a7 a8 a9 aA aB:Value} (h:Row w g [a0,a1,a2,a3,a4,a5,a6,a7,a8,a9,aA,aB]):w.cell? ⟨g,0,none⟩=some a0/\w.cell? ⟨g,1,none⟩=some a1/\w.cell? ⟨g,2,none⟩=some a2/\w.cell? ⟨g,3,none⟩=some a3/\w.cell? ⟨g,4,none⟩=some a4/\w.cell? ⟨g,5,none⟩=some a5/\w.cell? ⟨g,6,none⟩=some a6/\w.cell? ⟨g,7,none⟩=some a7/\w.cell? ⟨g,8,none⟩=some a8/\w.cell? ⟨g,9,none⟩=some a9/\w.cell? ⟨g,10,none⟩=some aA/\w.cell? ⟨g,11,none⟩=some aB/\g<w.heap.size :=
 ⟨h.cell 0 _ rfl,h.cell 1 _ rfl,h.cell 2 _ rfl,h.cell 3 _ rfl,h.cell 4 _ rfl,h.cell 5 _ rfl,h.cell 6 _ rfl,h.cell 7 _ rfl,h.cell 8 _ rfl,h.cell 9 _ rfl,h.cell 10 _ rfl,h.cell 11 _ rfl,h.lt⟩
theorem c16 {w:World} {g:Nat} {a0 a1 a2 a3 a4 a5 a6 a7 a8 a9 aC aD aE aF aB aA:Value} (h:Row w g [a0,a1,a2,a3,a4,a5,a6,a7,a8,a9,aC,aD,aE,aF,aB,aA]):w.cell? ⟨g,0,none⟩=some a0/\w.cell? ⟨g,1,none⟩=some a1/\w.cell? ⟨g,2,none⟩=some a2/\w.cell? ⟨g,3,none⟩=some a3/\w.cell? ⟨g,4,none⟩=some a4/\w.cell? ⟨g,5,none⟩=some a5/\w.cell? ⟨g,6,none⟩=some a6/\w.cell? ⟨g,7,none⟩=some a7/\w.cell? ⟨g,8,none⟩=some a8/\w.cell? ⟨g,9,none⟩=some a9/\w.cell? ⟨g,10,none⟩=some aC/\w.cell? ⟨g,11,none⟩=some aD/\w.cell? ⟨g,12,none⟩=some aE/\w.cell? ⟨g,13,none⟩=some aF/\w.cell? ⟨g,14,none⟩=some aB/\w.cell? ⟨g,15,none⟩=some aA/\g<w.heap.size :=
 ⟨h.cell 0 _ rfl,h.cell 1 _ rfl,h.cell 2 _ rfl,h.cell 3 _ rfl,h.cell 4 _ rfl,h.cell 5 _ rfl,h.cell 6 _ rfl,h.cell 7 _ rfl,h.cell 8 _ rfl,h.cell 9 _ rfl,h.cell 10 _ rfl,h.cell 11 _ rfl,h.cell 12 _ rfl,h.cell 13 _ rfl,h.cell 14 _ rfl,h.cell 15 _ rfl,h.lt⟩
def Pst (w:World) (a:Option Addr) (P:List (List (ByteArray×ByteArray))):Prop :=
 P=[]\/∃ b o,a=some ⟨b,o,none⟩/\b<w.heap.size/\∀ i,i<P.length->∃ p c,w.cell? ⟨b,o+i,none⟩=some (.slice p (P.getD i []).length c)/\Prs w p (P.getD i [])
theorem Pst.below {w w':World} {a:Option Addr} {P:List (List (ByteArray×ByteArray))} (h:Pst w a P) (hb:Below w.heap.size w w'):Pst w' a P:=by
 rcases h with h | ⟨b,o,h1,h2,h3⟩
 ·exact .inl h
 ·refine .inr ⟨b,o,h1,Nat.lt_of_lt_of_le h2 hb.size,fun i hi=>?_⟩
  obtain ⟨p,c,h4,h5⟩:=h3 i hi;exact ⟨p,c,(hb.cell (p:=⟨b,o+i,none⟩) h2).trans h4,h5.below hb⟩
theorem Pst.at {w:World} {a:Option Addr} {P:List (List (ByteArray×ByteArray))} (h:Pst w a P) {k:Nat} (hk:k<P.length):∃ b o p c,a=some ⟨b,o,none⟩/\b<w.heap.size/\w.cell? ⟨b,o+k,none⟩=some (.slice p (P.getD k []).length c)/\Hid (Prs w p (P.getD k [])):=by
 rcases h with h | ⟨b,o,h1,h2,h3⟩
 ·subst h;simp at hk
 ·obtain ⟨p,c,h4,h5⟩:=h3 k hk
  exact ⟨b,o,p,c,h1,h2,h4,hid h5⟩
def pcs (P:List (List (ByteArray×ByteArray))) (gs:Nat->Nat) (k:Nat):List Value:=(List.range P.length).map fun i=>if i<k then .slice (some ⟨gs i,0,none⟩) (P.getD i []).length (P.getD i []).length else .slice none 0 0
theorem yol (P:List (List (ByteArray×ByteArray))) (gs:Nat->Nat) (k:Nat):(pcs P gs k).length=P.length:=by simp [pcs]
theorem zKy (P:List (List (ByteArray×ByteArray))) (gs:Nat->Nat) (k g:Nat) (h:k<P.length):(pcs P gs k).set k (.slice (some ⟨g,0,none⟩) (P.getD k []).length (P.getD k []).length)=pcs P (fun i=>if i=k then g else gs i) (k+1):=by
 apply List.ext_getElem
 ·simp [pcs]
 ·intro i h1 h2
  rw [List.getElem_set]
  by_cases e:k=i
  ·subst e
   simp [pcs]
  ·rw [if_neg e]
   simp only [pcs,List.getElem_map,List.getElem_range]
   by_cases h3:i<k
   ·rw [if_pos h3,if_pos (by omega),if_neg (fun x=>e x.symm)]
   ·rw [if_neg h3,if_neg (by omega)]
structure OwnP (w:World) (g:Nat) (P:List (List (ByteArray×ByteArray))) (gs:Nat->Nat) (k:Nat):Prop where
 row:Row w g (pcs P gs k)
 st:∀ i,i<k->Row w (gs i) (qJS (P.getD i []))/\g<gs i
 asc:∀ i j,i<j->j<k->gs i<gs j
theorem OwnP.below {w w':World} {g k:Nat} {P:List (List (ByteArray×ByteArray))} {gs:Nat->Nat} (h:OwnP w g P gs k) (hb:Below w.heap.size w w'):OwnP w' g P gs k :=
 ⟨h.row.below hb,fun i hi=>⟨(h.st i hi).1.below hb,(h.st i hi).2⟩,h.asc⟩
theorem OwnP.push {w w':World} {g k g1:Nat} {P:List (List (ByteArray×ByteArray))} {gs:Nat->Nat} (h:OwnP w g P gs k) (hb:Below w.heap.size w w') (hg:w.heap.size<=g1) (hr:Row w' g1 (qJS (P.getD k []))) (hk:k<P.length) :
  OwnP (w'.setCell ⟨g,k,none⟩ (.slice (some ⟨g1,0,none⟩) (P.getD k []).length (P.getD k []).length)) g P (fun i=>if i=k then g1 else gs i) (k+1):=by
 have h':=h.below hb;have aB:=h.row.lt;refine ⟨?_,fun i hi=>?_,fun i j aA hj=>?_⟩
 ·rw [<-zKy P gs k g1 hk]
  exact h'.row.set k (by rw [yol];exact hk) _
 ·show Row _ (if i=k then g1 else gs i) _/\g<(if i=k then g1 else gs i)
  by_cases e:i=k
  ·subst e
   rw [if_pos rfl];exact ⟨hr.other _ (by show g≠g1;omega) _,by omega⟩
  ·rw [if_neg e]
   have:=h'.st i (by omega);exact ⟨this.1.other _ (by show g≠gs i;omega) _,this.2⟩
 ·show (if i=k then g1 else gs i)<(if j=k then g1 else gs j)
  rw [if_neg (by omega)]
  by_cases e:j=k
  ·rw [if_pos e]
   have:=(h.st i (by omega)).1.lt;omega
  ·rw [if_neg e]
   exact h.asc i j aA (by omega)
theorem OwnP.pst {w:World} {g:Nat} {P:List (List (ByteArray×ByteArray))} {gs:Nat->Nat} (h:OwnP w g P gs P.length):Pst w (some ⟨g,0,none⟩) P :=
 .inr ⟨g,0,rfl,h.row.lt,fun i hi=>⟨_,_,by rw [Nat.zero_add];exact h.row.cell i (.slice (some ⟨gs i,0,none⟩) (P.getD i []).length (P.getD i []).length) (by simp [pcs,hi]),(h.st i hi).1.prs⟩⟩
def Chs (w:World) (a:Option Addr) (rs:List (ByteArray×ByteArray×Bool)):Prop :=
 rs=[]\/∃ b o,a=some ⟨b,o,none⟩/\b<w.heap.size/\∀ i,i<rs.length->w.cell? ⟨b,o+i*3,none⟩=some (.string (rs.getD i (ByteArray.empty,ByteArray.empty,false)).1)/\w.cell? ⟨b,o+i*3+1,none⟩=some (.string (rs.getD i (ByteArray.empty,ByteArray.empty,false)).2.1)/\w.cell? ⟨b,o+i*3+2,none⟩=some (.bool (rs.getD i (ByteArray.empty,ByteArray.empty,false)).2.2)
theorem Chs.below {w w':World} {a:Option Addr} {rs:List (ByteArray×ByteArray×Bool)} (h:Chs w a rs) (hb:Below w.heap.size w w'):Chs w' a rs:=by
 rcases h with h | ⟨b,o,h1,h2,h3⟩
 ·exact .inl h
 ·exact .inr ⟨b,o,h1,Nat.lt_of_lt_of_le h2 hb.size,fun i hi=>⟨(hb.cell (p:=⟨b,o+i*3,none⟩) h2).trans (h3 i hi).1,(hb.cell (p:=⟨b,o+i*3+1,none⟩) h2).trans (h3 i hi).2.1,(hb.cell (p:=⟨b,o+i*3+2,none⟩) h2).trans (h3 i hi).2.2⟩⟩
theorem Chs.at {w:World} {a:Option Addr} {rs:List (ByteArray×ByteArray×Bool)} (h:Chs w a rs) {k:Nat} (hk:k<rs.length):∃ b o s0 s1 g2,a=some ⟨b,o,none⟩/\w.cell? ⟨b,o+k*3,none⟩=some (.string s0)/\w.cell? ⟨b,o+k*3+1,none⟩=some (.string s1)/\w.cell? ⟨b,o+k*3+2,none⟩=some (.bool g2)/\Hid ((s0,s1,g2)=rs.getD k (ByteArray.empty,ByteArray.empty,false)):=by
 rcases h with h | ⟨b,o,h1,h2,h3⟩
 ·subst h;simp at hk
 ·exact ⟨b,o,_,_,_,h1,(h3 k hk).1,(h3 k hk).2.1,(h3 k hk).2.2,hid rfl⟩
def jlM (rs:List (ByteArray×ByteArray×Bool)):List Value:=rs.flatMap fun x=>[.string x.1,.string x.2.1,.bool x.2.2]
theorem xam (a b:List (ByteArray×ByteArray×Bool)):jlM (a++b)=jlM a++jlM b:=by simp [jlM]
theorem Jjy:∀ (rs:List (ByteArray×ByteArray×Bool)) (i:Nat),i<rs.length->(jlM rs)[i*3]?=some (.string (rs.getD i (ByteArray.empty,ByteArray.empty,false)).1)/\(jlM rs)[i*3+1]?=some (.string (rs.getD i (ByteArray.empty,ByteArray.empty,false)).2.1)/\(jlM rs)[i*3+2]?=some (.bool (rs.getD i (ByteArray.empty,ByteArray.empty,false)).2.2)
 | x::r,0,_=>by simp [jlM]
 | x::r,i+1,h=>by
  have ih:=Jjy r i (by simpa using h);have e:jlM (x::r)=.string x.1::.string x.2.1::.bool x.2.2::jlM r:=by simp [jlM]
  rw [e,show (i+1)*3=i*3+3 by omega];simpa using ih
theorem Row.chs {w:World} {g:Nat} {rs:List (ByteArray×ByteArray×Bool)} (h:Row w g (jlM rs)):Chs w (some ⟨g,0,none⟩) rs :=
 .inr ⟨g,0,rfl,h.lt,fun i hi=>by
  rw [Nat.zero_add]
  exact ⟨h.cell _ _ (Jjy rs i hi).1,h.cell _ _ (Jjy rs i hi).2.1,h.cell _ _ (Jjy rs i hi).2.2⟩⟩
theorem xpe {a b:Bool} (h:a=b):Ending.returned (.bool a)=.returned (.bool b):=by rw [h]
def kOk (k:ByteArray):Bool:=decide (1<=k.size/\k.size<=20)
def vOk (k:ByteArray):Bool:=decide (k.size<=100)
def yO3 (x:ByteArray×ByteArray×Bool):Bool:=kOk x.1 && vOk x.2.1 && !(x.2.2 && decide (x.2.1.size≠0))
def kpJ (rs:List (ByteArray×ByteArray×Bool)):Bool:=decide (1<=rs.length/\rs.length<=20) && rs.all yO3
theorem Qu1 {rs:List (ByteArray×ByteArray×Bool)} (h:¬ (1<=rs.length/\rs.length<=20)):kpJ rs=false:=by simp [kpJ,h]
theorem Z23 {rs:List (ByteArray×ByteArray×Bool)} {x:ByteArray×ByteArray×Bool} (hm:x∈rs) (h:yO3 x=false):kpJ rs=false:=by
 have:rs.all yO3=false:=List.all_eq_false.2 ⟨x,hm,by simp [h]⟩;simp [kpJ,this]
theorem zAI {rs:List (ByteArray×ByteArray×Bool)} (h:1<=rs.length/\rs.length<=20) (h1:∀ x∈rs,yO3 x=true):kpJ rs=true:=by
 simp only [kpJ,Bool.and_eq_true,decide_eq_true_eq,List.all_eq_true];exact ⟨h,h1⟩
theorem q4Z {rs:List (ByteArray×ByteArray×Bool)} (h:kpJ rs=true):(1<=rs.length/\rs.length<=20)/\∀ x∈rs,yO3 x=true:=by
 simp only [kpJ,Bool.and_eq_true,decide_eq_true_eq,List.all_eq_true] at h;exact h
theorem Z0I (s:ByteArray) (w:World) (hs:s.size<=1048576):Calls Tryz.prog 89 #[.string s] w fun e w'=>e=.returned (.bool (kOk s))/\w'=w:=by
 unfold kOk
 by_cases h1:1<=s.size
 ·by_cases h2:s.size<=20
  ·go_enter Tryz.func89,Tryz.ntmps89
   go_wp2;go_ret;exact ⟨xpe (by simp [h1,h2]<;>omega),rfl⟩
  ·go_enter Tryz.func89,Tryz.ntmps89
   go_wp2;go_ret;exact ⟨xpe (by simp [h2]<;>omega),rfl⟩
 ·go_enter Tryz.func89,Tryz.ntmps89
  go_wp2;go_ret;exact ⟨xpe (by simp<;>omega),rfl⟩
theorem QHK {k v:ByteArray} {g:Bool} (h:kOk k=false):yO3 (k,v,g)=false:=by simp [yO3,h]
theorem jlA {k v:ByteArray} {g:Bool} (h:vOk v=false):yO3 (k,v,g)=false:=by simp [yO3,h]
theorem zd4 {k v:ByteArray} (h:v.toList.isEmpty=false):yO3 (k,v,true)=false:=by
 rw [vOw] at h;have:v.size≠0:=by simpa using h
 simp [yO3,this]
theorem jAK {k v:ByteArray} (h:kOk k=true) (h2:vOk v=true):yO3 (k,v,false)=true:=by simp [yO3,h,h2]
theorem kja {k v:ByteArray} (h:kOk k=true) (h2:vOk v=true) (h3:v.toList.isEmpty=true):yO3 (k,v,true)=true:=by
 rw [vOw] at h3;have:v.size=0:=by simpa using h3
 simp [yO3,h,h2,this]
theorem vkv {α:Type} {rs:List α} {k:Nat} {x d:α} {f:α->Bool} (aA:k<rs.length) (HA:∀ y∈rs.take k,f y=true) (HS:x=rs.getD k d) (hx:f x=true):∀ y∈rs.take (k+1),f y=true:=by
 intro y hy;rw [List.take_succ_eq_append_getElem aA] at hy;rcases List.mem_append.1 hy with hy | hy
 ·exact HA y hy
 ·simp at hy
  simp [List.getD,aA] at HS;rw [hy,<-HS];exact hx
theorem xly (a:Option Addr) (rs:List (ByteArray×ByteArray×Bool)) (c:Nat) (w:World) (h:Chs w a rs) (hl:rs.length<=1048576) (hs:∀ x∈rs,x.1.size<=1048576/\x.2.1.size<=1048576) :
  Calls Tryz.prog 72 #[.slice a rs.length c] w fun e w'=>e=.returned (.bool (kpJ rs))/\Below w.heap.size w w':=by
 obtain ⟨R,HR⟩:∃ R,Hid (R=kpJ rs):=⟨_,hid rfl⟩;rw [<-HR.out]
 by_cases hn:1<=(rs.length:Int)
 ·by_cases hp:(rs.length:Int)<=20
  ·go_enter Tryz.func72,Tryz.ntmps72
   go_wp2;go_loopw [3] (fun i wr=>∃ k:Nat,k<=rs.length/\i=.int .i64 k/\Hid (∀ x∈rs.take k,yO3 x=true)/\Below w.heap.size w wr) (fun i _=>rs.length-(intOf i).toNat)
   case atStart=>exact ⟨0,Nat.zero_le _,rfl,by show ∀ s∈rs.take 0,_;simp,Below.refl _ _⟩
   case round =>
    obtain ⟨k,hk,rfl,HA,aA⟩:=hrel
    by_cases aC:k<rs.length
    ·obtain ⟨b,o,s0,s1,g2,rfl,aJ,aG,aI,HS⟩:=(h.below aA).at aC
     have hm:Hid ((s0,s1,g2)∈rs):=by show _∈_;rw [HS.out];simp [List.getD,aC]
     obtain ⟨aB,aH⟩:=hs _ hm.out;have aF:(k:Int)<(rs.length:Int):=by omega
     have aK:(0:Int)<=(k:Int):=by omega
     cases hk1:kOk s0 with
     | false =>
      go_wp2_with (go_at_call 89;refine (Z0I _ _ aB).mono ?_;rw [hk1];rintro e w2 ⟨rfl,rfl⟩);go_ret;exact ⟨xpe (by rw [HR.out];exact (Z23 hm.out (QHK hk1)).symm),aA⟩
     | true =>
      cases hv1:vOk s1 with
      | false =>
       have aE:(100:Int)<(s1.size:Int):=by simp [vOk] at hv1;omega
       go_wp2_with (go_at_call 89;refine (Z0I _ _ aB).mono ?_;rw [hk1];rintro e w2 ⟨rfl,rfl⟩);go_ret;exact ⟨xpe (by rw [HR.out];exact (Z23 hm.out (jlA hv1)).symm),aA⟩
      | true =>
       have aE:(s1.size:Int)<=100:=by simp [vOk] at hv1;omega
       cases g2 with
       | false =>
        go_wp2_with (go_at_call 89;refine (Z0I _ _ aB).mono ?_;rw [hk1];rintro e w2 ⟨rfl,rfl⟩);go_roundw
        case rel=>exact ⟨k+1,by omega,by go_num,vkv aC HA.out HS.out (jAK hk1 hv1),aA⟩
        case measure=>simp [intOf];omega
       | true =>
        cases he:s1.toList.isEmpty with
        | false =>
         go_wp2_with (go_at_call 89;refine (Z0I _ _ aB).mono ?_;rw [hk1];rintro e w2 ⟨rfl,rfl⟩);go_ret;exact ⟨xpe (by rw [HR.out];exact (Z23 hm.out (zd4 he)).symm),aA⟩
        | true =>
         go_wp2_with (go_at_call 89;refine (Z0I _ _ aB).mono ?_;rw [hk1];rintro e w2 ⟨rfl,rfl⟩);go_roundw
         case rel=>exact ⟨k+1,by omega,by go_num,vkv aC HA.out HS.out (kja hk1 hv1 he),aA⟩
         case measure=>simp [intOf];omega
    ·have aD:Hid (∀ s∈rs,yO3 s=true):=by have:=HA.out;rwa [List.take_of_length_le (by omega)] at this
     clear HA;go_wp2;go_ret;exact ⟨xpe (by rw [HR.out];exact (zAI (by omega) aD.out).symm),aA⟩
  ·go_enter Tryz.func72,Tryz.ntmps72
   go_wp2;go_ret;exact ⟨xpe (by rw [HR.out];exact (Qu1 (by omega)).symm),Below.refl _ _⟩
 ·go_enter Tryz.func72,Tryz.ntmps72
  go_wp2;go_ret;exact ⟨xpe (by rw [HR.out];exact (Qu1 (by omega)).symm),Below.refl _ _⟩
end Go.Proofs.YtcdojnnkjeakmaaGreatDoor
