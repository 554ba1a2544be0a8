import Derived.OneCell
import Derived.Test.YthdilmkbnpmdaaaPrG51
import Derived.Test.YthdilmkbnpmdaaaPrSh5
import Derived.RangeFuncNested
import Derived.RangeFuncBound
import Derived.RangeFuncCalls
import Derived.RangeFuncLeaves
import Derived.RangeFuncBox
import Derived.Shelf.Abstract
import Derived.Shelf.RegionOpenV
import Derived.OwnWalkIn
import Derived.TacticsInMore
import Derived.LoopNIn
import Derived.LoopIn
import Derived.Sort.QuietIn
import Derived.Maps.AppendAt
import Derived.Maps.OwnIn
set_option maxHeartbeats 16000000
set_option maxRecDepth 8000
set_option linter.unusedVariables false
set_option linter.unusedSimpArgs false
namespace Go.Proofs.Ythdilmkbnpmdaaa
open Go.RowKit
section
theorem owns_below {w w':World} {base:Nat} {e:TypeId} {size:Nat} {v:Value} {n:Nat} {xs:List Value} (h:w.ownsRow base e size v n xs) (hb:Below w.heap.size w w'):w'.ownsRow base e size v n xs:=by
 refine ⟨h.1,?_⟩
 rcases h.2 with h0 | ⟨g,cap,cur,h1,h2,h3,h4⟩
 ·exact .inl h0
 ·refine .inr ⟨g,cap,cur,h1,h2,?_,h4⟩
  have hlt:g<w.heap.size:=by
   rcases Nat.lt_or_ge g w.heap.size with h | h
   ·exact h
   ·rw [Array.getElem?_eq_none h] at h3;cases h3
  rw [hb.block g hlt];exact h3
theorem owns_row {w:World} {base:Nat} {e:TypeId} {size:Nat} {g n cap:Nat} {xs:List Value} (h:w.ownsRow base e size (.slice (some ⟨g,0,none⟩) n cap) n xs):Row w g xs:=by
 have hl:=(h.lt g rfl).2
 refine ⟨hl,fun i v hv=>?_,fun i hi=>?_⟩
 ·have:=h.cells (g:=g) rfl i v hv
  have ha:(⟨g,0,none⟩:Addr).add i=⟨g,i,none⟩:=by unfold Addr.add;split<;>simp_all
  rwa [ha] at this
 ·rcases h.2 with ⟨h0,_⟩ | ⟨g',cap',cur,h1,_,h3,_⟩
  ·cases h0
  ·simp at h1
   rw [<-h1.1] at h3
   simp [World.frozen?,h3]
theorem owns_forms {w:World} {base:Nat} {e:TypeId} {size:Nat} {v:Value} {n:Nat} {xs:List Value} (h:w.ownsRow base e size v n xs):(v=.slice none 0 0/\n=0)\/∃ g cap,v=.slice (some ⟨g,0,none⟩) n cap/\base<=g/\g<w.heap.size/\Row w g xs:=by
 rcases h.2 with h0 | ⟨g,cap,cur,h1,h2,h3,h4⟩
 ·exact .inl h0
 ·subst h1
  exact .inr ⟨g,cap,rfl,h2,(h.lt g rfl).2,owns_row h⟩
structure Dsk (W w:World) (R D base:Nat) (e e':TypeId) (v v':Value) (ss:List ByteArray) (ws:List (Int×ByteArray)):Prop where
 hR:W.heap.size<=R
 hR':R<base
 hD:W.heap.size<=D
 hD':D<base
 ne:R≠D
 sz:base<=w.heap.size
 bel:Below W.heap.size W w
 r0:w.cell? ⟨R,0,none⟩=some (.slice none 0 0)
 r1:w.cell? ⟨R,1,none⟩=some (.slice none 0 0)
 fr0:w.frozen? ⟨R,0,none⟩=false
 fr1:w.frozen? ⟨R,1,none⟩=false
 d0:w.cell? ⟨D,0,none⟩=some v
 d1:w.cell? ⟨D,1,none⟩=some v'
 fd0:w.frozen? ⟨D,0,none⟩=false
 fd1:w.frozen? ⟨D,1,none⟩=false
 own:w.ownsRow base e 1 v ss.length (ss.map Value.string)
 own':w.ownsRow base e' 2 v' ws.length (wcells ws)
 apart:v.ownBlock=none\/v'.ownBlock=none\/v.ownBlock≠v'.ownBlock
section
variable {W w w':World} {R D base:Nat} {e e':TypeId} {v v':Value} {ss:List ByteArray} {ws:List (Int×ByteArray)}
theorem Dsk.below (h:Dsk W w R D base e e' v v' ss ws) (hb:Below w.heap.size w w'):Dsk W w' R D base e e' v v' ss ws :=
 have lR:R<w.heap.size:=Nat.lt_of_lt_of_le h.hR' h.sz
 have lD:D<w.heap.size:=Nat.lt_of_lt_of_le h.hD' h.sz
 have lW:W.heap.size<=w.heap.size:=h.bel.size
 ⟨h.hR,h.hR',h.hD,h.hD',h.ne,Nat.le_trans h.sz hb.size,h.bel.trans (hb.mono lW),(hb.cell (p:=⟨R,0,none⟩) lR).trans h.r0,(hb.cell (p:=⟨R,1,none⟩) lR).trans h.r1,(hb.frozen (p:=⟨R,0,none⟩) lR).trans h.fr0,(hb.frozen (p:=⟨R,1,none⟩) lR).trans h.fr1,
  (hb.cell (p:=⟨D,0,none⟩) lD).trans h.d0,(hb.cell (p:=⟨D,1,none⟩) lD).trans h.d1,(hb.frozen (p:=⟨D,0,none⟩) lD).trans h.fd0,(hb.frozen (p:=⟨D,1,none⟩) lD).trans h.fd1,owns_below h.own hb,owns_below h.own' hb,h.apart⟩
theorem Dsk.drew (h:Dsk W w R D base e e' v v' ss ws):Dsk W w.drew R D base e e' v v' ss ws:=h.below ((Below.refl _ _).drew)
theorem Dsk.alloc (h:Dsk W w R D base e e' v v' ss ws) (o:Obj):Dsk W (w.alloc o) R D base e e' v v' ss ws:=h.below ((Below.refl _ _).alloc (Nat.le_refl _) _)
theorem Dsk.push (h:Dsk W w R D base e e' v v' ss ws) {w1:World} {g cap H:Nat} {s:ByteArray} (hown:w1.ownsRow base e 1 (.slice (some ⟨g,0,none⟩) (ss.length+1) cap) (ss.length+1) (ss.map Value.string++[.string s])) (hg:w.grownBy w1 v.ownBlock) (hat:v.ownBlock=some g\/g=H) (hH:w.heap.size=H) :
  Dsk W (w1.setCell ⟨D,0,none⟩ (.slice (some ⟨g,0,none⟩) (ss.length+1) cap)) R D base e e' (.slice (some ⟨g,0,none⟩) (ss.length+1) cap) v' (ss++[s]) ws:=by
 have lR:R<w.heap.size:=Nat.lt_of_lt_of_le h.hR' h.sz
 have lD:D<w.heap.size:=Nat.lt_of_lt_of_le h.hD' h.sz
 have lW:W.heap.size<=w.heap.size:=h.bel.size
 have nb:∀ k,k<base->some k≠v.ownBlock:=fun k hk he=>by have:=(h.own.lt k he.symm).1;omega
 have cR:∀ i,w1.cell? ⟨R,i,none⟩=w.cell? ⟨R,i,none⟩:=fun i=>hg.cell_far ⟨R,i,none⟩ lR (nb R h.hR')
 have cD:∀ i,w1.cell? ⟨D,i,none⟩=w.cell? ⟨D,i,none⟩:=fun i=>hg.cell_far ⟨D,i,none⟩ lD (nb D h.hD')
 have fR:∀ i,w1.frozen? ⟨R,i,none⟩=w.frozen? ⟨R,i,none⟩:=fun i=>hg.frozen_far ⟨R,i,none⟩ lR (nb R h.hR')
 have fD:∀ i,w1.frozen? ⟨D,i,none⟩=w.frozen? ⟨D,i,none⟩:=fun i=>hg.frozen_far ⟨D,i,none⟩ lD (nb D h.hD')
 have gb:base<=g:=(hown.lt g rfl).1
 have hbel:Below W.heap.size W w1:=h.bel.trans ⟨hg.os,hg.tape,hg.output,hg.size,fun k hk=>hg.block k (by omega) (nb k (by have:=h.hR;have:=h.hR';omega))⟩
 have ap:v'.ownBlock=none\/(Value.slice (some ⟨g,0,none⟩) (ss.length+1) cap).ownBlock≠v'.ownBlock:=by
  cases hv':v'.ownBlock with
  | none=>exact .inl rfl
  | some g' =>
   refine .inr fun he=>?_
   have hgg:g=g':=by simpa [Value.ownBlock] using he
   have lt':=(h.own'.lt g' hv').2
   rcases hat with h1 | h1
   ·rcases h.apart with h2 | h2 | h2
    ·rw [h1] at h2;cases h2
    ·rw [hv'] at h2;cases h2
    ·rw [h1,hv',hgg] at h2;exact h2 rfl
   ·omega
 refine ⟨h.hR,h.hR',h.hD,h.hD',h.ne,?_,hbel.setCell h.hD _,?_,?_,?_,?_,?_,?_,?_,?_,?_,?_,?_⟩
 ·have:=hg.size;have:=h.sz;simp only [World.size_setCell];omega
 ·rw [World.cell?_setCell_other (w:=w1) (h:=show (⟨D,0,none⟩:Addr)≠⟨R,0,none⟩ from fun he=>h.ne (by injection he with h1;exact h1.symm)),cR];exact h.r0
 ·rw [World.cell?_setCell_other (w:=w1) (h:=show (⟨D,0,none⟩:Addr)≠⟨R,1,none⟩ from fun he=>h.ne (by injection he with h1;exact h1.symm)),cR];exact h.r1
 ·rw [World.frozen?_setCell,fR];exact h.fr0
 ·rw [World.frozen?_setCell,fR];exact h.fr1
 ·exact World.cell?_setCell_same w1 _ _ ((cD 0).trans h.d0)
 ·rw [World.cell?_setCell_other (w:=w1) (h:=show (⟨D,0,none⟩:Addr)≠⟨D,1,none⟩ by simp),cD];exact h.d1
 ·rw [World.frozen?_setCell,fD];exact h.fd0
 ·rw [World.frozen?_setCell,fD];exact h.fd1
 ·have:=ownsRow_setCell_below hown (a:=⟨D,0,none⟩) h.hD' (.slice (some ⟨g,0,none⟩) (ss.length+1) cap)
  simpa using this
 ·have k1:w1.ownsRow base e' 2 v' ws.length (wcells ws):=h.own'.kept hg (by
   rcases h.apart with h2 | h2 | h2
   ·cases hv':v'.ownBlock with
    | none=>exact .inl rfl
    | some _=>rw [h2];exact .inr (by simp)
   ·exact .inl h2
   ·exact .inr (fun he=>h2 he.symm))
  exact ownsRow_setCell_below k1 (a:=⟨D,0,none⟩) h.hD' _
 ·exact .inr ap
theorem Dsk.push2 (h:Dsk W w R D base e e' v v' ss ws) {w1:World} {g cap H:Nat} {x:Int×ByteArray} (hown:w1.ownsRow base e' 2 (.slice (some ⟨g,0,none⟩) (ws.length+1) cap) (ws.length+1) (wcells ws++[.int .i64 x.1,.string x.2])) (hg:w.grownBy w1 v'.ownBlock) (hat:v'.ownBlock=some g\/g=H) (hH:w.heap.size=H) :
  Dsk W (w1.setCell ⟨D,1,none⟩ (.slice (some ⟨g,0,none⟩) (ws.length+1) cap)) R D base e e' v (.slice (some ⟨g,0,none⟩) (ws.length+1) cap) ss (ws++[x]):=by
 have lR:R<w.heap.size:=Nat.lt_of_lt_of_le h.hR' h.sz
 have lD:D<w.heap.size:=Nat.lt_of_lt_of_le h.hD' h.sz
 have lW:W.heap.size<=w.heap.size:=h.bel.size
 have nb:∀ k,k<base->some k≠v'.ownBlock:=fun k hk he=>by have:=(h.own'.lt k he.symm).1;omega
 have cR:∀ i,w1.cell? ⟨R,i,none⟩=w.cell? ⟨R,i,none⟩:=fun i=>hg.cell_far ⟨R,i,none⟩ lR (nb R h.hR')
 have cD:∀ i,w1.cell? ⟨D,i,none⟩=w.cell? ⟨D,i,none⟩:=fun i=>hg.cell_far ⟨D,i,none⟩ lD (nb D h.hD')
 have fR:∀ i,w1.frozen? ⟨R,i,none⟩=w.frozen? ⟨R,i,none⟩:=fun i=>hg.frozen_far ⟨R,i,none⟩ lR (nb R h.hR')
 have fD:∀ i,w1.frozen? ⟨D,i,none⟩=w.frozen? ⟨D,i,none⟩:=fun i=>hg.frozen_far ⟨D,i,none⟩ lD (nb D h.hD')
 have gb:base<=g:=(hown.lt g rfl).1
 have hbel:Below W.heap.size W w1:=h.bel.trans ⟨hg.os,hg.tape,hg.output,hg.size,fun k hk=>hg.block k (by omega) (nb k (by have:=h.hR;have:=h.hR';omega))⟩
 have ap:v.ownBlock=none\/v.ownBlock≠(Value.slice (some ⟨g,0,none⟩) (ws.length+1) cap).ownBlock:=by
  cases hv:v.ownBlock with
  | none=>exact .inl rfl
  | some g' =>
   refine .inr fun he=>?_
   have hgg:g'=g:=by simpa [Value.ownBlock] using he
   have lt':=(h.own.lt g' hv).2
   rcases hat with h1 | h1
   ·rcases h.apart with h2 | h2 | h2
    ·rw [hv] at h2;cases h2
    ·rw [h1] at h2;cases h2
    ·rw [h1,hv,hgg] at h2;exact h2 rfl
   ·omega
 refine ⟨h.hR,h.hR',h.hD,h.hD',h.ne,?_,hbel.setCell h.hD _,?_,?_,?_,?_,?_,?_,?_,?_,?_,?_,?_⟩
 ·have:=hg.size;have:=h.sz;simp only [World.size_setCell];omega
 ·rw [World.cell?_setCell_other (w:=w1) (h:=show (⟨D,1,none⟩:Addr)≠⟨R,0,none⟩ from fun he=>h.ne (by injection he with h1;exact h1.symm)),cR];exact h.r0
 ·rw [World.cell?_setCell_other (w:=w1) (h:=show (⟨D,1,none⟩:Addr)≠⟨R,1,none⟩ from fun he=>h.ne (by injection he with h1;exact h1.symm)),cR];exact h.r1
 ·rw [World.frozen?_setCell,fR];exact h.fr0
 ·rw [World.frozen?_setCell,fR];exact h.fr1
 ·rw [World.cell?_setCell_other (w:=w1) (h:=show (⟨D,1,none⟩:Addr)≠⟨D,0,none⟩ by simp),cD];exact h.d0
 ·exact World.cell?_setCell_same w1 _ _ ((cD 1).trans h.d1)
 ·rw [World.frozen?_setCell,fD];exact h.fd0
 ·rw [World.frozen?_setCell,fD];exact h.fd1
 ·have k1:w1.ownsRow base e 1 v ss.length (ss.map Value.string):=h.own.kept hg (by
   rcases h.apart with h2 | h2 | h2
   ·exact .inl h2
   ·cases hv:v.ownBlock with
    | none=>exact .inl rfl
    | some _=>rw [h2];exact .inr (by simp)
   ·exact .inr h2)
  exact ownsRow_setCell_below k1 (a:=⟨D,1,none⟩) h.hD' _
 ·have:=ownsRow_setCell_below hown (a:=⟨D,1,none⟩) h.hD' (.slice (some ⟨g,0,none⟩) (ws.length+1) cap)
  rw [List.length_append,wcells_append]
  exact this
 ·rcases ap with h1 | h1
  ·exact .inl h1
  ·exact .inr (.inr h1)
theorem Dsk.grown {w1:World} (h:Dsk W w R D base e e' v v' ss ws) (hg:w.grownBy w1 v.ownBlock):w1.cell? ⟨D,0,none⟩=some v/\w1.frozen? ⟨D,0,none⟩=false:=by
 have lD:D<w.heap.size:=Nat.lt_of_lt_of_le h.hD' h.sz
 have nb:some D≠v.ownBlock:=fun he=>by have:=(h.own.lt D he.symm).1;have:=h.hD';omega
 exact ⟨(hg.cell_far ⟨D,0,none⟩ lD nb).trans h.d0,(hg.frozen_far ⟨D,0,none⟩ lD nb).trans h.fd0⟩
theorem Dsk.grown2 {w1:World} (h:Dsk W w R D base e e' v v' ss ws) (hg:w.grownBy w1 v'.ownBlock):w1.cell? ⟨D,1,none⟩=some v'/\w1.frozen? ⟨D,1,none⟩=false:=by
 have lD:D<w.heap.size:=Nat.lt_of_lt_of_le h.hD' h.sz
 have nb:some D≠v'.ownBlock:=fun he=>by have:=(h.own'.lt D he.symm).1;have:=h.hD';omega
 exact ⟨(hg.cell_far ⟨D,1,none⟩ lD nb).trans h.d1,(hg.frozen_far ⟨D,1,none⟩ lD nb).trans h.fd1⟩
end
end
def chN (x:ByteArray×ByteArray×Bool):List Int:=if x.2.2 then [1]++([(x.1.size:Int)]++nums x.1) else [0]++([(x.1.size:Int)]++nums x.1)++([(x.2.1.size:Int)]++nums x.2.1)
def bForm (rs:List (ByteArray×ByteArray×Bool)):ByteArray:=strOfNums (rs.flatMap chN)
theorem bForm_nil:bForm []=ByteArray.empty:=rfl
theorem chN_size (x:ByteArray×ByteArray×Bool) (h:chOk x=true):(strOfNums (chN x)).size<=123:=by
 rw [strOfNums_size]
 unfold chOk kOk vOk at h
 simp only [Bool.and_eq_true,decide_eq_true_eq] at h
 unfold chN
 split
 ·simp [nums_length];omega
 ·simp [nums_length];omega
theorem bForm_size (rs:List (ByteArray×ByteArray×Bool)) (h:∀ x∈rs,chOk x=true):(bForm rs).size<=123*rs.length:=by
 induction rs with
 | nil=>simp [bForm_nil]
 | cons x r ih =>
  have h1:=ih (fun y hy=>h y (List.mem_cons_of_mem _ hy))
  have h2:=chN_size x (h x (List.mem_cons_self))
  have e:bForm (x::r)=strOfNums (chN x)++bForm r:=by unfold bForm;rw [List.flatMap_cons,strOfNums_append]
  rw [e,ByteArray.size_append,List.length_cons]
  omega
def bOut (rs:List (ByteArray×ByteArray×Bool)):ByteArray:=if batchOk rs=true then bForm rs else ByteArray.empty
abbrev Ch:=ByteArray×ByteArray×Bool
def b0 (r:ByteArray):Nat:=(r.data.toList.getD 0 0).toNat
theorem b0_lt (r:ByteArray):b0 r<=255:=by unfold b0;have:=UInt8.toNat_lt (r.data.toList.getD 0 0);omega
theorem nums_extractR (r:ByteArray) (a b:Nat):nums (r.extract a b)=((nums r).drop a).take (b-a):=by
 unfold nums
 rw [ByteArray.data_extract,Array.toList_extract,List.extract_eq_take_drop,List.map_take,List.map_drop]
theorem nums_head (r:ByteArray) (h:0<r.size):nums r=(b0 r:Int)::(nums r).drop 1:=by
 have hl:0<r.data.toList.length:=h
 unfold nums b0
 match r.data.toList,hl with
 | x::l,_=>simp
theorem nums_inj {r s:ByteArray} (h:nums r=nums s):r=s:=by rw [<-strOfNums_nums r,h,strOfNums_nums]
theorem nums_range (r:ByteArray):∀ y∈nums r,0<=y/\y<=255:=by
 intro y hy
 unfold nums at hy
 obtain ⟨c,_,rfl⟩:=List.mem_map.1 hy
 have:=UInt8.toNat_lt c
 omega
theorem nums_strOfNumsR:∀ (xs:List Int),(∀ y∈xs,0<=y/\y<=255)->nums (strOfNums xs)=xs
 | [],_=>rfl
 | x::l,h=>by
  have ih:=nums_strOfNumsR l (fun y hy=>h y (List.mem_cons_of_mem _ hy))
  have hx:=h x (List.mem_cons_self)
  simp only [nums,strOfNums] at ih ⊢
  simp only [List.map_cons,List.map_map,List.toList_toArray] at ih ⊢
  simp [List.map_eq_map_iff] at ih ⊢
  constructor
  ·omega
  ·exact ih
def pc (r:ByteArray):Option (ByteArray×ByteArray):=if 1<=r.size/\1+b0 r<=r.size then some (r.extract 1 (1+b0 r),r.extract (1+b0 r) r.size) else none
theorem pc_some {r k m:ByteArray} (h:pc r=some (k,m)):nums r=[(k.size:Int)]++nums k++nums m/\k.size<=255:=by
 unfold pc at h
 split at h
 ·rename_i hc
  simp only [Option.some.injEq,Prod.mk.injEq] at h
  obtain ⟨rfl,rfl⟩:=h
  have hk:(r.extract 1 (1+b0 r)).size=b0 r:=by simp only [ByteArray.size_extract];omega
  refine ⟨?_,by rw [hk];exact b0_lt r⟩
  rw [hk,nums_extractR,nums_extractR]
  have hn:=nums_head r (by omega)
  have e1:r.size-(1+b0 r)=(nums r).length-(1+b0 r):=by rw [nums_length]
  rw [e1,<-List.length_drop,List.take_length]
  have e2:1+b0 r-1=b0 r:=by omega
  rw [e2]
  have e3:(nums r).drop (1+b0 r)=((nums r).drop 1).drop (b0 r):=by rw [List.drop_drop]
  rw [e3,List.append_assoc,List.take_append_drop]
  exact hn
 ·cases h
def stp (r:ByteArray):Option (Ch×ByteArray) :=
 match pc (r.extract 1 r.size) with
 | none=>none
 | some (k,m)=>if b0 r=1 then some ((k,ByteArray.empty,true),m) else
  match pc m with
  | none=>none
  | some (v,m')=>some ((k,v,false),m')
theorem nums_tail (r:ByteArray):nums (r.extract 1 r.size)=(nums r).drop 1:=by
 rw [nums_extractR]
 have e1:r.size-1=((nums r).drop 1).length:=by rw [List.length_drop,nums_length]
 rw [e1,List.take_length]
theorem stp_some {r r1:ByteArray} {c:Ch} (hr:0<r.size) (h:stp r=some (c,r1)):c.1.size<=255/\c.2.1.size<=255/\∃ t,chN c++nums r1=(if b0 r=1 then 1 else 0)::t/\nums r=(b0 r:Int)::t:=by
 unfold stp at h
 split at h
 ·cases h
 ·rename_i k m hp
  obtain ⟨h1,h2⟩:=pc_some hp
  rw [nums_tail] at h1
  have hn:=nums_head r hr
  split at h
  ·rename_i hb
   simp only [Option.some.injEq,Prod.mk.injEq] at h
   obtain ⟨rfl,rfl⟩:=h
   refine ⟨h2,by simp,_,?_,hn⟩
   rw [h1,if_pos hb]
   simp [chN]
  ·rename_i hb
   split at h
   ·cases h
   ·rename_i v m' hq
    obtain ⟨h3,h4⟩:=pc_some hq
    simp only [Option.some.injEq,Prod.mk.injEq] at h
    obtain ⟨rfl,rfl⟩:=h
    refine ⟨h2,h4,_,?_,hn⟩
    rw [h1,h3,if_neg hb]
    simp [chN]
def run:Nat->ByteArray->List Ch->Option (List Ch×ByteArray)
 | 0,r,o=>some (o,r)
 | n+1,r,o=>if r.size=0 then some (o,r) else
  match stp r with
  | none=>none
  | some (c,r')=>run n r' (o++[c])
def runI:Nat->ByteArray->List Ch->Option (List Ch×ByteArray)
 | 0,r,o=>some (o,r)
 | n+1,r,o=>if r.size=0 then some (o,r) else if 1<b0 r then none else
  match stp r with
  | none=>none
  | some (c,r')=>runI n r' (o++[c])
theorem run_nil (n:Nat) (o:List Ch) (r:ByteArray) (h:r.size=0):run n r o=some (o,r):=by cases n<;>simp [run,h]
theorem run_facts:∀ (n:Nat) (r:ByteArray) (o o':List Ch) (r':ByteArray),run n r o=some (o',r') ->
  ∃ l,o'=o++l/\(∀ x∈l,x.1.size<=255/\x.2.1.size<=255)/\(r'.size=0\/l.length=n) /\
   ((runI n r o=some (o',r')/\l.flatMap chN++nums r'=nums r)\/(runI n r o=none/\∀ z,l.flatMap chN++z≠nums r))
 | 0,r,o,o',r',h=>by
  simp only [run,Option.some.injEq,Prod.mk.injEq] at h
  obtain ⟨rfl,rfl⟩:=h
  exact ⟨[],by simp,by simp,.inr rfl,.inl ⟨rfl,by simp⟩⟩
 | n+1,r,o,o',r',h=>by
  by_cases hz:r.size=0
  ·rw [run,if_pos hz] at h
   simp only [Option.some.injEq,Prod.mk.injEq] at h
   obtain ⟨rfl,rfl⟩:=h
   exact ⟨[],by simp,by simp,.inl hz,.inl ⟨by rw [runI,if_pos hz],by simp⟩⟩
  ·rw [run,if_neg hz] at h
   cases hs:stp r with
   | none=>rw [hs] at h;cases h
   | some p =>
    obtain ⟨c,r1⟩:=p
    rw [hs] at h
    obtain ⟨k1,k2,t,k3,k4⟩:=stp_some (by omega) hs
    obtain ⟨l,e1,e2,e3,e4⟩:=run_facts n r1 (o++[c]) o' r' h
    refine ⟨c::l,by rw [e1];simp,fun x hx=>?_,?_,?_⟩
    ·rcases List.mem_cons.1 hx with rfl | hx
     ·exact ⟨k1,k2⟩
     ·exact e2 x hx
    ·rcases e3 with e3 | e3
     ·exact .inl e3
     ·exact .inr (by simp [e3])
    ·by_cases hb:1<b0 r
     ·refine .inr ⟨by rw [runI,if_neg hz,if_pos hb],fun z hzz=>?_⟩
      have hb1:¬ b0 r=1:=by omega
      rw [if_neg hb1] at k3
      have hc:∃ u,chN c=0::u:=by
       have:c.2.2=false:=by
        unfold stp at hs
        split at hs
        ·cases hs
        ·rw [if_neg hb1] at hs
         split at hs
         ·cases hs
         ·simp only [Option.some.injEq,Prod.mk.injEq] at hs
          rw [<-hs.1]
       exact ⟨_,by unfold chN;rw [this];rfl⟩
      obtain ⟨u,hu⟩:=hc
      rw [List.flatMap_cons,hu,k4] at hzz
      simp at hzz
      omega
     ·have hr:nums r=chN c++nums r1:=by
       rw [k3,k4]
       split
       ·rename_i h1;rw [h1];rfl
       ·have:b0 r=0:=by omega
        rw [this];rfl
      have hri:runI (n+1) r o=runI n r1 (o++[c]):=by rw [runI,if_neg hz,if_neg hb,hs]
      rcases e4 with ⟨e4,e5⟩ | ⟨e4,e5⟩
      ·refine .inl ⟨hri.trans e4,?_⟩
       rw [List.flatMap_cons,List.append_assoc,e5,hr]
      ·refine .inr ⟨hri.trans e4,fun z hzz=>e5 z ?_⟩
       rw [List.flatMap_cons,List.append_assoc,hr] at hzz
       exact List.append_cancel_left hzz
theorem runI_none:∀ (n:Nat) (r:ByteArray) (o:List Ch),run n r o=none->runI n r o=none
 | 0,r,o,h=>by simp [run] at h
 | n+1,r,o,h=>by
  by_cases hz:r.size=0
  ·rw [run,if_pos hz] at h;cases h
  ·rw [run,if_neg hz] at h
   rw [runI,if_neg hz]
   split
   ·rfl
   ·cases hs:stp r with
    | none=>rfl
    | some p =>
     obtain ⟨c,r1⟩:=p
     rw [hs] at h
     exact runI_none n r1 _ h
theorem chN_range (x:Ch) (h1:x.1.size<=255) (h2:x.2.1.size<=255):∀ y∈chN x,0<=y/\y<=255:=by
 intro y hy
 unfold chN at hy
 split at hy
 ·simp only [List.mem_append,List.mem_cons,List.not_mem_nil,or_false] at hy
  rcases hy with rfl | rfl | hy
  ·omega
  ·omega
  ·exact nums_range _ y hy
 ·simp only [List.mem_append,List.mem_cons,List.not_mem_nil,or_false] at hy
  rcases hy with (rfl | rfl | hy) | rfl | hy
  ·omega
  ·omega
  ·exact nums_range _ y hy
  ·omega
  ·exact nums_range _ y hy
def resS (s:ByteArray):Option (List Ch):=match run 21 s [] with | none=>none | some (o,_)=>if s.size≠0/\bOut o=s then some o else none
def resI (s:ByteArray):Option (List Ch):=match runI 21 s [] with | none=>none | some (o,_)=>if batchOk o=true then some o else none
theorem res_eq (s:ByteArray):resI s=resS s:=by
 unfold resI resS
 cases hr:run 21 s [] with
 | none=>rw [runI_none _ _ _ hr]
 | some p =>
  obtain ⟨o,r⟩:=p
  obtain ⟨l,e1,e2,e3,e4⟩:=run_facts 21 s [] o r hr
  rw [List.nil_append] at e1
  subst e1
  have hrg:∀ y∈o.flatMap chN,0<=y/\y<=255:=by
   intro y hy
   obtain ⟨x,hx,hy⟩:=List.mem_flatMap.1 hy
   exact chN_range x (e2 x hx).1 (e2 x hx).2 y hy
  have hbf:bForm o=s->o.flatMap chN=nums s:=fun h=>by rw [<-h];exact (nums_strOfNumsR _ hrg).symm
  rcases e4 with ⟨e4,e5⟩ | ⟨e4,e5⟩
  ·rw [e4]
   simp only
   by_cases hok:batchOk o=true
   ·have hr0:r.size=0:=by
     rcases e3 with e3 | e3
     ·exact e3
     ·have:=(batchOk_of hok).1;omega
    have hnr:nums r=[]:=List.eq_nil_of_length_eq_zero (by rw [nums_length];exact hr0)
    rw [hnr,List.append_nil] at e5
    have hs:bOut o=s:=by
     unfold bOut
     rw [if_pos hok]
     apply nums_inj
     rw [<-e5]
     exact nums_strOfNumsR _ hrg
    have hs0:s.size≠0:=by
     intro h0
     have hns:nums s=[]:=List.eq_nil_of_length_eq_zero (by rw [nums_length];exact h0)
     rw [hns] at e5
     match o,(batchOk_of hok).1 with
     | x::o',_ =>
      simp only [List.flatMap_cons,List.append_eq_nil_iff] at e5
      have:=e5.1
      unfold chN at this
      split at this<;>simp at this
    rw [if_pos hok,if_pos ⟨hs0,hs⟩]
   ·have hb:bOut o=ByteArray.empty:=by unfold bOut;rw [if_neg hok]
    rw [if_neg hok,if_neg]
    rintro ⟨h1,h2⟩
    rw [hb] at h2
    rw [<-h2] at h1
    exact h1 rfl
  ·rw [e4]
   simp only
   rw [if_neg]
   rintro ⟨h1,h2⟩
   unfold bOut at h2
   split at h2
   ·have:=hbf h2
    exact e5 [] (by rw [List.append_nil];exact this)
   ·rw [<-h2] at h1
    exact h1 rfl
abbrev Pr:=ByteArray×ByteArray
abbrev nov:Value:=.slice none 0 0
def chOf (p:Pr):Ch:=(p.1,p.2,false)
def chunkAt (rs:List Pr) (k:Nat):List Ch:=((rs.drop (k*20)).take 20).map chOf
def snapU (rs:List Pr) (i:Nat):List (List Ch):=(List.range ((i+19) / 20)).map (chunkAt (rs.take i))
def snapOf (rs:List Pr):List (List Ch):=if stateOk rs=true then snapU rs rs.length else []
theorem snapU_length (rs:List Pr) (i:Nat):(snapU rs i).length=(i+19) / 20:=by simp [snapU]
theorem chunk_old (rs:List Pr) (i k:Nat) (hi:i<rs.length) (hk:k*20+20<=i):chunkAt (rs.take (i+1)) k=chunkAt (rs.take i) k:=by
 unfold chunkAt
 congr 1
 rw [List.drop_take,List.drop_take,List.take_take,List.take_take]
 congr 1
 omega
theorem chunk_new (rs:List Pr) (i k:Nat) (hi:i<rs.length) (h1:k*20<=i) (h2:i<k*20+20) (d:Pr):chunkAt (rs.take (i+1)) k=chunkAt (rs.take i) k++[chOf (rs.getD i d)]:=by
 unfold chunkAt
 rw [List.drop_take,List.drop_take,List.take_take,List.take_take,Nat.min_eq_right (by omega),Nat.min_eq_right (by omega)]
 rw [show i+1-k*20=(i-k*20)+1 by omega,List.take_add_one,List.map_append]
 congr 1
 rw [List.getElem?_drop,show k*20+(i-k*20)=i by omega]
 simp [List.getD,hi]
theorem snapU_begin (rs:List Pr) (i:Nat) (hi:i<rs.length) (h:i % 20=0) (d:Pr):snapU rs (i+1)=snapU rs i++[[chOf (rs.getD i d)]]:=by
 unfold snapU
 rw [show (i+1+19) / 20=(i+19) / 20+1 by omega,List.range_succ,List.map_append]
 have e0:chunkAt (rs.take i) (i / 20)=[]:=by
  unfold chunkAt
  rw [List.drop_eq_nil_of_le (by rw [List.length_take];omega)]
  rfl
 congr 1
 ·exact List.map_congr_left fun k hk=>chunk_old rs i k hi (by simp at hk;omega)
 ·have e1:(i+19) / 20=i / 20:=by omega
  rw [e1,List.map_singleton,chunk_new rs i (i / 20) hi (by omega) (by omega) d,e0]
  rfl
theorem snapU_on (rs:List Pr) (i:Nat) (hi:i<rs.length) (h:i % 20≠0) (d:Pr):∃ bss cs,snapU rs i=bss++[cs]/\snapU rs (i+1)=bss++[cs++[chOf (rs.getD i d)]]/\cs.length<=20:=by
 refine ⟨(List.range (i / 20)).map (chunkAt (rs.take i)),chunkAt (rs.take i) (i / 20),?_,?_,?_⟩
 ·unfold snapU
  rw [show (i+19) / 20=i / 20+1 by omega,List.range_succ,List.map_append]
  rfl
 ·unfold snapU
  rw [show (i+1+19) / 20=i / 20+1 by omega,List.range_succ,List.map_append,List.map_singleton,chunk_new rs i (i / 20) hi (by omega) (by omega) d]
  congr 1
  exact List.map_congr_left fun k hk=>chunk_old rs i k hi (by simp at hk;omega)
 ·unfold chunkAt;simp;omega
theorem chunk_len (rs:List Pr) (k:Nat):(chunkAt rs k).length=min 20 (rs.length-k*20):=by unfold chunkAt;simp
theorem snapU_all (rs:List Pr):snapU rs rs.length=(List.range ((rs.length+19) / 20)).map (chunkAt rs):=by unfold snapU;rw [List.take_length]
theorem snap_mem {rs:List Pr} {b:List Ch} (h:b∈snapU rs rs.length):b.length<=20/\∀ x∈b,(x.1,x.2.1)∈rs:=by
 rw [snapU_all] at h
 obtain ⟨k,hk,rfl⟩:=List.mem_map.1 h
 refine ⟨by rw [chunk_len];omega,fun x hx=>?_⟩
 unfold chunkAt at hx
 obtain ⟨p,hp,rfl⟩:=List.mem_map.1 hx
 exact List.mem_of_mem_drop (List.mem_of_mem_take hp)
def Bat (w:World) (base:Nat) (v:Value) (bss:List (List Ch)):Prop :=
 ∃ vs:List Value,w.ownsRow base 93 1 v bss.length vs/\(∀ i,i<bss.length->w.ownsRow base 101 3 (vs.getD i nov) (bss.getD i []).length (chcells (bss.getD i []))) /\
  ∀ i j k,i<j->j<bss.length->(vs.getD i nov).ownBlock=some k->(vs.getD j nov).ownBlock≠some k
theorem Bat.nil (w:World) (base:Nat):Bat w base nov []:=⟨[],World.ownsRow_nil _ _ _ _,fun i h=>absurd h (by simp),fun i j k _ h=>absurd h (by simp)⟩
theorem Bat.below {w w':World} {base:Nat} {v:Value} {bss:List (List Ch)} (h:Bat w base v bss) (hb:Below w.heap.size w w'):Bat w' base v bss:=by
 obtain ⟨vs,h1,h2,h3⟩:=h
 exact ⟨vs,owns_below h1 hb,fun i hi=>owns_below (h2 i hi) hb,h3⟩
theorem rows_apart {w:World} {b1 b2:Nat} {e1 e2:TypeId} {s1 s2:Nat} {v1 v2:Value} {n1 n2:Nat} {x1 x2:List Value} (h1:w.ownsRow b1 e1 s1 v1 n1 x1) (h2:w.ownsRow b2 e2 s2 v2 n2 x2) (he:e1≠e2):v1.ownBlock=none\/v1.ownBlock≠v2.ownBlock:=by
 rcases h1.2 with ⟨rfl,_⟩ | ⟨g,cap,cur,rfl,_,hg,_⟩
 ·exact .inl rfl
 ·right
  rcases h2.2 with ⟨rfl,_⟩ | ⟨g',cap',cur',rfl,_,hg',_⟩
  ·simp [Value.ownBlock]
  ·simp only [Value.ownBlock,ne_eq,Option.some.injEq]
   intro e
   subst e
   rw [hg] at hg'
   cases hg'
   exact he rfl
theorem Bat.kept {w w':World} {base:Nat} {v:Value} {bss:List (List Ch)} {row:Option Nat} (h:Bat w base v bss) (hg:w.grownBy w' row) (hr:∀ k,row=some k->base > k\/w.heap.size<=k):Bat w' base v bss:=by
 obtain ⟨vs,h1,h2,h3⟩:=h
 have key:∀ {e:TypeId} {s:Nat} {u:Value} {n:Nat} {xs:List Value},w.ownsRow base e s u n xs->w'.ownsRow base e s u n xs:=fun hh=>by
  refine hh.kept hg ?_
  cases hu:(Value.ownBlock _) with
  | none=>exact .inl rfl
  | some k =>
   refine .inr fun e=>?_
   have:=hh.lt k hu
   rcases hr k e.symm with h | h<;>omega
 exact ⟨vs,key h1,fun i hi=>key (h2 i hi),h3⟩
theorem Bat.push {w w1:World} {base:Nat} {v v' x:Value} {bss:List (List Ch)} {cs:List Ch} {vs:List Value} (h1:w.ownsRow base 93 1 v bss.length vs) (h2:∀ i,i<bss.length->w.ownsRow base 101 3 (vs.getD i nov) (bss.getD i []).length (chcells (bss.getD i [])))
  (h3:∀ i j k,i<j->j<bss.length->(vs.getD i nov).ownBlock=some k->(vs.getD j nov).ownBlock≠some k) (hx:w.ownsRow base 101 3 x cs.length (chcells cs)) (hxn:∀ i k,i<bss.length->(vs.getD i nov).ownBlock=some k->x.ownBlock≠some k)
  (ho:w1.ownsRow base 93 1 v' (bss.length+1) (vs++[x])) (hg:w.grownBy w1 v.ownBlock):Bat w1 base v' (bss++[cs]):=by
 have hvl:vs.length=bss.length:=by have:=h1.1;omega
 have ne:(101:TypeId)≠93:=by decide
 refine ⟨vs++[x],by simpa using ho,fun i hi=>?_,fun i j k hij hj he=>?_⟩
 ·by_cases hlt:i<bss.length
  ·have e1:(vs++[x]).getD i nov=vs.getD i nov:=by simp [List.getD,List.getElem?_append_left (show i<vs.length by omega)]
   have e2:(bss++[cs]).getD i []=bss.getD i []:=by simp [List.getD,List.getElem?_append_left hlt]
   rw [e1,e2]
   exact (h2 i hlt).kept hg (rows_apart (h2 i hlt) h1 ne)
  ·have hi':i=bss.length:=by simp at hi;omega
   subst hi'
   have e1:(vs++[x]).getD bss.length nov=x:=by rw [<-hvl];simp [List.getD]
   have e2:(bss++[cs]).getD bss.length []=cs:=by simp [List.getD]
   rw [e1,e2]
   exact hx.kept hg (rows_apart hx h1 ne)
 ·simp only [List.length_append,List.length_cons,List.length_nil] at hj
  have e1:(vs++[x]).getD i nov=vs.getD i nov:=by simp [List.getD,List.getElem?_append_left (show i<vs.length by omega)]
  rw [e1] at he
  by_cases hlt:j<bss.length
  ·have e2:(vs++[x]).getD j nov=vs.getD j nov:=by simp [List.getD,List.getElem?_append_left (show j<vs.length by omega)]
   rw [e2]
   exact h3 i j k hij hlt he
  ·have hj':j=bss.length:=by omega
   subst hj'
   have e2:(vs++[x]).getD bss.length nov=x:=by rw [<-hvl];simp [List.getD]
   rw [e2]
   exact hxn i k hij he
def Bts (w:World) (a:Option Addr) (bss:List (List Ch)):Prop :=
 bss=[]\/∃ g,a=some ⟨g,0,none⟩/\g<w.heap.size/\∀ i,i<bss.length->∃ p c,w.cell? ⟨g,i,none⟩=some (.slice p (bss.getD i []).length c)/\Chs w p (bss.getD i [])
theorem Bts.below {w w':World} {a:Option Addr} {bss:List (List Ch)} (h:Bts w a bss) (hb:Below w.heap.size w w'):Bts w' a bss:=by
 rcases h with h | ⟨g,h1,h2,h3⟩
 ·exact .inl h
 ·refine .inr ⟨g,h1,Nat.lt_of_lt_of_le h2 hb.size,fun i hi=>?_⟩
  obtain ⟨p,c,h4,h5⟩:=h3 i hi
  exact ⟨p,c,(hb.cell (p:=⟨g,i,none⟩) h2).trans h4,h5.below hb⟩
theorem owns_chs' {w:World} {B:Nat} {e:TypeId} {y:Value} {o:List Ch} (h:w.ownsRow B e 3 y o.length (chcells o)):∃ a c,y=.slice a o.length c/\Chs w a o:=by
 rcases owns_forms h with ⟨h1,h2⟩ | ⟨g,cap,h1,h2,_,h3⟩
 ·have:o=[]:=List.eq_nil_of_length_eq_zero h2
  subst this
  exact ⟨none,0,h1,.inl rfl⟩
 ·exact ⟨_,cap,h1,h3.chs⟩
theorem Bat.bts {w:World} {base:Nat} {v:Value} {bss:List (List Ch)} (h:Bat w base v bss):∃ a c,v=.slice a bss.length c/\Bts w a bss:=by
 obtain ⟨vs,h1,h2,h3⟩:=h
 rcases owns_forms h1 with ⟨e1,e2⟩ | ⟨g,cap,e1,e2,e3,e4⟩
 ·have:bss=[]:=List.eq_nil_of_length_eq_zero e2
  subst this
  exact ⟨none,0,e1,.inl rfl⟩
 ·refine ⟨_,cap,e1,.inr ⟨g,rfl,e3,fun i hi=>?_⟩⟩
  obtain ⟨p,c,f1,f2⟩:=owns_chs' (h2 i hi)
  have hvl:vs.length=bss.length:=by have:=h1.1;omega
  refine ⟨p,c,e4.cell i _ ?_,f2⟩
  rw [<-f1]
  simp [List.getD,List.getElem?_eq_getElem (show i<vs.length by omega)]
theorem Bts.at {w:World} {a:Option Addr} {bss:List (List Ch)} (h:Bts w a bss) {k:Nat} (hk:k<bss.length):∃ g p c,a=some ⟨g,0,none⟩/\g<w.heap.size/\w.cell? ⟨g,k,none⟩=some (.slice p (bss.getD k []).length c)/\Chs w p (bss.getD k []):=by
 rcases h with h | ⟨g,h1,h2,h3⟩
 ·subst h;simp at hk
 ·obtain ⟨p,c,h4,h5⟩:=h3 k hk
  exact ⟨g,p,c,h1,h2,h4,h5⟩
theorem info_chS:(Try.prog.info? 101).map (fun i=>(i.zero,i.size,i.bytes))=some (some (.agg #[.string ByteArray.empty,.string ByteArray.empty,.bool false]),3,40):=by kernel_rfl
theorem info_slS:(Try.prog.info? 93).map (fun i=>(i.zero,i.size,i.bytes))=some (some (.slice none 0 0),1,24):=by kernel_rfl
theorem info_partsS {P:Program} {e:TypeId} {z:Value} {size bytes:Nat} (h:(P.info? e).map (fun i=>(i.zero,i.size,i.bytes))=some (some z,size,bytes)):∃ i,P.info? e=some i/\i.zero=some z/\i.size=size/\i.bytes=bytes:=by
 obtain ⟨i,hi,hh⟩:=Option.map_eq_some_iff.1 h
 simp only [Prod.mk.injEq] at hh
 exact ⟨i,hi,hh⟩
theorem below_grownS {W w w1:World} {e:TypeId} {size:Nat} {v:Value} {n B:Nat} {xs:List Value} (hb:Below B W w) (own:w.ownsRow B e size v n xs) (hg:w.grownBy w1 v.ownBlock) (hB:B<=w.heap.size):Below B W w1 :=
 hb.trans ⟨hg.os,hg.tape,hg.output,hg.size,fun k hk=>hg.block k (by omega) (fun he=>by have:=(own.lt k he.symm).1;omega)⟩
theorem owns_mono {w:World} {b b':Nat} {e:TypeId} {s:Nat} {v:Value} {n:Nat} {xs:List Value} (h:w.ownsRow b e s v n xs) (hb:b'<=b):w.ownsRow b' e s v n xs:=by
 refine ⟨h.1,?_⟩
 rcases h.2 with h0 | ⟨g,cap,cur,h1,h2,h3⟩
 ·exact .inl h0
 ·exact .inr ⟨g,cap,cur,h1,Nat.le_trans hb h2,h3⟩
theorem Bat.mono {w:World} {b b':Nat} {v:Value} {bss:List (List Ch)} (h:Bat w b v bss) (hb:b'<=b):Bat w b' v bss:=by
 obtain ⟨vs,h1,h2,h3⟩:=h
 exact ⟨vs,owns_mono h1 hb,fun i hi=>owns_mono (h2 i hi) hb,h3⟩
structure Rest (w:World) (base:Nat) (bss:List (List Ch)) (vs:List Value) (x:Value):Prop where
 len:vs.length=bss.length
 own:∀ i,i<bss.length->w.ownsRow base 101 3 (vs.getD i nov) (bss.getD i []).length (chcells (bss.getD i []))
 apart:∀ i j k,i<j->j<bss.length->(vs.getD i nov).ownBlock=some k->(vs.getD j nov).ownBlock≠some k
 last:∀ i k,i<bss.length->(vs.getD i nov).ownBlock=some k->x.ownBlock≠some k
theorem Bat.last {w:World} {base:Nat} {v:Value} {bss:List (List Ch)} {cs:List Ch} (h:Bat w base v (bss++[cs])):∃ g cap vs p c,v=.slice (some ⟨g,0,none⟩) (bss.length+1) cap/\w.ownsRow base 93 1 v (bss.length+1) (vs++[.slice p cs.length c])/\w.ownsRow base 101 3 (.slice p cs.length c) cs.length (chcells cs)/\Rest w base bss vs (.slice p cs.length c):=by
 obtain ⟨vs,h1,h2,h3⟩:=h
 have hvl:vs.length=bss.length+1:=by have:=h1.1;simp at this;omega
 obtain ⟨us,x,rfl⟩:∃ us x,vs=us++[x]:=⟨vs.dropLast,vs.getLast (by intro e;subst e;simp at hvl),(List.dropLast_concat_getLast _).symm⟩
 have hul:us.length=bss.length:=by simp at hvl;exact hvl
 have hx:=h2 bss.length (by simp)
 have e1:(us++[x]).getD bss.length nov=x:=by rw [<-hul];simp [List.getD]
 have e2:(bss++[cs]).getD bss.length []=cs:=by simp [List.getD]
 rw [e1,e2] at hx
 have f1:∀ i,i<bss.length->(us++[x]).getD i nov=us.getD i nov:=fun i hi=>by simp [List.getD,List.getElem?_append_left (show i<us.length by omega)]
 have f2:∀ i,i<bss.length->(bss++[cs]).getD i []=bss.getD i []:=fun i hi=>by simp [List.getD,List.getElem?_append_left hi]
 obtain ⟨p,c,rfl,_⟩:=owns_chs' hx
 simp only [List.length_append,List.length_cons,List.length_nil] at h1
 obtain ⟨g,cap,hv⟩:∃ g cap,v=.slice (some ⟨g,0,none⟩) (bss.length+1) cap:=by
  rcases owns_forms h1 with ⟨_,h0⟩ | ⟨g,cap,h0,_⟩
  ·omega
  ·exact ⟨g,cap,h0⟩
 refine ⟨g,cap,us,p,c,hv,h1,hx,hul,fun i hi=>?_,fun i j k hij hj he=>?_,fun i k hi he=>?_⟩
 ·have:=h2 i (by simp;omega)
  rwa [f1 i hi,f2 i hi] at this
 ·have:=h3 i j k hij (by simp;omega)
  rw [f1 i (by omega),f1 j hj] at this
  exact this he
 ·have:=h3 i bss.length k hi (by simp)
  rw [f1 i hi,e1] at this
  exact this he
theorem Rest.relast {w w1:World} {base g cap:Nat} {bss:List (List Ch)} {cs:List Ch} {vs:List Value} {x x':Value} {n0:Nat} {cs0:List Ch} (hr:Rest w base bss vs x) (hb:base<=w.heap.size)
  (ho:w.ownsRow base 93 1 (.slice (some ⟨g,0,none⟩) (bss.length+1) cap) (bss.length+1) (vs++[x])) (hx:w.ownsRow base 101 3 x n0 (chcells cs0))
  (hg:w.grownBy w1 x.ownBlock) (hx':w1.ownsRow base 101 3 x' cs.length (chcells cs)) (hn:x.ownBlock=x'.ownBlock\/x'.ownBlock=some w.heap.size) :
  Bat (w1.setCell ⟨g,bss.length,none⟩ x') base (.slice (some ⟨g,0,none⟩) (bss.length+1) cap) (bss++[cs]):=by
 have ne:(101:TypeId)≠93:=by decide
 have hul:=hr.len
 have ho1:w1.ownsRow base 93 1 (.slice (some ⟨g,0,none⟩) (bss.length+1) cap) (bss.length+1) (vs++[x]):=ho.kept hg (by
  rcases rows_apart ho hx (Ne.symm ne) with h | h
  ·exact .inl h
  ·exact .inr h)
 have hgs:w1.grownBy (w1.setCell ⟨g,bss.length,none⟩ x') (some g):=⟨rfl,rfl,rfl,by simp [World.setCell],fun k _ hk=>Below.heap_setCell _ _ _ k (fun e=>hk (by rw [e]))⟩
 have ap:∀ {u:Value} {n:Nat} {xs:List Value},w1.ownsRow base 101 3 u n xs->(w1.setCell ⟨g,bss.length,none⟩ x').ownsRow base 101 3 u n xs:=fun h=>h.kept hgs (rows_apart h ho1 ne)
 have old:∀ i,i<bss.length->w1.ownsRow base 101 3 (vs.getD i nov) (bss.getD i []).length (chcells (bss.getD i [])):=fun i hi=>(hr.own i hi).kept hg (by
  cases hk:(vs.getD i nov).ownBlock with
  | none=>exact .inl rfl
  | some k=>exact .inr fun e=>hr.last i k hi hk e.symm)
 have f1:∀ i,i<bss.length->(vs++[x']).getD i nov=vs.getD i nov:=fun i hi=>by simp [List.getD,List.getElem?_append_left (show i<vs.length by omega)]
 have f2:∀ i,i<bss.length->(bss++[cs]).getD i []=bss.getD i []:=fun i hi=>by simp [List.getD,List.getElem?_append_left hi]
 have e1:(vs++[x']).getD bss.length nov=x':=by rw [<-hul];simp [List.getD]
 have e2:(bss++[cs]).getD bss.length []=cs:=by simp [List.getD]
 refine ⟨vs++[x'],?_,fun i hi=>?_,fun i j k hij hj he=>?_⟩
 ·refine ⟨by simp [hul],.inr ?_⟩
  rcases ho1.2 with ⟨h0,_⟩ | ⟨g',cap',cur,h1,h2,h3,h4,h5,h6,h7⟩
  ·cases h0
  ·cases h1
   refine ⟨g,cap,cur.set! bss.length x',by simp,h2,?_,by simpa using h4,h5,by simpa using h6,?_⟩
   ·have hlt:=(Array.getElem?_eq_some_iff.1 h3).1
    have hk:=(Array.getElem?_eq_some_iff.1 h3).2
    show (w1.heap.modify g _)[g]?=_
    rw [Array.getElem?_eq_getElem (by rw [Array.size_modify];exact hlt),Array.getElem_modify_self,hk]
    rfl
   ·have hz:cur.toList.length=cur.size:=by simp
    have hl:bss.length<cur.toList.length:=by omega
    simp only [Nat.mul_one,List.length_append,List.length_cons,List.length_nil] at h7 ⊢
    have:(cur.set! bss.length x').toList=cur.toList.set bss.length x':=by simp
    rw [this,Nat.zero_add,List.take_set,h7,List.set_append_right _ _ (by omega),hul]
    simp
 ·by_cases hlt:i<bss.length
  ·rw [f1 i hlt,f2 i hlt];exact ap (old i hlt)
  ·have:i=bss.length:=by simp at hi;omega
   subst this
   rw [e1,e2];exact ap hx'
 ·simp only [List.length_append,List.length_cons,List.length_nil] at hj
  rw [f1 i (by omega)] at he
  by_cases hlt:j<bss.length
  ·rw [f1 j hlt];exact hr.apart i j k hij hlt he
  ·have:j=bss.length:=by omega
   subst this
   rw [e1]
   rcases hn with h | h
   ·rw [<-h];exact hr.last i k hij he
   ·rw [h]
    intro e
    have:=(hr.own i hij).lt k he
    simp at e
    omega
theorem oneCS (k v:ByteArray) (g:Bool):∀ u∈[Value.string k,.string v,.bool g],u.oneCell'=true:=by
 intro u hu
 simp only [List.mem_cons,List.not_mem_nil,or_false] at hu
 rcases hu with rfl | rfl | rfl<;>rfl
theorem owns_last {w:World} {base g cap m:Nat} {e:TypeId} {vs:List Value} {x:Value} (ho:w.ownsRow base e 1 (.slice (some ⟨g,0,none⟩) (m+1) cap) (m+1) (vs++[x])) (hl:vs.length=m):w.cell? ⟨g,m,none⟩=some x/\w.frozen? ⟨g,m,none⟩=false:=by
 have hr:=owns_row ho
 exact ⟨hr.cell m x (by rw [<-hl];simp),hr.froz m (by simp;omega)⟩
theorem grown_row {w w1:World} {base g cap m n0:Nat} {vs xs:List Value} {x:Value} {o:Obj} (ho:w.ownsRow base 93 1 (.slice (some ⟨g,0,none⟩) (m+1) cap) (m+1) (vs++[x])/\vs.length=m) (hx:w.ownsRow base 101 3 x n0 xs) (hg:(w.alloc o).grownBy w1 x.ownBlock):w1.cell? ⟨g,m,none⟩=some x/\w1.frozen? ⟨g,m,none⟩=false:=by
 have ne:(93:TypeId)≠101:=by decide
 exact owns_last ((ho.1.alloc o).kept hg (rows_apart ho.1 hx ne)) ho.2
theorem Rest.alloc {w:World} {base:Nat} {bss:List (List Ch)} {vs:List Value} {x:Value} (h:Rest w base bss vs x) (o:Obj):Rest (w.alloc o) base bss vs x:=⟨h.len,fun i hi=>(h.own i hi).alloc o,h.apart,h.last⟩
theorem news1 (w:World) (A:Obj) (cs:Array Value) (t:TypeId):∀ j u,cs.toList[j]?=some u->((w.alloc A).alloc (.cells cs t)).cell? ((⟨w.heap.size+1,0,none⟩:Addr).add j)=some u:=by
 have h:=heap_alloc_new (w.alloc A) (.cells cs t)
 rw [World.size_alloc] at h
 exact World.news_of_block h
theorem lit_kept {wr w7:World} {base n:Nat} {v:Value} {vs:List Value} {o:Obj} (h1:wr.ownsRow base 93 1 v n vs) (hb:base<=wr.heap.size) (hg:((wr.alloc (.cells #[] 101)).alloc o).grownBy w7 v.ownBlock):w7.ownsRow base 101 3 (.slice (some ⟨wr.heap.size,0,none⟩) 0 0) 0 []:=by
 have h0:(wr.alloc (.cells #[] 101)).ownsRow base 101 3 (.slice (some ⟨wr.heap.size,0,none⟩) 0 0) 0 []:=by
  have:=World.ownsRow_lit wr (base:=base) (e:=101) (size:=3) #[] 0 hb (by simp) (by simp)
  simpa using this
 exact (h0.alloc o).kept hg (rows_apart (h0.alloc o) ((h1.alloc _).alloc _) (by decide))
theorem begin_facts {W0 wr w7:World} {base g cap m yc:Nat} {ya:Option Addr} {vs:List Value} (hbel:Below base W0 wr) (hsz:base<=wr.heap.size) (h1:wr.ownsRow base 93 1 (.slice ya m yc) m vs) (hown7:w7.ownsRow base 93 1 (.slice (some ⟨g,0,none⟩) (m+1) cap) (m+1) (vs++[.slice (some ⟨wr.heap.size,0,none⟩) 0 0]))
  (hgrow7:((wr.alloc (.cells #[] 101)).alloc (.cells #[.slice (some ⟨wr.heap.size,0,none⟩) 0 0] 93)).grownBy w7 (Value.slice ya m yc).ownBlock) :
  Below base W0 w7/\(w7.ownsRow base 93 1 (.slice (some ⟨g,0,none⟩) (m+1) cap) (m+1) (vs++[.slice (some ⟨wr.heap.size,0,none⟩) 0 0])/\vs.length=m)/\w7.ownsRow base 101 3 (.slice (some ⟨wr.heap.size,0,none⟩) 0 0) 0 []/\w7.cell? ⟨g,m,none⟩=some (.slice (some ⟨wr.heap.size,0,none⟩) 0 0):=by
 have hl:vs.length=m:=by have:=h1.1;omega
 exact ⟨below_grownS ((hbel.alloc hsz _).alloc (by simp;omega) _) ((h1.alloc _).alloc _) hgrow7 (by simp;omega),⟨hown7,hl⟩,lit_kept h1 hsz hgrow7,(owns_last hown7 hl).1⟩
theorem chcells_snocS (o:List Ch) (c:Ch):chcells (o++[c])=chcells o++[.string c.1,.string c.2.1,.bool c.2.2]:=by rw [chcells_append];rfl
theorem undrew' {w w':World} {o:Obj} {r:Option Nat} (h:(w.drew.alloc o).grownBy w' r):(w.alloc o).grownBy w' r:=⟨h.os,h.tape,h.output,h.size,h.block⟩
theorem snap_end {W0 W w9:World} {base g cap m n0 g9 cap9 c:Nat} {p:Option Addr} {bss:List (List Ch)} {cs:List Ch} {vs:List Value} {s0 s1:ByteArray} {o:Obj} (hb:base<=W.heap.size) (hr:Rest W base bss vs (.slice p n0 c)) (hm:m=bss.length) (hn:n0=cs.length)
  (ho:W.ownsRow base 93 1 (.slice (some ⟨g,0,none⟩) (m+1) cap) (m+1) (vs++[.slice p n0 c])) (hx:W.ownsRow base 101 3 (.slice p n0 c) n0 (chcells cs)) (hg:(W.alloc o).grownBy w9 (Value.slice p n0 c).ownBlock)
  (hx':w9.ownsRow base 101 3 (.slice (some ⟨g9,0,none⟩) (n0+1) cap9) (n0+1) (chcells cs++[.string s0,.string s1,.bool false])) (hat:(Value.slice p n0 c).ownBlock=some g9\/g9=W.heap.size+1) (hbel:Below base W0 W) :
  Bat (w9.setCell ⟨g,m,none⟩ (.slice (some ⟨g9,0,none⟩) (n0+1) cap9)) base (.slice (some ⟨g,0,none⟩) (m+1) cap) (bss++[cs++[(s0,s1,false)]])/\Below base W0 (w9.setCell ⟨g,m,none⟩ (.slice (some ⟨g9,0,none⟩) (n0+1) cap9)):=by
 subst hm hn
 have hx2:w9.ownsRow base 101 3 (.slice (some ⟨g9,0,none⟩) (cs.length+1) cap9) (cs++[(s0,s1,false)]).length (chcells (cs++[(s0,s1,false)])):=by
  rw [chcells_snocS,List.length_append];exact hx'
 refine ⟨(hr.alloc o).relast (by simp;omega) (ho.alloc o) (hx.alloc o) hg hx2 ?_,?_⟩
 ·rcases hat with h | h
  ·exact .inl h
  ·right;rw [h];simp [Value.ownBlock]
 ·have hgl:=(ho.lt g rfl).1
  exact (below_grownS (hbel.alloc hb o) (hx.alloc o) hg (by simp;omega)).setCell (p:=⟨g,bss.length,none⟩) hgl _
theorem rest_new {wr w7:World} {base m yc:Nat} {ya:Option Addr} {bss:List (List Ch)} {vs:List Value} {o:Obj} (h1:wr.ownsRow base 93 1 (.slice ya m yc) m vs) (h2:∀ i,i<bss.length->wr.ownsRow base 101 3 (vs.getD i nov) (bss.getD i []).length (chcells (bss.getD i [])))
  (h3:∀ i j k,i<j->j<bss.length->(vs.getD i nov).ownBlock=some k->(vs.getD j nov).ownBlock≠some k) (hb:base<=wr.heap.size) (hm:m=bss.length) (hg:((wr.alloc (.cells #[] 101)).alloc o).grownBy w7 (Value.slice ya m yc).ownBlock):Rest w7 base bss vs (.slice (some ⟨wr.heap.size,0,none⟩) 0 0):=by
 refine ⟨by have:=h1.1;omega,fun i hi=>(((h2 i hi).alloc _).alloc _).kept hg (rows_apart (h2 i hi) h1 (by decide)),h3,fun i k hi he=>?_⟩
 have:=(h2 i hi).lt k he
 simp only [Value.ownBlock,ne_eq,Option.some.injEq]
 omega
theorem snapU_le (rs:List Pr) (i:Nat) (hi:i<=100):(snapU rs i).length<=5:=by rw [snapU_length];omega
theorem snap_s (a:Option Addr) (rs:List Pr) (c:Nat) (w:World) (h:Prs w a rs) (hl:rs.length<=1048576) (hs:∀ x∈rs,x.1.size<=1048576/\x.2.size<=1048576) :
  Calls Try.prog 71 #[.agg #[.slice a rs.length c]] w fun e w'=>∃ v,e=.returned v/\Bat w' (w.heap.size+1) v (snapOf rs)/\Below w.heap.size w w':=by
 obtain ⟨i0,hi0,hz0,hz1,hz2⟩:=info_partsS info_chS
 have HI:=hid (And.intro hi0 (And.intro hz0 (And.intro hz1 hz2)))
 obtain ⟨i1,hj0,hy0,hy1,hy2⟩:=info_partsS info_slS
 have HJ:=hid (And.intro hj0 (And.intro hy0 (And.intro hy1 hy2)))
 clear hi0 hz0 hz1 hz2 hj0 hy0 hy1 hy2
 unfold snapOf
 have hb0:Below w.heap.size w ((w.alloc (.cells #[.slice a rs.length c] 77)).alloc (.cells #[] 93)):=((Below.refl _ _).alloc (Nat.le_refl _) _).alloc (by simp) _
 have hv:=vstate_s a rs c ((w.alloc (.cells #[.slice a rs.length c] 77)).alloc (.cells #[] 93)) (h.below hb0) hl hs
 have hempty:Bat ((w.alloc (.cells #[.slice a rs.length c] 77)).alloc (.cells #[] 93)) (w.heap.size+1) (.slice (some ⟨w.heap.size+1,0,none⟩) 0 0) []:=by
  refine ⟨[],?_,fun i h=>absurd h (by simp),fun i j k _ h=>absurd h (by simp)⟩
  have:=World.ownsRow_lit (w.alloc (.cells #[.slice a rs.length c] 77)) (base:=w.heap.size+1) (e:=93) (size:=1) #[] 0 (by simp) (by simp) (by simp)
  simpa using this
 have HV:=hid hv
 have HB0:=hid hb0
 have HE:=hid hempty
 clear hv hb0 hempty
 cases hok:stateOk rs with
 | false =>
  rw [hok] at HV
  simp only [Bool.false_eq_true,if_false]
  go_enter Try.func71,Try.ntmps71
  go_wp2_with (go_at_call 68;refine HV.out.mono ?_;rintro e w2 ⟨rfl,hb2⟩)
  go_ret
  exact ⟨_,rfl,HE.out.below hb2,HB0.out.trans (hb2.mono HB0.out.size)⟩
 | true =>
  rw [hok] at HV
  simp only [if_true]
  have hle:rs.length<=100:=(stateOk_of hok).1
  go_enter Try.func71,Try.ntmps71
  go_wp2_with (go_at_call 68;refine HV.out.mono ?_;rintro e w2 ⟨rfl,hb2⟩)
  have hs2:=hb2.size
  simp only [World.size_alloc] at hs2
  go_loopw [3,4] (fun y i wr=>∃ k:Nat,k<=rs.length/\i=.int .i64 k/\Bat wr (w.heap.size+1) y (snapU rs k)/\Below (w.heap.size+1) (w.alloc (.cells #[.slice a rs.length c] 77)) wr) (fun _ i _=>rs.length-(intOf i).toNat)
  case atStart=>exact ⟨0,Nat.zero_le _,rfl,HE.out.below hb2,((Below.refl _ _).alloc (by simp) _).trans (hb2.mono (by simp))⟩
  case round =>
   obtain ⟨k,hk,rfl,hbat,hbel⟩:=hrel
   have q0:wr.cell? ⟨w.heap.size,0,none⟩=some (.slice a rs.length c):=(hbel.cell (p:=⟨w.heap.size,0,none⟩) (by show w.heap.size<_;omega)).trans (by go_simp)
   have hsz:w.heap.size+1<=wr.heap.size:=by have:=hbel.size;simpa using this
   by_cases hlt:k<rs.length
   ·obtain ⟨b,o,s0,s1,rfl,hc0,hc1,HS⟩:=(h.below (((Below.refl _ _).alloc (Nat.le_refl _) _).trans (hbel.mono (by omega)))).at hlt
    have hlb:b<w.heap.size:=by
     rcases h with h | ⟨b',o',h1,h2,_⟩
     ·subst h;simp at hlt
     ·cases h1;exact h2
    have hlt':(k:Int)<(rs.length:Int):=by omega
    have HB:=hid hbel
    have HBT:=hid hbat
    clear hbel hbat
    by_cases hr:k % 20=0
    ·have hr':(k:Int) % 20=0:=by omega
     have HST:=hid (snapU_begin rs k hlt hr (ByteArray.empty,ByteArray.empty))
     have hsl:=snapU_le rs k (by omega)
     obtain ⟨bss,hbss⟩:∃ bss,bss=snapU rs k:=⟨_,rfl⟩
     rw [<-hbss] at HBT hsl HST
     clear hbss
     obtain ⟨vs,h1,h2,h3⟩:=HBT.out
     obtain ⟨ya,yc,rfl⟩:∃ ya yc,u3=Value.slice ya bss.length yc:=by
      rcases owns_forms h1 with ⟨e1,e2⟩ | ⟨g,cap,e1,_⟩
      ·exact ⟨none,0,by rw [e1,e2]⟩
      ·exact ⟨_,cap,e1⟩
     obtain ⟨m,hm⟩:∃ m,m=bss.length:=⟨_,rfl⟩
     rw [<-hm] at h1 hsl ⊢
     have HM:=hid hm
     have H1:=hid h1
     have H2:=hid h2
     have H3:=hid h3
     clear HBT h1 h2 h3 hm
     go_wp2_with (at_builtin;refine WAL _ rfl _ _ 132 rfl (w.heap.size+1) Try.underlying132 HJ.out rfl (by omega) _ m _ rfl ((H1.out.alloc _).alloc _) ⟨wr.heap.size+1,0,none⟩ 1 1 [.slice (some ⟨wr.heap.size,0,none⟩) 0 0] rfl rfl (news1 wr _ _ _) (by intro u hu;simp at hu;subst hu;rfl) (by simp;omega) (wr.heap.size+1+1) (by simp) ?_;intro g cap w7 hown7 hgrow7 hat7 hlt7;obtain ⟨hb7,hO7,hX7,q7⟩:=begin_facts HB.out hsz H1.out hown7 hgrow7;have HB7:=hid hb7;have HO:=hid hO7;have HX:=hid hX7;have hs7:w.heap.size+1<=w7.heap.size:=Nat.le_trans (by simp) hb7.size;have q70:=(hb7.cell (p:=⟨w.heap.size,0,none⟩) (Nat.lt_succ_self _)).trans ((HB.out.cell (p:=⟨w.heap.size,0,none⟩) (Nat.lt_succ_self _)).symm.trans q0);have qc0:=(hb7.cell (p:=⟨b,o+k*2,none⟩) (Nat.lt_succ_of_lt hlb)).trans ((HB.out.cell (p:=⟨b,o+k*2,none⟩) (Nat.lt_succ_of_lt hlb)).symm.trans hc0);have qc1:=(hb7.cell (p:=⟨b,o+k*2+1,none⟩) (Nat.lt_succ_of_lt hlb)).trans ((HB.out.cell (p:=⟨b,o+k*2+1,none⟩) (Nat.lt_succ_of_lt hlb)).symm.trans hc1);have lb7:b<w7.heap.size:=Nat.lt_of_lt_of_le (Nat.lt_succ_of_lt hlb) hs7;have HG7:=hid hgrow7;clear hown7 hgrow7 hat7 hb7 hO7 hX7 hc0 hc1 q0)
     have hmm:(m:Int)<(m:Int)+1:=by omega
     have hm00:(0:Int)<=(m:Int):=by omega
     have HXA:=hid (HX.out.alloc (.cells #[.string s0,.string s1,.bool false] 101))
     have HR:Hid (Rest w7 (w.heap.size+1) bss vs (.slice (some ⟨wr.heap.size,0,none⟩) 0 0)):=hid (rest_new H1.out H2.out H3.out hsz HM.out HG7.out)
     have hS:∀ w',Below (w.heap.size+1) w7 w'->w'.cell? ⟨w.heap.size,0,none⟩=some (.slice (some ⟨b,o,none⟩) rs.length c)/\w'.cell? ⟨b,o+k*2,none⟩=some (.string s0)/\w'.cell? ⟨b,o+k*2+1,none⟩=some (.string s1):=fun w' hw'=>⟨(hw'.cell (p:=⟨w.heap.size,0,none⟩) (Nat.lt_succ_self _)).trans q70,(hw'.cell (p:=⟨b,o+k*2,none⟩) (Nat.lt_succ_of_lt hlb)).trans qc0,(hw'.cell (p:=⟨b,o+k*2+1,none⟩) (Nat.lt_succ_of_lt hlb)).trans qc1⟩
     have HSS:=hid hS
     clear hS
     refine wp_region_held_drew (S:=fun w'=>w'.cell? ⟨w.heap.size,0,none⟩=some (.slice (some ⟨b,o,none⟩) rs.length c)/\w'.cell? ⟨b,o+k*2,none⟩=some (.string s0)/\w'.cell? ⟨b,o+k*2+1,none⟩=some (.string s1)) (by kernel_rfl) (HSS.out _ (Below.refl _ _).drew) (fun hHe=>?_)
     refine TY 0 (.slice (some ⟨g,0,none⟩) (m+1) cap) rfl hHe ?_
     simp only [PS]
     refine TY 1 (.int .i64 (m:Int)) rfl hHe ?_
     simp only [PS]
     refine TY 2 (.slice (some ⟨g,0,none⟩) (m+1) cap) rfl hHe ?_
     simp only [PS]
     refine TY 3 (.int .i64 (m:Int)) rfl hHe ?_
     simp only [PS]
     refine TY 4 (.pointer (some ⟨g,m,none⟩)) rfl hHe ?_
     simp only [PS]
     refine TY 6 (.pointer (some ⟨w.heap.size,0,none⟩)) rfl hHe ?_
     simp only [PS]
     refine TY 7 (.slice (some ⟨b,o,none⟩) rs.length c) rfl hHe ?_
     simp only [PS]
     refine TY 8 (.int .i64 (k:Int)) rfl hHe ?_
     simp only [PS]
     refine TY 9 (.pointer (some ⟨b,o+k*2,none⟩)) rfl hHe ?_
     simp only [PS]
     refine TY 10 (.pointer (some ⟨b,o+k*2,none⟩)) rfl hHe ?_
     simp only [PS]
     refine TY 11 (.string s0) rfl hHe ?_
     simp only [PS]
     refine TY 12 (.pointer (some ⟨w.heap.size,0,none⟩)) rfl hHe ?_
     simp only [PS]
     refine TY 13 (.slice (some ⟨b,o,none⟩) rs.length c) rfl hHe ?_
     simp only [PS]
     refine TY 14 (.int .i64 (k:Int)) rfl hHe ?_
     simp only [PS]
     refine TY 15 (.pointer (some ⟨b,o+k*2,none⟩)) rfl hHe ?_
     simp only [PS]
     refine TY 16 (.pointer (some ⟨b,o+k*2+1,none⟩)) rfl hHe ?_
     simp only [PS]
     refine TY 17 (.string s1) rfl hHe ?_
     simp only [PS]
     refine TY 18 (.agg #[.string s0,.string s1,.bool false]) rfl hHe ?_
     simp only [PS]
     refine wpAnyH_ready (rs:=[5,19]) (by kernel_rfl) (by simp) ?_
     have ha19:=HSS.out (w7.drew.alloc (.cells #[.string s0,.string s1,.bool false] 101)) ((Below.refl _ _).drew.alloc hs7 _)
     refine AllReadyH.cons rfl (fun K hK=>?_) (AllReadyH.cons rfl (fun K hK=>?_) AllReadyH.nil)
     ·go_simp
      refine hK.out _ _ hHe (fun _=>?_)
      clear hK K
      refine RD 19 rfl (fun K hK=>?_)
      go_simp
      refine hK.out _ _ ha19 (fun _=>?_)
      clear hK K
      refine RD 20 rfl (fun K hK=>?_)
      refine SAL _ (by rfl) _ _ _ (by rfl) (w.heap.size+1) Try.underlying93 HI.out rfl (by omega) (.slice (some ⟨wr.heap.size,0,none⟩) 0 0) 0 _ (by rfl) HXA.out ⟨w7.heap.size,0,none⟩ 1 1 [.string s0,.string s1,.bool false] (by rfl) rfl (World.news_of_block (heap_alloc_new w7 _)) (oneCS _ _ _) (by simp<;>omega) (w7.heap.size+1) (by simp) ?_
      intro g9 cap9 w9 hown9 hgrow9 hat9 hlt9
      have HO9:=hid hown9
      have HG9:=hid (undrew' hgrow9)
      have HA9:=hid hat9
      have hend:=snap_end hs7 HR.out HM.out (cs:=[]) rfl HO.out.1 HX.out HG9.out HO9.out HA9.out HB7.out
      have HEND:=hid hend
      have q9:=(grown_row HO.out HX.out HG9.out).1
      have r9:=(grown_row HO.out HX.out HG9.out).2
      have hb9:Below (w.heap.size+1) w7 w9:=below_grownS ((Below.refl _ _).alloc hs7 _) (HX.out.alloc _) HG9.out (by simp;omega)
      have ha20:=HSS.out _ hb9
      have ha22:=HSS.out _ (hb9.setCell (p:=⟨g,m,none⟩) (HO.out.1.lt g rfl).1 (.slice (some ⟨g9,0,none⟩) (0+1) cap9))
      clear hown9 hgrow9 hat9 hend hb9
      refine hK.out _ _ ha20 (fun _=>?_)
      clear hK K
      simp only [PS]
      refine TY 21 (.pointer (some ⟨g,m,none⟩)) rfl ha20 ?_
      simp only [PS]
      refine RD 22 rfl (fun K hK=>?_)
      go_simp
      refine hK.out _ _ ha22 (fun _=>?_)
      clear hK K
      refine DN ?_
      go_wp2
      refine ⟨⟨k+1,by omega,by go_num,?_,HEND.out.2⟩,by simp [intOf];omega⟩
      rw [HST.out]
      have e2:(s0,s1,false)=chOf (rs.getD k (ByteArray.empty,ByteArray.empty)):=by rw [<-HS.out];rfl
      rw [<-e2]
      exact HEND.out.1
     ·go_simp
      refine hK.out _ _ ha19 (fun _=>?_)
      clear hK K
      refine RD 5 rfl (fun K hK=>?_)
      go_simp
      refine hK.out _ _ ha19 (fun _=>?_)
      clear hK K
      refine RD 20 rfl (fun K hK=>?_)
      refine SAL _ (by rfl) _ _ _ (by rfl) (w.heap.size+1) Try.underlying93 HI.out rfl (by omega) (.slice (some ⟨wr.heap.size,0,none⟩) 0 0) 0 _ (by rfl) HXA.out ⟨w7.heap.size,0,none⟩ 1 1 [.string s0,.string s1,.bool false] (by rfl) rfl (World.news_of_block (heap_alloc_new w7 _)) (oneCS _ _ _) (by simp<;>omega) (w7.heap.size+1) (by simp) ?_
      intro g9 cap9 w9 hown9 hgrow9 hat9 hlt9
      have HO9:=hid hown9
      have HG9:=hid (undrew' hgrow9)
      have HA9:=hid hat9
      have hend:=snap_end hs7 HR.out HM.out (cs:=[]) rfl HO.out.1 HX.out HG9.out HO9.out HA9.out HB7.out
      have HEND:=hid hend
      have q9:=(grown_row HO.out HX.out HG9.out).1
      have r9:=(grown_row HO.out HX.out HG9.out).2
      have hb9:Below (w.heap.size+1) w7 w9:=below_grownS ((Below.refl _ _).alloc hs7 _) (HX.out.alloc _) HG9.out (by simp;omega)
      have ha20:=HSS.out _ hb9
      have ha22:=HSS.out _ (hb9.setCell (p:=⟨g,m,none⟩) (HO.out.1.lt g rfl).1 (.slice (some ⟨g9,0,none⟩) (0+1) cap9))
      clear hown9 hgrow9 hat9 hend hb9
      refine hK.out _ _ ha20 (fun _=>?_)
      clear hK K
      simp only [PS]
      refine TY 21 (.pointer (some ⟨g,m,none⟩)) rfl ha20 ?_
      simp only [PS]
      refine RD 22 rfl (fun K hK=>?_)
      go_simp
      refine hK.out _ _ ha22 (fun _=>?_)
      clear hK K
      refine DN ?_
      go_wp2
      refine ⟨⟨k+1,by omega,by go_num,?_,HEND.out.2⟩,by simp [intOf];omega⟩
      rw [HST.out]
      have e2:(s0,s1,false)=chOf (rs.getD k (ByteArray.empty,ByteArray.empty)):=by rw [<-HS.out];rfl
      rw [<-e2]
      exact HEND.out.1
    ·have hr':decide ((k:Int) % 20=0)=false:=by simp;omega
     obtain ⟨bss,cs,hbs,hst,hcl⟩:=snapU_on rs k hlt hr (ByteArray.empty,ByteArray.empty)
     have HST:=hid hst
     have hsl:=snapU_le rs k (by omega)
     rw [hbs] at HBT hsl
     obtain ⟨g,cap,vs,p,c9,rfl,hO,hX,hR⟩:=HBT.out.last
     obtain ⟨m,hm⟩:∃ m,m=bss.length:=⟨_,rfl⟩
     obtain ⟨n0,hn0⟩:∃ n0,n0=cs.length:=⟨_,rfl⟩
     have hm5:m<=5:=by simp at hsl;omega
     have hvl:vs.length=m:=by rw [hR.len,hm]
     rw [<-hm,<-hn0] at hO
     rw [<-hn0] at hX hR hcl
     rw [<-hm]
     have HM:=hid hm
     have HN:=hid hn0
     have HO:=hid (And.intro hO hvl)
     have HX:=hid hX
     have HR:=hid hR
     have hlt7:g<wr.heap.size:=(hO.lt g rfl).2
     have q7:=(owns_last hO hvl).1
     clear hbs hst hsl hO hX hR hm hn0 HBT hvl
     have hmm:(m:Int)<(m:Int)+1:=by omega
     have hm00:(0:Int)<=(m:Int):=by omega
     have HXA:=hid (HX.out.alloc (.cells #[.string s0,.string s1,.bool false] 101))
     have lb7:b<wr.heap.size:=Nat.lt_of_lt_of_le (Nat.lt_succ_of_lt hlb) hsz
     have q70:=q0
     have qc0:=hc0
     have qc1:=hc1
     have hs7:=hsz
     have HB7:=HB
     clear q0 hc0 hc1 hsz HB
     go_wp2_with fail
     have hS:∀ w',Below (w.heap.size+1) wr w'->w'.cell? ⟨w.heap.size,0,none⟩=some (.slice (some ⟨b,o,none⟩) rs.length c)/\w'.cell? ⟨b,o+k*2,none⟩=some (.string s0)/\w'.cell? ⟨b,o+k*2+1,none⟩=some (.string s1):=fun w' hw'=>⟨(hw'.cell (p:=⟨w.heap.size,0,none⟩) (Nat.lt_succ_self _)).trans q70,(hw'.cell (p:=⟨b,o+k*2,none⟩) (Nat.lt_succ_of_lt hlb)).trans qc0,(hw'.cell (p:=⟨b,o+k*2+1,none⟩) (Nat.lt_succ_of_lt hlb)).trans qc1⟩
     have HSS:=hid hS
     clear hS
     refine wp_region_held_drew (S:=fun w'=>w'.cell? ⟨w.heap.size,0,none⟩=some (.slice (some ⟨b,o,none⟩) rs.length c)/\w'.cell? ⟨b,o+k*2,none⟩=some (.string s0)/\w'.cell? ⟨b,o+k*2+1,none⟩=some (.string s1)) (by kernel_rfl) (HSS.out _ (Below.refl _ _).drew) (fun hHe=>?_)
     refine TY 0 (.slice (some ⟨g,0,none⟩) (m+1) cap) rfl hHe ?_
     simp only [PS]
     refine TY 1 (.int .i64 (m:Int)) rfl hHe ?_
     simp only [PS]
     refine TY 2 (.slice (some ⟨g,0,none⟩) (m+1) cap) rfl hHe ?_
     simp only [PS]
     refine TY 3 (.int .i64 (m:Int)) rfl hHe ?_
     simp only [PS]
     refine TY 4 (.pointer (some ⟨g,m,none⟩)) rfl hHe ?_
     simp only [PS]
     refine TY 6 (.pointer (some ⟨w.heap.size,0,none⟩)) rfl hHe ?_
     simp only [PS]
     refine TY 7 (.slice (some ⟨b,o,none⟩) rs.length c) rfl hHe ?_
     simp only [PS]
     refine TY 8 (.int .i64 (k:Int)) rfl hHe ?_
     simp only [PS]
     refine TY 9 (.pointer (some ⟨b,o+k*2,none⟩)) rfl hHe ?_
     simp only [PS]
     refine TY 10 (.pointer (some ⟨b,o+k*2,none⟩)) rfl hHe ?_
     simp only [PS]
     refine TY 11 (.string s0) rfl hHe ?_
     simp only [PS]
     refine TY 12 (.pointer (some ⟨w.heap.size,0,none⟩)) rfl hHe ?_
     simp only [PS]
     refine TY 13 (.slice (some ⟨b,o,none⟩) rs.length c) rfl hHe ?_
     simp only [PS]
     refine TY 14 (.int .i64 (k:Int)) rfl hHe ?_
     simp only [PS]
     refine TY 15 (.pointer (some ⟨b,o+k*2,none⟩)) rfl hHe ?_
     simp only [PS]
     refine TY 16 (.pointer (some ⟨b,o+k*2+1,none⟩)) rfl hHe ?_
     simp only [PS]
     refine TY 17 (.string s1) rfl hHe ?_
     simp only [PS]
     refine TY 18 (.agg #[.string s0,.string s1,.bool false]) rfl hHe ?_
     simp only [PS]
     refine wpAnyH_ready (rs:=[5,19]) (by kernel_rfl) (by simp) ?_
     have ha19:=HSS.out (wr.drew.alloc (.cells #[.string s0,.string s1,.bool false] 101)) ((Below.refl _ _).drew.alloc hs7 _)
     refine AllReadyH.cons rfl (fun K hK=>?_) (AllReadyH.cons rfl (fun K hK=>?_) AllReadyH.nil)
     ·go_simp
      refine hK.out _ _ hHe (fun _=>?_)
      clear hK K
      refine RD 19 rfl (fun K hK=>?_)
      go_simp
      refine hK.out _ _ ha19 (fun _=>?_)
      clear hK K
      refine RD 20 rfl (fun K hK=>?_)
      refine SAL _ (by rfl) _ _ _ (by rfl) (w.heap.size+1) Try.underlying93 HI.out rfl (by omega) (.slice p n0 c9) n0 _ (by rfl) HXA.out ⟨wr.heap.size,0,none⟩ 1 1 [.string s0,.string s1,.bool false] (by rfl) rfl (World.news_of_block (heap_alloc_new wr _)) (oneCS _ _ _) (by simp<;>omega) (wr.heap.size+1) (by simp) ?_
      intro g9 cap9 w9 hown9 hgrow9 hat9 hlt9
      have HO9:=hid hown9
      have HG9:=hid (undrew' hgrow9)
      have HA9:=hid hat9
      have hend:=snap_end hs7 HR.out HM.out HN.out HO.out.1 HX.out HG9.out HO9.out HA9.out HB7.out
      have HEND:=hid hend
      have q9:=(grown_row HO.out HX.out HG9.out).1
      have r9:=(grown_row HO.out HX.out HG9.out).2
      have hb9:Below (w.heap.size+1) wr w9:=below_grownS ((Below.refl _ _).alloc hs7 _) (HX.out.alloc _) HG9.out (by simp;omega)
      have ha20:=HSS.out _ hb9
      have ha22:=HSS.out _ (hb9.setCell (p:=⟨g,m,none⟩) (HO.out.1.lt g rfl).1 (.slice (some ⟨g9,0,none⟩) (n0+1) cap9))
      clear hown9 hgrow9 hat9 hend hb9
      refine hK.out _ _ ha20 (fun _=>?_)
      clear hK K
      simp only [PS]
      refine TY 21 (.pointer (some ⟨g,m,none⟩)) rfl ha20 ?_
      simp only [PS]
      refine RD 22 rfl (fun K hK=>?_)
      go_simp
      refine hK.out _ _ ha22 (fun _=>?_)
      clear hK K
      refine DN ?_
      go_wp2
      refine ⟨⟨k+1,by omega,by go_num,?_,HEND.out.2⟩,by simp [intOf];omega⟩
      rw [HST.out]
      have e2:(s0,s1,false)=chOf (rs.getD k (ByteArray.empty,ByteArray.empty)):=by rw [<-HS.out];rfl
      rw [<-e2]
      exact HEND.out.1
     ·go_simp
      refine hK.out _ _ ha19 (fun _=>?_)
      clear hK K
      refine RD 5 rfl (fun K hK=>?_)
      go_simp
      refine hK.out _ _ ha19 (fun _=>?_)
      clear hK K
      refine RD 20 rfl (fun K hK=>?_)
      refine SAL _ (by rfl) _ _ _ (by rfl) (w.heap.size+1) Try.underlying93 HI.out rfl (by omega) (.slice p n0 c9) n0 _ (by rfl) HXA.out ⟨wr.heap.size,0,none⟩ 1 1 [.string s0,.string s1,.bool false] (by rfl) rfl (World.news_of_block (heap_alloc_new wr _)) (oneCS _ _ _) (by simp<;>omega) (wr.heap.size+1) (by simp) ?_
      intro g9 cap9 w9 hown9 hgrow9 hat9 hlt9
      have HO9:=hid hown9
      have HG9:=hid (undrew' hgrow9)
      have HA9:=hid hat9
      have hend:=snap_end hs7 HR.out HM.out HN.out HO.out.1 HX.out HG9.out HO9.out HA9.out HB7.out
      have HEND:=hid hend
      have q9:=(grown_row HO.out HX.out HG9.out).1
      have r9:=(grown_row HO.out HX.out HG9.out).2
      have hb9:Below (w.heap.size+1) wr w9:=below_grownS ((Below.refl _ _).alloc hs7 _) (HX.out.alloc _) HG9.out (by simp;omega)
      have ha20:=HSS.out _ hb9
      have ha22:=HSS.out _ (hb9.setCell (p:=⟨g,m,none⟩) (HO.out.1.lt g rfl).1 (.slice (some ⟨g9,0,none⟩) (n0+1) cap9))
      clear hown9 hgrow9 hat9 hend hb9
      refine hK.out _ _ ha20 (fun _=>?_)
      clear hK K
      simp only [PS]
      refine TY 21 (.pointer (some ⟨g,m,none⟩)) rfl ha20 ?_
      simp only [PS]
      refine RD 22 rfl (fun K hK=>?_)
      go_simp
      refine hK.out _ _ ha22 (fun _=>?_)
      clear hK K
      refine DN ?_
      go_wp2
      refine ⟨⟨k+1,by omega,by go_num,?_,HEND.out.2⟩,by simp [intOf];omega⟩
      rw [HST.out]
      have e2:(s0,s1,false)=chOf (rs.getD k (ByteArray.empty,ByteArray.empty)):=by rw [<-HS.out];rfl
      rw [<-e2]
      exact HEND.out.1
   ·have hkl:k=rs.length:=by omega
    subst hkl
    go_wp2
    go_ret
    exact ⟨_,rfl,hbat,((Below.refl _ _).alloc (Nat.le_refl _) _).trans (hbel.mono (by omega))⟩
end Go.Proofs.Ythdilmkbnpmdaaa
namespace Go.Proofs.Ythdilmkbnpmdaaa
open Go.RowKit Go.Shelf
def KpC (n₀ Bs Bn:Nat) (A B:World):Prop:=Below n₀ A B/\B.cell? ⟨Bs,0,none⟩=A.cell? ⟨Bs,0,none⟩/\B.cell? ⟨Bn,0,none⟩=A.cell? ⟨Bn,0,none⟩
theorem KpC.t {n₀ Bs Bn:Nat} {A B C:World} (h:KpC n₀ Bs Bn A B) (k:KpC n₀ Bs Bn B C):KpC n₀ Bs Bn A C:=⟨h.1.trans k.1,k.2.1.trans h.2.1,k.2.2.trans h.2.2⟩
theorem KpC.b {n₀ Bs Bn:Nat} {w:World} (hn:n₀<=w.heap.size) (h1:Bs<w.heap.size) (h2:Bn<w.heap.size) (W:World) (l:Nat) (o o':Obj) (hl:w.heap.size<=l) (h:W.heap[l]?=some o) (hc:o.isCells=false) (hw:o.isWalk=false):KpC n₀ Bs Bn W (W.putObj l o') :=
 ⟨belowK_b hn W l o o' hl h hc hw,World.cell?_of_block (World.putObj_heap_other (by show Bs≠l;omega)),World.cell?_of_block (World.putObj_heap_other (by show Bn≠l;omega))⟩
theorem Bat.boxed {w:World} {base B:Nat} {v u z:Value} {bss:List (List Ch)} (h:Bat w base v bss) (hb:Boxed w B 132 u):Bat (w.setCell ⟨B,0,none⟩ z) base v bss:=by
 obtain ⟨vs,h1,h2,h3⟩:=h
 refine ⟨vs,h1.kept (grownBy_setCell' w B z) (.inr fun e=>hb.not_row (by decide) h1 e.symm),fun i hi=>(h2 i hi).kept (grownBy_setCell' w B z) (.inr fun e=>hb.not_row (by decide) (h2 i hi) e.symm),h3⟩
theorem row_own {X Y:World} {row:Option Nat} {base:Nat} {e:TypeId} {s:Nat} {v:Value} {n:Nat} {xs:List Value} (h:X.ownsRow base e s v n xs) (hg:X.grownBy Y row) (hr:∀ r,row=some r->∃ o:Obj,X.heap[r]?=some o/\o.isCells=false):Y.ownsRow base e s v n xs:=by
 refine h.kept hg ?_
 rcases h.2 with ⟨rfl,_⟩ | ⟨g,cap,cur,rfl,_,hgb,_⟩
 ·exact .inl rfl
 ·refine .inr fun e'=>?_
  obtain ⟨o,ho,hc⟩:=hr g (by simpa [Value.ownBlock] using e'.symm)
  rw [hgb] at ho;cases ho;cases hc
theorem box_own {X Y:World} {row:Option Nat} {B:Nat} {t:TypeId} {v:Value} (h:Boxed X B t v) (hg:X.grownBy Y row) (hr:∀ r,row=some r->∃ o:Obj,X.heap[r]?=some o/\o.isCells=false):Boxed Y B t v:=by
 refine h.kept hg fun e=>?_
 obtain ⟨o,ho,hc⟩:=hr B e.symm
 rw [show X.heap[B]?=_ from h] at ho;cases ho;cases hc
def InSn (n₀ B Bs Bn:Nat) (sv:Value) (bss:List (List Ch)) (W:World):Prop:=∃ v,Boxed W B 132 v/\Bat W n₀ v bss/\Boxed W Bs 75 sv/\Boxed W Bn 3 (.int .i64 20)
theorem InSn.own (n₀ B Bs Bn:Nat) (sv:Value) (f:List Nat->List (List Ch)):Own (fun pre W=>InSn n₀ B Bs Bn sv (f pre) W):=by
 rintro s X Y row ⟨v,hv,⟨vs,h1,h2,h3⟩,h4,h5⟩ hg hr
 exact ⟨v,box_own hv hg hr,⟨vs,row_own h1 hg hr,fun i hi=>row_own (h2 i hi) hg hr,h3⟩,box_own h4 hg hr,box_own h5 hg hr⟩
theorem keeps_below {W W':World} (h:Below W.heap.size W W'):KeepsOthers W W':=⟨h.size,fun k o hk _=>(h.block k (Array.getElem?_eq_some_iff.1 hk).1).trans hk⟩
theorem InSn.push {W wr w1:World} {n₀ B Bs Bn:Nat} {sv v v' y:Value} {bss:List (List Ch)} {cs:List Ch} {vs:List Value} {tmp:Obj} (hn:n₀<=W.heap.size) (hB:n₀<=B) (hv:Boxed W B 132 v) (h1:W.ownsRow n₀ 93 1 v bss.length vs) (h2:∀ i,i<bss.length->W.ownsRow n₀ 101 3 (vs.getD i nov) (bss.getD i []).length (chcells (bss.getD i [])))
  (h3:∀ i j k,i<j->j<bss.length->(vs.getD i nov).ownBlock=some k->(vs.getD j nov).ownBlock≠some k) (hs:Boxed W Bs 75 sv) (hm:Boxed W Bn 3 (.int .i64 20)) (hbw:Below W.heap.size W wr)
  (hy:wr.ownsRow W.heap.size 101 3 y cs.length (chcells cs)) (ho:w1.ownsRow n₀ 93 1 v' (bss.length+1) (vs++[y])) (hg:(wr.alloc tmp).grownBy w1 v.ownBlock) :
  Boxed w1 B 132 v/\InSn n₀ B Bs Bn sv (bss++[cs]) (w1.setCell ⟨B,0,none⟩ v')/\KeepsOthers W (w1.setCell ⟨B,0,none⟩ v')/\KpC n₀ Bs Bn W (w1.setCell ⟨B,0,none⟩ v'):=by
 have bx:∀ {b:Nat} {t:TypeId} {u:Value},Boxed W b t u->Boxed wr b t u:=fun h=>(hbw.block _ h.lt).trans h
 have h1r:=owns_below h1 hbw
 have hv1:Boxed w1 B 132 v:=((bx hv).alloc tmp).kept hg ((bx hv).not_row (by decide) h1r)
 have hs1:Boxed w1 Bs 75 sv:=((bx hs).alloc tmp).kept hg ((bx hs).not_row (by decide) h1r)
 have hm1:Boxed w1 Bn 3 (.int .i64 20):=((bx hm).alloc tmp).kept hg ((bx hm).not_row (by decide) h1r)
 have hbat:Bat w1 n₀ v' (bss++[cs]):=Bat.push (h1r.alloc tmp) (fun i hi=>(owns_below (h2 i hi) hbw).alloc tmp) h3 ((owns_mono hy hn).alloc tmp) (fun i k hi he e=>by
  have a1:=(h2 i hi).lt k he
  have a2:=hy.lt k e
  omega) ho hg
 have ns:Bs≠B:=fun e=>by
  have:=(show W.heap[Bs]?=_ from hs)
  rw [e,show W.heap[B]?=_ from hv] at this
  simp at this
 have nm:Bn≠B:=fun e=>by
  have:=(show W.heap[Bn]?=_ from hm)
  rw [e,show W.heap[B]?=_ from hv] at this
  simp at this
 have hs2:Boxed (w1.setCell ⟨B,0,none⟩ v') Bs 75 sv:=hs1.kept (grownBy_setCell' w1 B v') (by simp [ns])
 have hm2:Boxed (w1.setCell ⟨B,0,none⟩ v') Bn 3 (.int .i64 20):=hm1.kept (grownBy_setCell' w1 B v') (by simp [nm])
 refine ⟨hv1,⟨v',hv1.set v',hbat.boxed hv1,hs2,hm2⟩,?_,?_,hs2.cell.trans hs.cell.symm,hm2.cell.trans hm.cell.symm⟩
 ·refine (((keeps_below hbw).trans (KeepsOthers.alloc _ tmp)).trans (KeepsOthers.of_grownBy hg fun j o ej hj=>?_)).trans (KeepsOthers.setCell _ _ _)
  rcases (h1r.alloc tmp).2 with ⟨rfl,_⟩ | ⟨g,cap,cur,rfl,_,hgb,_⟩
  ·simp [Value.ownBlock] at ej
  ·obtain rfl:g=j:=by simpa [Value.ownBlock] using ej
   rw [hgb] at hj;cases hj;rfl
 ·refine ((((Below.refl n₀ W).trans (hbw.mono hn)).alloc (by have:=hbw.size;omega) tmp).grown hg (by have:=hbw.size;simp;omega) fun j ej=>?_).setCell (p:=⟨B,0,none⟩) hB v'
  exact (h1.lt j ej).1
theorem InSn.below {W W':World} {n₀ B Bs Bn:Nat} {sv:Value} {bss:List (List Ch)} (h:InSn n₀ B Bs Bn sv bss W) (hb:Below W.heap.size W W'):InSn n₀ B Bs Bn sv bss W':=by
 obtain ⟨v,hv,h1,h2,h3⟩:=h
 exact ⟨v,(hb.block _ hv.lt).trans hv,h1.below hb,(hb.block _ h2.lt).trans h2,(hb.block _ h3.lt).trans h3⟩
end Go.Proofs.Ythdilmkbnpmdaaa
namespace Go.Proofs.Ythdilmkbnpmdaaa
open Go.RowKit Go.Shelf
attribute [local go_sem] Oper.semAt_some
theorem snapOf_len (rs:List Pr):(snapOf rs).length<=5:=by
 unfold snapOf
 split
 ·rename_i h;exact snapU_le rs _ (stateOk_of h).1
 ·simp
theorem snapOf_mem {rs:List Pr} {b:List Ch} (h:b∈snapOf rs):b.length<=20/\∀ x∈b,(x.1,x.2.1)∈rs:=by
 unfold snapOf at h
 split at h
 ·exact snap_mem h
 ·simp at h
end Go.Proofs.Ythdilmkbnpmdaaa
