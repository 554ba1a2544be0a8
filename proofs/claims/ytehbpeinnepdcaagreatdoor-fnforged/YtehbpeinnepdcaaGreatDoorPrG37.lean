import Derived.Test.YtehbpeinnepdcaaGreatDoorPrG36
import Derived.RangeFuncNested
import Derived.RangeFuncBound
import Derived.RangeFuncCalls
import Derived.RangeFuncLeaves
import Derived.RangeFuncBox
import Derived.Shelf.Abstract
import Derived.Shelf.RegionOpenV
import Derived.OwnWalkIn
import Derived.TacticsInMore
import Derived.LoopNIn
import Derived.LoopIn
import Derived.Sort.QuietIn
import Derived.Maps.AppendAt
import Derived.Maps.OwnIn
set_option maxHeartbeats 16000000
set_option maxRecDepth 8000
set_option linter.unusedVariables false
set_option linter.unusedSimpArgs false
namespace Go.Proofs.YtehbpeinnepdcaaGreatDoor
open Go.RowKit
abbrev Pr:=ByteArray×ByteArray
abbrev nov:Value:=.slice none 0 0
def ZNW (p:Pr):Ch:=(p.1,p.2,false)
def qGw (rs:List Pr) (k:Nat):List Ch:=((rs.drop (k*20)).take 20).map ZNW
def xEW (rs:List Pr) (i:Nat):List (List Ch):=(List.range ((i+19) / 20)).map (qGw (rs.take i))
def ZZG (rs:List Pr):List (List Ch):=if z0q rs=true then xEW rs rs.length else []
theorem xCZ (rs:List Pr) (i:Nat):(xEW rs i).length=(i+19) / 20:=by simp [xEW]
theorem y6q (rs:List Pr) (i k:Nat) (hi:i<rs.length) (hk:k*20+20<=i):qGw (rs.take (i+1)) k=qGw (rs.take i) k:=by
 unfold qGw
 congr 1
 rw [List.drop_take,List.drop_take,List.take_take,List.take_take]
 congr 1
 omega
theorem ydg (rs:List Pr) (i k:Nat) (hi:i<rs.length) (h1:k*20<=i) (h2:i<k*20+20) (d:Pr):qGw (rs.take (i+1)) k=qGw (rs.take i) k++[ZNW (rs.getD i d)]:=by
 unfold qGw;rw [List.drop_take,List.drop_take,List.take_take,List.take_take,Nat.min_eq_right (by omega),Nat.min_eq_right (by omega)];rw [show i+1-k*20=(i-k*20)+1 by omega,List.take_add_one,List.map_append]
 congr 1
 rw [List.getElem?_drop,show k*20+(i-k*20)=i by omega];simp [List.getD,hi]
theorem XKu (rs:List Pr) (i:Nat) (hi:i<rs.length) (h:i % 20=0) (d:Pr):xEW rs (i+1)=xEW rs i++[[ZNW (rs.getD i d)]]:=by
 unfold xEW;rw [show (i+1+19) / 20=(i+19) / 20+1 by omega,List.range_succ,List.map_append]
 have e0:qGw (rs.take i) (i / 20)=[]:=by
  unfold qGw;rw [List.drop_eq_nil_of_le (by rw [List.length_take];omega)];rfl
 congr 1
 ·exact List.map_congr_left fun k hk=>y6q rs i k hi (by simp at hk;omega)
 ·have e1:(i+19) / 20=i / 20:=by omega
  rw [e1,List.map_singleton,ydg rs i (i / 20) hi (by omega) (by omega) d,e0];rfl
theorem q0O (rs:List Pr) (i:Nat) (hi:i<rs.length) (h:i % 20≠0) (d:Pr):∃ aA cs,xEW rs i=aA++[cs]/\xEW rs (i+1)=aA++[cs++[ZNW (rs.getD i d)]]/\cs.length<=20:=by
 refine ⟨(List.range (i / 20)).map (qGw (rs.take i)),qGw (rs.take i) (i / 20),?_,?_,?_⟩
 ·unfold xEW
  rw [show (i+19) / 20=i / 20+1 by omega,List.range_succ,List.map_append];rfl
 ·unfold xEW
  rw [show (i+1+19) / 20=i / 20+1 by omega,List.range_succ,List.map_append,List.map_singleton,ydg rs i (i / 20) hi (by omega) (by omega) d]
  congr 1
  exact List.map_congr_left fun k hk=>y6q rs i k hi (by simp at hk;omega)
 ·unfold qGw;simp;omega
theorem Qiw (rs:List Pr) (k:Nat):(qGw rs k).length=min 20 (rs.length-k*20):=by unfold qGw;simp
theorem yLX (rs:List Pr):xEW rs rs.length=(List.range ((rs.length+19) / 20)).map (qGw rs):=by unfold xEW;rw [List.take_length]
theorem qjy {rs:List Pr} {b:List Ch} (h:b∈xEW rs rs.length):b.length<=20/\∀ x∈b,(x.1,x.2.1)∈rs:=by
 rw [yLX] at h;obtain ⟨k,hk,rfl⟩:=List.mem_map.1 h;refine ⟨by rw [Qiw];omega,fun x hx=>?_⟩;unfold qGw at hx;obtain ⟨p,hp,rfl⟩:=List.mem_map.1 hx;exact List.mem_of_mem_drop (List.mem_of_mem_take hp)
def Bat (w:World) (base:Nat) (v:Value) (aA:List (List Ch)):Prop :=
 ∃ vs:List Value,w.ownsRow base 84 1 v aA.length vs/\(∀ i,i<aA.length->w.ownsRow base 121 3 (vs.getD i nov) (aA.getD i []).length (jlM (aA.getD i []))) /\
  ∀ i j k,i<j->j<aA.length->(vs.getD i nov).ownBlock=some k->(vs.getD j nov).ownBlock≠some k
theorem Bat.nil (w:World) (base:Nat):Bat w base nov []:=⟨[],World.ownsRow_nil _ _ _ _,fun i h=>absurd h (by simp),fun i j k _ h=>absurd h (by simp)⟩
theorem Bat.below {w w':World} {base:Nat} {v:Value} {aA:List (List Ch)} (h:Bat w base v aA) (hb:Below w.heap.size w w'):Bat w' base v aA:=by
 obtain ⟨vs,h1,h2,h3⟩:=h;exact ⟨vs,jcb h1 hb,fun i hi=>jcb (h2 i hi) hb,h3⟩
theorem QnU {w:World} {b1 b2:Nat} {e1 e2:TypeId} {s1 s2:Nat} {v1 v2:Value} {n1 n2:Nat} {x1 x2:List Value} (h1:w.ownsRow b1 e1 s1 v1 n1 x1) (h2:w.ownsRow b2 e2 s2 v2 n2 x2) (he:e1≠e2):v1.ownBlock=none\/v1.ownBlock≠v2.ownBlock:=by
 rcases h1.2 with ⟨rfl,_⟩ | ⟨g,cap,aD,rfl,_,hg,_⟩
 ·exact .inl rfl
 ·right
  rcases h2.2 with ⟨rfl,_⟩ | ⟨g',aB,aC,rfl,_,aA,_⟩
  ·simp [Value.ownBlock]
  ·simp only [Value.ownBlock,ne_eq,Option.some.injEq]
   intro e;subst e;rw [hg] at aA
   cases aA
   exact he rfl
theorem Bat.kept {w w':World} {base:Nat} {v:Value} {aA:List (List Ch)} {row:Option Nat} (h:Bat w base v aA) (hg:w.grownBy w' row) (hr:∀ k,row=some k->base > k\/w.heap.size<=k):Bat w' base v aA:=by
 obtain ⟨vs,h1,h2,h3⟩:=h
 have aB:∀ {e:TypeId} {s:Nat} {u:Value} {n:Nat} {xs:List Value},w.ownsRow base e s u n xs->w'.ownsRow base e s u n xs:=fun hh=>by
  refine hh.kept hg ?_
  cases hu:(Value.ownBlock _) with
  | none=>exact .inl rfl
  | some k =>
   refine .inr fun e=>?_
   have:=hh.lt k hu;rcases hr k e.symm with h | h<;>omega
 exact ⟨vs,aB h1,fun i hi=>aB (h2 i hi),h3⟩
theorem Bat.push {w w1:World} {base:Nat} {v v' x:Value} {aA:List (List Ch)} {cs:List Ch} {vs:List Value} (h1:w.ownsRow base 84 1 v aA.length vs) (h2:∀ i,i<aA.length->w.ownsRow base 121 3 (vs.getD i nov) (aA.getD i []).length (jlM (aA.getD i [])))
  (h3:∀ i j k,i<j->j<aA.length->(vs.getD i nov).ownBlock=some k->(vs.getD j nov).ownBlock≠some k) (hx:w.ownsRow base 121 3 x cs.length (jlM cs)) (aG:∀ i k,i<aA.length->(vs.getD i nov).ownBlock=some k->x.ownBlock≠some k)
  (ho:w1.ownsRow base 84 1 v' (aA.length+1) (vs++[x])) (hg:w.grownBy w1 v.ownBlock):Bat w1 base v' (aA++[cs]):=by
 have aD:vs.length=aA.length:=by have:=h1.1;omega
 have ne:(121:TypeId)≠84:=by decide
 refine ⟨vs++[x],by simpa using ho,fun i hi=>?_,fun i j k aC hj he=>?_⟩
 ·by_cases aB:i<aA.length
  ·have e1:(vs++[x]).getD i nov=vs.getD i nov:=by simp [List.getD,List.getElem?_append_left (show i<vs.length by omega)]
   have e2:(aA++[cs]).getD i []=aA.getD i []:=by simp [List.getD,List.getElem?_append_left aB]
   rw [e1,e2];exact (h2 i aB).kept hg (QnU (h2 i aB) h1 ne)
  ·have aE:i=aA.length:=by simp at hi;omega
   subst aE;have e1:(vs++[x]).getD aA.length nov=x:=by rw [<-aD];simp [List.getD]
   have e2:(aA++[cs]).getD aA.length []=cs:=by simp [List.getD]
   rw [e1,e2];exact hx.kept hg (QnU hx h1 ne)
 ·simp only [List.length_append,List.length_cons,List.length_nil] at hj
  have e1:(vs++[x]).getD i nov=vs.getD i nov:=by simp [List.getD,List.getElem?_append_left (show i<vs.length by omega)]
  rw [e1] at he
  by_cases aB:j<aA.length
  ·have e2:(vs++[x]).getD j nov=vs.getD j nov:=by simp [List.getD,List.getElem?_append_left (show j<vs.length by omega)]
   rw [e2];exact h3 i j k aC aB he
  ·have aF:j=aA.length:=by omega
   subst aF;have e2:(vs++[x]).getD aA.length nov=x:=by rw [<-aD];simp [List.getD]
   rw [e2];exact aG i k aC he
def Bts (w:World) (a:Option Addr) (aA:List (List Ch)):Prop :=
 aA=[]\/∃ g,a=some ⟨g,0,none⟩/\g<w.heap.size/\∀ i,i<aA.length->∃ p c,w.cell? ⟨g,i,none⟩=some (.slice p (aA.getD i []).length c)/\Chs w p (aA.getD i [])
theorem Bts.below {w w':World} {a:Option Addr} {aA:List (List Ch)} (h:Bts w a aA) (hb:Below w.heap.size w w'):Bts w' a aA:=by
 rcases h with h | ⟨g,h1,h2,h3⟩
 ·exact .inl h
 ·refine .inr ⟨g,h1,Nat.lt_of_lt_of_le h2 hb.size,fun i hi=>?_⟩
  obtain ⟨p,c,h4,h5⟩:=h3 i hi;exact ⟨p,c,(hb.cell (p:=⟨g,i,none⟩) h2).trans h4,h5.below hb⟩
theorem kwm {w:World} {B:Nat} {e:TypeId} {y:Value} {o:List Ch} (h:w.ownsRow B e 3 y o.length (jlM o)):∃ a c,y=.slice a o.length c/\Chs w a o:=by
 rcases yUO h with ⟨h1,h2⟩ | ⟨g,cap,h1,h2,_,h3⟩
 ·have:o=[]:=List.eq_nil_of_length_eq_zero h2
  subst this;exact ⟨none,0,h1,.inl rfl⟩
 ·exact ⟨_,cap,h1,h3.chs⟩
theorem Bat.bts {w:World} {base:Nat} {v:Value} {aA:List (List Ch)} (h:Bat w base v aA):∃ a c,v=.slice a aA.length c/\Bts w a aA:=by
 obtain ⟨vs,h1,h2,h3⟩:=h;rcases yUO h1 with ⟨e1,e2⟩ | ⟨g,cap,e1,e2,e3,e4⟩
 ·have:aA=[]:=List.eq_nil_of_length_eq_zero e2
  subst this;exact ⟨none,0,e1,.inl rfl⟩
 ·refine ⟨_,cap,e1,.inr ⟨g,rfl,e3,fun i hi=>?_⟩⟩
  obtain ⟨p,c,f1,f2⟩:=kwm (h2 i hi);have aB:vs.length=aA.length:=by have:=h1.1;omega
  refine ⟨p,c,e4.cell i _ ?_,f2⟩;rw [<-f1];simp [List.getD,List.getElem?_eq_getElem (show i<vs.length by omega)]
theorem Bts.at {w:World} {a:Option Addr} {aA:List (List Ch)} (h:Bts w a aA) {k:Nat} (hk:k<aA.length):∃ g p c,a=some ⟨g,0,none⟩/\g<w.heap.size/\w.cell? ⟨g,k,none⟩=some (.slice p (aA.getD k []).length c)/\Chs w p (aA.getD k []):=by
 rcases h with h | ⟨g,h1,h2,h3⟩
 ·subst h;simp at hk
 ·obtain ⟨p,c,h4,h5⟩:=h3 k hk
  exact ⟨g,p,c,h1,h2,h4,h5⟩
theorem yhi:(Tryz.prog.info? 121).map (fun i=>(i.zero,i.size,i.bytes))=some (some (.agg #[.string ByteArray.empty,.string ByteArray.empty,.bool false]),3,40):=by kernel_rfl
theorem v2Y:(Tryz.prog.info? 84).map (fun i=>(i.zero,i.size,i.bytes))=some (some (.slice none 0 0),1,24):=by kernel_rfl
theorem XJR {P:Program} {e:TypeId} {z:Value} {size aA:Nat} (h:(P.info? e).map (fun i=>(i.zero,i.size,i.bytes))=some (some z,size,aA)):∃ i,P.info? e=some i/\i.zero=some z/\i.size=size/\i.bytes=aA:=by
 obtain ⟨i,hi,hh⟩:=Option.map_eq_some_iff.1 h;simp only [Prod.mk.injEq] at hh;exact ⟨i,hi,hh⟩
theorem jbs {W w w1:World} {e:TypeId} {size:Nat} {v:Value} {n B:Nat} {xs:List Value} (hb:Below B W w) (own:w.ownsRow B e size v n xs) (hg:w.grownBy w1 v.ownBlock) (hB:B<=w.heap.size):Below B W w1 :=
 hb.trans ⟨hg.os,hg.tape,hg.output,hg.size,fun k hk=>hg.block k (by omega) (fun he=>by have:=(own.lt k he.symm).1;omega)⟩
theorem zjg {w:World} {b b':Nat} {e:TypeId} {s:Nat} {v:Value} {n:Nat} {xs:List Value} (h:w.ownsRow b e s v n xs) (hb:b'<=b):w.ownsRow b' e s v n xs:=by
 refine ⟨h.1,?_⟩;rcases h.2 with h0 | ⟨g,cap,aA,h1,h2,h3⟩
 ·exact .inl h0
 ·exact .inr ⟨g,cap,aA,h1,Nat.le_trans hb h2,h3⟩
theorem Bat.mono {w:World} {b b':Nat} {v:Value} {aA:List (List Ch)} (h:Bat w b v aA) (hb:b'<=b):Bat w b' v aA:=by
 obtain ⟨vs,h1,h2,h3⟩:=h;exact ⟨vs,zjg h1 hb,fun i hi=>zjg (h2 i hi) hb,h3⟩
structure Rest (w:World) (base:Nat) (bss:List (List Ch)) (vs:List Value) (x:Value):Prop where
 len:vs.length=bss.length
 own:∀ i,i<bss.length->w.ownsRow base 121 3 (vs.getD i nov) (bss.getD i []).length (jlM (bss.getD i []))
 apart:∀ i j k,i<j->j<bss.length->(vs.getD i nov).ownBlock=some k->(vs.getD j nov).ownBlock≠some k
 last:∀ i k,i<bss.length->(vs.getD i nov).ownBlock=some k->x.ownBlock≠some k
theorem Bat.last {w:World} {base:Nat} {v:Value} {aA:List (List Ch)} {cs:List Ch} (h:Bat w base v (aA++[cs])):∃ g cap vs p c,v=.slice (some ⟨g,0,none⟩) (aA.length+1) cap/\w.ownsRow base 84 1 v (aA.length+1) (vs++[.slice p cs.length c])/\w.ownsRow base 121 3 (.slice p cs.length c) cs.length (jlM cs)/\Rest w base aA vs (.slice p cs.length c):=by
 obtain ⟨vs,h1,h2,h3⟩:=h;have aB:vs.length=aA.length+1:=by have:=h1.1;simp at this;omega
 obtain ⟨us,x,rfl⟩:∃ us x,vs=us++[x]:=⟨vs.dropLast,vs.getLast (by intro e;subst e;simp at aB),(List.dropLast_concat_getLast _).symm⟩;have aC:us.length=aA.length:=by simp at aB;exact aB
 have hx:=h2 aA.length (by simp);have e1:(us++[x]).getD aA.length nov=x:=by rw [<-aC];simp [List.getD]
 have e2:(aA++[cs]).getD aA.length []=cs:=by simp [List.getD]
 rw [e1,e2] at hx
 have f1:∀ i,i<aA.length->(us++[x]).getD i nov=us.getD i nov:=fun i hi=>by simp [List.getD,List.getElem?_append_left (show i<us.length by omega)]
 have f2:∀ i,i<aA.length->(aA++[cs]).getD i []=aA.getD i []:=fun i hi=>by simp [List.getD,List.getElem?_append_left hi]
 obtain ⟨p,c,rfl,_⟩:=kwm hx;simp only [List.length_append,List.length_cons,List.length_nil] at h1
 obtain ⟨g,cap,hv⟩:∃ g cap,v=.slice (some ⟨g,0,none⟩) (aA.length+1) cap:=by
  rcases yUO h1 with ⟨_,h0⟩ | ⟨g,cap,h0,_⟩
  ·omega
  ·exact ⟨g,cap,h0⟩
 refine ⟨g,cap,us,p,c,hv,h1,hx,aC,fun i hi=>?_,fun i j k aD hj he=>?_,fun i k hi he=>?_⟩
 ·have:=h2 i (by simp;omega)
  rwa [f1 i hi,f2 i hi] at this
 ·have:=h3 i j k aD (by simp;omega)
  rw [f1 i (by omega),f1 j hj] at this;exact this he
 ·have:=h3 i aA.length k hi (by simp)
  rw [f1 i hi,e1] at this;exact this he
theorem Rest.relast {w w1:World} {base g cap:Nat} {aA:List (List Ch)} {cs:List Ch} {vs:List Value} {x x':Value} {n0:Nat} {aH:List Ch} (hr:Rest w base aA vs x) (hb:base<=w.heap.size)
  (ho:w.ownsRow base 84 1 (.slice (some ⟨g,0,none⟩) (aA.length+1) cap) (aA.length+1) (vs++[x])) (hx:w.ownsRow base 121 3 x n0 (jlM aH))
  (hg:w.grownBy w1 x.ownBlock) (aJ:w1.ownsRow base 121 3 x' cs.length (jlM cs)) (hn:x.ownBlock=x'.ownBlock\/x'.ownBlock=some w.heap.size) :
  Bat (w1.setCell ⟨g,aA.length,none⟩ x') base (.slice (some ⟨g,0,none⟩) (aA.length+1) cap) (aA++[cs]):=by
 have ne:(121:TypeId)≠84:=by decide
 have aE:=hr.len
 have aF:w1.ownsRow base 84 1 (.slice (some ⟨g,0,none⟩) (aA.length+1) cap) (aA.length+1) (vs++[x]):=ho.kept hg (by
  rcases QnU ho hx (Ne.symm ne) with h | h
  ·exact .inl h
  ·exact .inr h)
 have aI:w1.grownBy (w1.setCell ⟨g,aA.length,none⟩ x') (some g):=⟨rfl,rfl,rfl,by simp [World.setCell],fun k _ hk=>Below.heap_setCell _ _ _ k (fun e=>hk (by rw [e]))⟩
 have ap:∀ {u:Value} {n:Nat} {xs:List Value},w1.ownsRow base 121 3 u n xs->(w1.setCell ⟨g,aA.length,none⟩ x').ownsRow base 121 3 u n xs:=fun h=>h.kept aI (QnU h aF ne)
 have aK:∀ i,i<aA.length->w1.ownsRow base 121 3 (vs.getD i nov) (aA.getD i []).length (jlM (aA.getD i [])):=fun i hi=>(hr.own i hi).kept hg (by
  cases hk:(vs.getD i nov).ownBlock with
  | none=>exact .inl rfl
  | some k=>exact .inr fun e=>hr.last i k hi hk e.symm)
 have f1:∀ i,i<aA.length->(vs++[x']).getD i nov=vs.getD i nov:=fun i hi=>by simp [List.getD,List.getElem?_append_left (show i<vs.length by omega)]
 have f2:∀ i,i<aA.length->(aA++[cs]).getD i []=aA.getD i []:=fun i hi=>by simp [List.getD,List.getElem?_append_left hi]
 have e1:(vs++[x']).getD aA.length nov=x':=by rw [<-aE];simp [List.getD]
 have e2:(aA++[cs]).getD aA.length []=cs:=by simp [List.getD]
 refine ⟨vs++[x'],?_,fun i hi=>?_,fun i j k aD hj he=>?_⟩
 ·refine ⟨by simp [aE],.inr ?_⟩
  rcases aF.2 with ⟨h0,_⟩ | ⟨g',aG,aC,h1,h2,h3,h4,h5,h6,h7⟩
  ·cases h0
  ·cases h1
   refine ⟨g,cap,aC.set! aA.length x',by simp,h2,?_,by simpa using h4,h5,by simpa using h6,?_⟩
   ·have aB:=(Array.getElem?_eq_some_iff.1 h3).1
    have hk:=(Array.getElem?_eq_some_iff.1 h3).2;show (w1.heap.modify g _)[g]?=_;rw [Array.getElem?_eq_getElem (by rw [Array.size_modify];exact aB),Array.getElem_modify_self,hk];rfl
   ·have hz:aC.toList.length=aC.size:=by simp
    have hl:aA.length<aC.toList.length:=by omega
    simp only [Nat.mul_one,List.length_append,List.length_cons,List.length_nil] at h7 ⊢;have:(aC.set! aA.length x').toList=aC.toList.set aA.length x':=by simp
    rw [this,Nat.zero_add,List.take_set,h7,List.set_append_right _ _ (by omega),aE];simp
 ·by_cases aB:i<aA.length
  ·rw [f1 i aB,f2 i aB];exact ap (aK i aB)
  ·have:i=aA.length:=by simp at hi;omega
   subst this;rw [e1,e2];exact ap aJ
 ·simp only [List.length_append,List.length_cons,List.length_nil] at hj
  rw [f1 i (by omega)] at he
  by_cases aB:j<aA.length
  ·rw [f1 j aB];exact hr.apart i j k aD aB he
  ·have:j=aA.length:=by omega
   subst this;rw [e1];rcases hn with h | h
   ·rw [<-h];exact hr.last i k aD he
   ·rw [h]
    intro e;have:=(hr.own i aD).lt k he;simp at e;omega
theorem QxC (k v:ByteArray) (g:Bool):∀ u∈[Value.string k,.string v,.bool g],u.oneCell'=true:=by
 intro u hu;simp only [List.mem_cons,List.not_mem_nil,or_false] at hu;rcases hu with rfl | rfl | rfl<;>rfl
theorem vxL {w:World} {base g cap m:Nat} {e:TypeId} {vs:List Value} {x:Value} (ho:w.ownsRow base e 1 (.slice (some ⟨g,0,none⟩) (m+1) cap) (m+1) (vs++[x])) (hl:vs.length=m):w.cell? ⟨g,m,none⟩=some x/\w.frozen? ⟨g,m,none⟩=false:=by
 have hr:=kX5 ho;exact ⟨hr.cell m x (by rw [<-hl];simp),hr.froz m (by simp;omega)⟩
theorem yNa {w w1:World} {base g cap m n0:Nat} {vs xs:List Value} {x:Value} {o:Obj} (ho:w.ownsRow base 84 1 (.slice (some ⟨g,0,none⟩) (m+1) cap) (m+1) (vs++[x])/\vs.length=m) (hx:w.ownsRow base 121 3 x n0 xs) (hg:(w.alloc o).grownBy w1 x.ownBlock):w1.cell? ⟨g,m,none⟩=some x/\w1.frozen? ⟨g,m,none⟩=false:=by
 have ne:(84:TypeId)≠121:=by decide
 exact vxL ((ho.1.alloc o).kept hg (QnU ho.1 hx ne)) ho.2
theorem Rest.alloc {w:World} {base:Nat} {aA:List (List Ch)} {vs:List Value} {x:Value} (h:Rest w base aA vs x) (o:Obj):Rest (w.alloc o) base aA vs x:=⟨h.len,fun i hi=>(h.own i hi).alloc o,h.apart,h.last⟩
theorem Ju6 (w:World) (A:Obj) (cs:Array Value) (t:TypeId):∀ j u,cs.toList[j]?=some u->((w.alloc A).alloc (.cells cs t)).cell? ((⟨w.heap.size+1,0,none⟩:Addr).add j)=some u:=by
 have h:=heap_alloc_new (w.alloc A) (.cells cs t);rw [World.size_alloc] at h;exact World.news_of_block h
theorem zE0 {wr w7:World} {base n:Nat} {v:Value} {vs:List Value} {o:Obj} (h1:wr.ownsRow base 84 1 v n vs) (hb:base<=wr.heap.size) (hg:((wr.alloc (.cells #[] 121)).alloc o).grownBy w7 v.ownBlock):w7.ownsRow base 121 3 (.slice (some ⟨wr.heap.size,0,none⟩) 0 0) 0 []:=by
 have h0:(wr.alloc (.cells #[] 121)).ownsRow base 121 3 (.slice (some ⟨wr.heap.size,0,none⟩) 0 0) 0 []:=by
  have:=World.ownsRow_lit wr (base:=base) (e:=121) (size:=3) #[] 0 hb (by simp) (by simp);simpa using this
 exact (h0.alloc o).kept hg (QnU (h0.alloc o) ((h1.alloc _).alloc _) (by decide))
theorem yCu {W0 wr w7:World} {base g cap m yc:Nat} {ya:Option Addr} {vs:List Value} (aC:Below base W0 wr) (aD:base<=wr.heap.size) (h1:wr.ownsRow base 84 1 (.slice ya m yc) m vs) (aB:w7.ownsRow base 84 1 (.slice (some ⟨g,0,none⟩) (m+1) cap) (m+1) (vs++[.slice (some ⟨wr.heap.size,0,none⟩) 0 0]))
  (aA:((wr.alloc (.cells #[] 121)).alloc (.cells #[.slice (some ⟨wr.heap.size,0,none⟩) 0 0] 84)).grownBy w7 (Value.slice ya m yc).ownBlock) :
  Below base W0 w7/\(w7.ownsRow base 84 1 (.slice (some ⟨g,0,none⟩) (m+1) cap) (m+1) (vs++[.slice (some ⟨wr.heap.size,0,none⟩) 0 0])/\vs.length=m)/\w7.ownsRow base 121 3 (.slice (some ⟨wr.heap.size,0,none⟩) 0 0) 0 []/\w7.cell? ⟨g,m,none⟩=some (.slice (some ⟨wr.heap.size,0,none⟩) 0 0):=by
 have hl:vs.length=m:=by have:=h1.1;omega
 exact ⟨jbs ((aC.alloc aD _).alloc (by simp;omega) _) ((h1.alloc _).alloc _) aA (by simp;omega),⟨aB,hl⟩,zE0 h1 aD aA,(vxL aB hl).1⟩
theorem qUf (o:List Ch) (c:Ch):jlM (o++[c])=jlM o++[.string c.1,.string c.2.1,.bool c.2.2]:=by rw [xam];rfl
theorem J0p {w w':World} {o:Obj} {r:Option Nat} (h:(w.drew.alloc o).grownBy w' r):(w.alloc o).grownBy w' r:=⟨h.os,h.tape,h.output,h.size,h.block⟩
theorem qjd {W0 W w9:World} {base g cap m n0 g9 aA c:Nat} {p:Option Addr} {aB:List (List Ch)} {cs:List Ch} {vs:List Value} {s0 s1:ByteArray} {o:Obj} (hb:base<=W.heap.size) (hr:Rest W base aB vs (.slice p n0 c)) (hm:m=aB.length) (hn:n0=cs.length)
  (ho:W.ownsRow base 84 1 (.slice (some ⟨g,0,none⟩) (m+1) cap) (m+1) (vs++[.slice p n0 c])) (hx:W.ownsRow base 121 3 (.slice p n0 c) n0 (jlM cs)) (hg:(W.alloc o).grownBy w9 (Value.slice p n0 c).ownBlock)
  (aF:w9.ownsRow base 121 3 (.slice (some ⟨g9,0,none⟩) (n0+1) aA) (n0+1) (jlM cs++[.string s0,.string s1,.bool false])) (aD:(Value.slice p n0 c).ownBlock=some g9\/g9=W.heap.size+1) (aC:Below base W0 W) :
  Bat (w9.setCell ⟨g,m,none⟩ (.slice (some ⟨g9,0,none⟩) (n0+1) aA)) base (.slice (some ⟨g,0,none⟩) (m+1) cap) (aB++[cs++[(s0,s1,false)]])/\Below base W0 (w9.setCell ⟨g,m,none⟩ (.slice (some ⟨g9,0,none⟩) (n0+1) aA)):=by
 subst hm hn
 have aG:w9.ownsRow base 121 3 (.slice (some ⟨g9,0,none⟩) (cs.length+1) aA) (cs++[(s0,s1,false)]).length (jlM (cs++[(s0,s1,false)])):=by
  rw [qUf,List.length_append];exact aF
 refine ⟨(hr.alloc o).relast (by simp;omega) (ho.alloc o) (hx.alloc o) hg aG ?_,?_⟩
 ·rcases aD with h | h
  ·exact .inl h
  ·right;rw [h];simp [Value.ownBlock]
 ·have aE:=(ho.lt g rfl).1
  exact (jbs (aC.alloc hb o) (hx.alloc o) hg (by simp;omega)).setCell (p:=⟨g,aB.length,none⟩) aE _
theorem yUr {wr w7:World} {base m yc:Nat} {ya:Option Addr} {aA:List (List Ch)} {vs:List Value} {o:Obj} (h1:wr.ownsRow base 84 1 (.slice ya m yc) m vs) (h2:∀ i,i<aA.length->wr.ownsRow base 121 3 (vs.getD i nov) (aA.getD i []).length (jlM (aA.getD i [])))
  (h3:∀ i j k,i<j->j<aA.length->(vs.getD i nov).ownBlock=some k->(vs.getD j nov).ownBlock≠some k) (hb:base<=wr.heap.size) (hm:m=aA.length) (hg:((wr.alloc (.cells #[] 121)).alloc o).grownBy w7 (Value.slice ya m yc).ownBlock):Rest w7 base aA vs (.slice (some ⟨wr.heap.size,0,none⟩) 0 0):=by
 refine ⟨by have:=h1.1;omega,fun i hi=>(((h2 i hi).alloc _).alloc _).kept hg (QnU (h2 i hi) h1 (by decide)),h3,fun i k hi he=>?_⟩;have:=(h2 i hi).lt k he;simp only [Value.ownBlock,ne_eq,Option.some.injEq];omega
theorem vZz (rs:List Pr) (i:Nat) (hi:i<=100):(xEW rs i).length<=5:=by rw [xCZ];omega
theorem kL5 (a:Option Addr) (rs:List Pr) (c:Nat) (w:World) (h:Prs w a rs) (hl:rs.length<=1048576) (hs:∀ x∈rs,x.1.size<=1048576/\x.2.size<=1048576) :
  Calls Tryz.prog 65 #[.agg #[.slice a rs.length c]] w fun e w'=>∃ v,e=.returned v/\Bat w' (w.heap.size+1) v (ZZG rs)/\Below w.heap.size w w':=by
 obtain ⟨i0,cP,cW,cY,cZ⟩:=XJR yhi;have HI:=hid (And.intro cP (And.intro cW (And.intro cY cZ)));obtain ⟨i1,cQ,cT,cU,cV⟩:=XJR v2Y;have HJ:=hid (And.intro cQ (And.intro cT (And.intro cU cV)));clear cP cW cY cZ cQ cT cU cV;unfold ZZG;have cC:Below w.heap.size w ((w.alloc (.cells #[.slice a rs.length c] 31)).alloc (.cells #[] 84)):=((Below.refl _ _).alloc (Nat.le_refl _) _).alloc (by simp) _;have hv:=yPv a rs c ((w.alloc (.cells #[.slice a rs.length c] 31)).alloc (.cells #[] 84)) (h.below cC) hl hs
 have aQ:Bat ((w.alloc (.cells #[.slice a rs.length c] 31)).alloc (.cells #[] 84)) (w.heap.size+1) (.slice (some ⟨w.heap.size+1,0,none⟩) 0 0) []:=by
  refine ⟨[],?_,fun i h=>absurd h (by simp),fun i j k _ h=>absurd h (by simp)⟩;have:=World.ownsRow_lit (w.alloc (.cells #[.slice a rs.length c] 31)) (base:=w.heap.size+1) (e:=84) (size:=1) #[] 0 (by simp) (by simp) (by simp);simpa using this
 have HV:=hid hv;have cL:=hid cC;have HE:=hid aQ;clear hv cC aQ
 cases hok:z0q rs with
 | false =>
  rw [hok] at HV;simp only [Bool.false_eq_true,if_false];go_enter Tryz.func65,Tryz.ntmps65;go_wp2_with (go_at_call 20;refine HV.out.mono ?_;rintro e w2 ⟨rfl,bG⟩);go_ret;exact ⟨_,rfl,HE.out.below bG,cL.out.trans (bG.mono cL.out.size)⟩
 | true =>
  rw [hok] at HV;simp only [if_true];have dO:rs.length<=100:=(Jne hok).1;go_enter Tryz.func65,Tryz.ntmps65;go_wp2_with (go_at_call 20;refine HV.out.mono ?_;rintro e w2 ⟨rfl,bG⟩);have dM:=bG.size;simp only [World.size_alloc] at dM;go_loopw [3,4] (fun y i wr=>∃ k:Nat,k<=rs.length/\i=.int .i64 k/\Bat wr (w.heap.size+1) y (xEW rs k)/\Below (w.heap.size+1) (w.alloc (.cells #[.slice a rs.length c] 31)) wr) (fun _ i _=>rs.length-(intOf i).toNat)
  case atStart=>exact ⟨0,Nat.zero_le _,rfl,HE.out.below bG,((Below.refl _ _).alloc (by simp) _).trans (bG.mono (by simp))⟩
  case round =>
   obtain ⟨k,hk,rfl,aW,aO⟩:=hrel;have q0:wr.cell? ⟨w.heap.size,0,none⟩=some (.slice a rs.length c):=(aO.cell (p:=⟨w.heap.size,0,none⟩) (by show w.heap.size<_;omega)).trans (by go_simp);have bV:w.heap.size+1<=wr.heap.size:=by have:=aO.size;simpa using this
   by_cases bZ:k<rs.length
   ·obtain ⟨b,o,s0,s1,rfl,bW,bY,HS⟩:=(h.below (((Below.refl _ _).alloc (Nat.le_refl _) _).trans (aO.mono (by omega)))).at bZ
    have aR:b<w.heap.size:=by
     rcases h with h | ⟨b',o',h1,h2,_⟩
     ·subst h;simp at bZ
     ·cases h1;exact h2
    have dJ:(k:Int)<(rs.length:Int):=by omega
    have HB:=hid aO;have aZ:=hid aW;clear aO aW
    by_cases hr:k % 20=0
    ·have dL:(k:Int) % 20=0:=by omega
     have bC:=hid (XKu rs k bZ hr (ByteArray.empty,ByteArray.empty));have bI:=vZz rs k (by omega);obtain ⟨aV,bU⟩:∃ aV,aV=xEW rs k:=⟨_,rfl⟩;rw [<-bU] at aZ bI bC;clear bU;obtain ⟨vs,h1,h2,h3⟩:=aZ.out
     obtain ⟨ya,yc,rfl⟩:∃ ya yc,u3=Value.slice ya aV.length yc:=by
      rcases yUO h1 with ⟨e1,e2⟩ | ⟨g,cap,e1,_⟩
      ·exact ⟨none,0,by rw [e1,e2]⟩
      ·exact ⟨_,cap,e1⟩
     obtain ⟨m,hm⟩:∃ m,m=aV.length:=⟨_,rfl⟩;rw [<-hm] at h1 bI ⊢;have HM:=hid hm;have H1:=hid h1;have H2:=hid h2;have H3:=hid h3;clear aZ h1 h2 h3 hm;go_wp2_with (at_builtin;refine WAL _ rfl _ _ 112 rfl (w.heap.size+1) Tryz.underlying112 HJ.out rfl (by omega) _ m _ rfl ((H1.out.alloc _).alloc _) ⟨wr.heap.size+1,0,none⟩ 1 1 [.slice (some ⟨wr.heap.size,0,none⟩) 0 0] rfl rfl (Ju6 wr _ _ _) (by intro u hu;simp at hu;subst hu;rfl) (by simp;omega) (wr.heap.size+1+1) (by simp) ?_;intro g cap w7 aS aM b8 cE;obtain ⟨bH,cM,cN,q7⟩:=yCu HB.out bV H1.out aS aM;have bJ:=hid bH;have HO:=hid cM;have HX:=hid cN;have aP:w.heap.size+1<=w7.heap.size:=Nat.le_trans (by simp) bH.size;have cI:=(bH.cell (p:=⟨w.heap.size,0,none⟩) (Nat.lt_succ_self _)).trans ((HB.out.cell (p:=⟨w.heap.size,0,none⟩) (Nat.lt_succ_self _)).symm.trans q0);have cJ:=(bH.cell (p:=⟨b,o+k*2,none⟩) (Nat.lt_succ_of_lt aR)).trans ((HB.out.cell (p:=⟨b,o+k*2,none⟩) (Nat.lt_succ_of_lt aR)).symm.trans bW);have cK:=(bH.cell (p:=⟨b,o+k*2+1,none⟩) (Nat.lt_succ_of_lt aR)).trans ((HB.out.cell (p:=⟨b,o+k*2+1,none⟩) (Nat.lt_succ_of_lt aR)).symm.trans bY);have dN:b<w7.heap.size:=Nat.lt_of_lt_of_le (Nat.lt_succ_of_lt aR) aP;have dE:=hid aM;clear aS aM b8 bH cM cN bW bY q0)
     have dK:(m:Int)<(m:Int)+1:=by omega
     have cF:(0:Int)<=(m:Int):=by omega
     have bQ:=hid (HX.out.alloc (.cells #[.string s0,.string s1,.bool false] 121));have HR:Hid (Rest w7 (w.heap.size+1) aV vs (.slice (some ⟨wr.heap.size,0,none⟩) 0 0)):=hid (yUr H1.out H2.out H3.out bV HM.out dE.out)
     have hS:∀ w',Below (w.heap.size+1) w7 w'->w'.cell? ⟨w.heap.size,0,none⟩=some (.slice (some ⟨b,o,none⟩) rs.length c)/\w'.cell? ⟨b,o+k*2,none⟩=some (.string s0)/\w'.cell? ⟨b,o+k*2+1,none⟩=some (.string s1):=fun w' aY=>⟨(aY.cell (p:=⟨w.heap.size,0,none⟩) (Nat.lt_succ_self _)).trans cI,(aY.cell (p:=⟨b,o+k*2,none⟩) (Nat.lt_succ_of_lt aR)).trans cJ,(aY.cell (p:=⟨b,o+k*2+1,none⟩) (Nat.lt_succ_of_lt aR)).trans cK⟩
     have aN:=hid hS;clear hS;refine wp_region_held_drew (S:=fun w'=>w'.cell? ⟨w.heap.size,0,none⟩=some (.slice (some ⟨b,o,none⟩) rs.length c)/\w'.cell? ⟨b,o+k*2,none⟩=some (.string s0)/\w'.cell? ⟨b,o+k*2+1,none⟩=some (.string s1)) (by kernel_rfl) (aN.out _ (Below.refl _ _).drew) (fun aB=>?_);refine TY 0 (.slice (some ⟨g,0,none⟩) (m+1) cap) rfl aB (TY 1 (.int .i64 (m:Int)) rfl aB (TY 2 (.slice (some ⟨g,0,none⟩) (m+1) cap) rfl aB (TY 3 (.int .i64 (m:Int)) rfl aB (TY 4 (.pointer (some ⟨g,m,none⟩)) rfl aB (TY 6 (.pointer (some ⟨w.heap.size,0,none⟩)) rfl aB (TY 7 (.slice (some ⟨b,o,none⟩) rs.length c) rfl aB (TY 8 (.int .i64 (k:Int)) rfl aB (TY 9 (.pointer (some ⟨b,o+k*2,none⟩)) rfl aB (TY 10 (.pointer (some ⟨b,o+k*2,none⟩)) rfl aB (TY 11 (.string s0) rfl aB (TY 12 (.pointer (some ⟨w.heap.size,0,none⟩)) rfl aB ?_)))))))))));simp only [PS];refine TY 13 (.slice (some ⟨b,o,none⟩) rs.length c) rfl aB (TY 14 (.int .i64 (k:Int)) rfl aB (TY 15 (.pointer (some ⟨b,o+k*2,none⟩)) rfl aB (TY 16 (.pointer (some ⟨b,o+k*2+1,none⟩)) rfl aB (TY 17 (.string s1) rfl aB (TY 18 (.agg #[.string s0,.string s1,.bool false]) rfl aB ?_)))))
     simp only [PS];refine wpAnyH_ready (rs:=[5,19]) (by kernel_rfl) (by simp) ?_;have aJ:=aN.out (w7.drew.alloc (.cells #[.string s0,.string s1,.bool false] 121)) ((Below.refl _ _).drew.alloc aP _);refine AllReadyH.cons rfl (fun K hK=>?_) (AllReadyH.cons rfl (fun K hK=>?_) AllReadyH.nil)
     ·go_simp
      refine hK.out _ _ aB (fun _=>?_);clear hK K;refine RD 19 rfl (fun K hK=>?_);go_simp;refine hK.out _ _ aJ (fun _=>?_);clear hK K;refine RD 20 rfl (fun K hK=>?_);refine SAL _ (by rfl) _ _ _ (by rfl) (w.heap.size+1) Tryz.underlying84 HI.out rfl (by omega) (.slice (some ⟨wr.heap.size,0,none⟩) 0 0) 0 _ (by rfl) bQ.out ⟨w7.heap.size,0,none⟩ 1 1 [.string s0,.string s1,.bool false] (by rfl) rfl (World.news_of_block (heap_alloc_new w7 _)) (QxC _ _ _) (by simp<;>omega) (w7.heap.size+1) (by simp) ?_;intro g9 aI w9 aC aA aF aX;have aU:=hid aC;have aH:=hid (J0p aA);have aT:=hid aF;have aG:=qjd aP HR.out HM.out (cs:=[]) rfl HO.out.1 HX.out aH.out aU.out aT.out bJ.out;have aD:=hid aG;have q9:=(yNa HO.out HX.out aH.out).1;have r9:=(yNa HO.out HX.out aH.out).2;have aL:Below (w.heap.size+1) w7 w9:=jbs ((Below.refl _ _).alloc aP _) (HX.out.alloc _) aH.out (by simp;omega);have aE:=aN.out _ aL;have aK:=aN.out _ (aL.setCell (p:=⟨g,m,none⟩) (HO.out.1.lt g rfl).1 (.slice (some ⟨g9,0,none⟩) (0+1) aI))
      clear aC aA aF aG aL;refine hK.out _ _ aE (fun _=>?_);clear hK K;simp only [PS];refine TY 21 (.pointer (some ⟨g,m,none⟩)) rfl aE ?_;simp only [PS];refine RD 22 rfl (fun K hK=>?_);go_simp;refine hK.out _ _ aK (fun _=>?_);clear hK K;refine DN ?_;go_wp2;refine ⟨⟨k+1,by omega,by go_num,?_,aD.out.2⟩,by simp [intOf];omega⟩;rw [bC.out];have e2:(s0,s1,false)=ZNW (rs.getD k (ByteArray.empty,ByteArray.empty)):=by rw [<-HS.out];rfl
      rw [<-e2];exact aD.out.1
     ·go_simp
      refine hK.out _ _ aJ (fun _=>?_);clear hK K;refine RD 5 rfl (fun K hK=>?_);go_simp;refine hK.out _ _ aJ (fun _=>?_);clear hK K;refine RD 20 rfl (fun K hK=>?_);refine SAL _ (by rfl) _ _ _ (by rfl) (w.heap.size+1) Tryz.underlying84 HI.out rfl (by omega) (.slice (some ⟨wr.heap.size,0,none⟩) 0 0) 0 _ (by rfl) bQ.out ⟨w7.heap.size,0,none⟩ 1 1 [.string s0,.string s1,.bool false] (by rfl) rfl (World.news_of_block (heap_alloc_new w7 _)) (QxC _ _ _) (by simp<;>omega) (w7.heap.size+1) (by simp) ?_;intro g9 aI w9 aC aA aF aX;have aU:=hid aC;have aH:=hid (J0p aA);have aT:=hid aF;have aG:=qjd aP HR.out HM.out (cs:=[]) rfl HO.out.1 HX.out aH.out aU.out aT.out bJ.out;have aD:=hid aG;have q9:=(yNa HO.out HX.out aH.out).1;have r9:=(yNa HO.out HX.out aH.out).2;have aL:Below (w.heap.size+1) w7 w9:=jbs ((Below.refl _ _).alloc aP _) (HX.out.alloc _) aH.out (by simp;omega);have aE:=aN.out _ aL;have aK:=aN.out _ (aL.setCell (p:=⟨g,m,none⟩) (HO.out.1.lt g rfl).1 (.slice (some ⟨g9,0,none⟩) (0+1) aI))
      clear aC aA aF aG aL;refine hK.out _ _ aE (fun _=>?_);clear hK K;simp only [PS];refine TY 21 (.pointer (some ⟨g,m,none⟩)) rfl aE ?_;simp only [PS];refine RD 22 rfl (fun K hK=>?_);go_simp;refine hK.out _ _ aK (fun _=>?_);clear hK K;refine DN ?_;go_wp2;refine ⟨⟨k+1,by omega,by go_num,?_,aD.out.2⟩,by simp [intOf];omega⟩;rw [bC.out];have e2:(s0,s1,false)=ZNW (rs.getD k (ByteArray.empty,ByteArray.empty)):=by rw [<-HS.out];rfl
      rw [<-e2];exact aD.out.1
    ·have dL:decide ((k:Int) % 20=0)=false:=by simp;omega
     obtain ⟨aV,cs,cO,cS,dH⟩:=q0O rs k bZ hr (ByteArray.empty,ByteArray.empty);have bC:=hid cS;have bI:=vZz rs k (by omega);rw [cO] at aZ bI;obtain ⟨g,cap,vs,p,c9,rfl,hO,hX,hR⟩:=aZ.out.last;obtain ⟨m,hm⟩:∃ m,m=aV.length:=⟨_,rfl⟩;obtain ⟨n0,b7⟩:∃ n0,n0=cs.length:=⟨_,rfl⟩;have dQ:m<=5:=by simp at bI;omega
     have cH:vs.length=m:=by rw [hR.len,hm]
     rw [<-hm,<-b7] at hO;rw [<-b7] at hX hR dH;rw [<-hm];have HM:=hid hm;have HN:=hid b7;have HO:=hid (And.intro hO cH);have HX:=hid hX;have HR:=hid hR;have cE:g<wr.heap.size:=(hO.lt g rfl).2;have q7:=(vxL hO cH).1;clear cO cS bI hO hX hR hm b7 aZ cH;have dK:(m:Int)<(m:Int)+1:=by omega
     have cF:(0:Int)<=(m:Int):=by omega
     have bQ:=hid (HX.out.alloc (.cells #[.string s0,.string s1,.bool false] 121));have dN:b<wr.heap.size:=Nat.lt_of_lt_of_le (Nat.lt_succ_of_lt aR) bV;have cI:=q0;have cJ:=bW;have cK:=bY;have aP:=bV;have bJ:=HB;clear q0 bW bY bV HB;go_wp2_with fail
     have hS:∀ w',Below (w.heap.size+1) wr w'->w'.cell? ⟨w.heap.size,0,none⟩=some (.slice (some ⟨b,o,none⟩) rs.length c)/\w'.cell? ⟨b,o+k*2,none⟩=some (.string s0)/\w'.cell? ⟨b,o+k*2+1,none⟩=some (.string s1):=fun w' aY=>⟨(aY.cell (p:=⟨w.heap.size,0,none⟩) (Nat.lt_succ_self _)).trans cI,(aY.cell (p:=⟨b,o+k*2,none⟩) (Nat.lt_succ_of_lt aR)).trans cJ,(aY.cell (p:=⟨b,o+k*2+1,none⟩) (Nat.lt_succ_of_lt aR)).trans cK⟩
     have aN:=hid hS;clear hS;refine wp_region_held_drew (S:=fun w'=>w'.cell? ⟨w.heap.size,0,none⟩=some (.slice (some ⟨b,o,none⟩) rs.length c)/\w'.cell? ⟨b,o+k*2,none⟩=some (.string s0)/\w'.cell? ⟨b,o+k*2+1,none⟩=some (.string s1)) (by kernel_rfl) (aN.out _ (Below.refl _ _).drew) (fun aB=>?_);refine TY 0 (.slice (some ⟨g,0,none⟩) (m+1) cap) rfl aB (TY 1 (.int .i64 (m:Int)) rfl aB (TY 2 (.slice (some ⟨g,0,none⟩) (m+1) cap) rfl aB (TY 3 (.int .i64 (m:Int)) rfl aB (TY 4 (.pointer (some ⟨g,m,none⟩)) rfl aB (TY 6 (.pointer (some ⟨w.heap.size,0,none⟩)) rfl aB (TY 7 (.slice (some ⟨b,o,none⟩) rs.length c) rfl aB (TY 8 (.int .i64 (k:Int)) rfl aB (TY 9 (.pointer (some ⟨b,o+k*2,none⟩)) rfl aB (TY 10 (.pointer (some ⟨b,o+k*2,none⟩)) rfl aB (TY 11 (.string s0) rfl aB (TY 12 (.pointer (some ⟨w.heap.size,0,none⟩)) rfl aB ?_)))))))))));simp only [PS];refine TY 13 (.slice (some ⟨b,o,none⟩) rs.length c) rfl aB (TY 14 (.int .i64 (k:Int)) rfl aB (TY 15 (.pointer (some ⟨b,o+k*2,none⟩)) rfl aB (TY 16 (.pointer (some ⟨b,o+k*2+1,none⟩)) rfl aB (TY 17 (.string s1) rfl aB (TY 18 (.agg #[.string s0,.string s1,.bool false]) rfl aB ?_)))))
     simp only [PS];refine wpAnyH_ready (rs:=[5,19]) (by kernel_rfl) (by simp) ?_;have aJ:=aN.out (wr.drew.alloc (.cells #[.string s0,.string s1,.bool false] 121)) ((Below.refl _ _).drew.alloc aP _);refine AllReadyH.cons rfl (fun K hK=>?_) (AllReadyH.cons rfl (fun K hK=>?_) AllReadyH.nil)
     ·go_simp
      refine hK.out _ _ aB (fun _=>?_);clear hK K;refine RD 19 rfl (fun K hK=>?_);go_simp;refine hK.out _ _ aJ (fun _=>?_);clear hK K;refine RD 20 rfl (fun K hK=>?_);refine SAL _ (by rfl) _ _ _ (by rfl) (w.heap.size+1) Tryz.underlying84 HI.out rfl (by omega) (.slice p n0 c9) n0 _ (by rfl) bQ.out ⟨wr.heap.size,0,none⟩ 1 1 [.string s0,.string s1,.bool false] (by rfl) rfl (World.news_of_block (heap_alloc_new wr _)) (QxC _ _ _) (by simp<;>omega) (wr.heap.size+1) (by simp) ?_;intro g9 aI w9 aC aA aF aX;have aU:=hid aC;have aH:=hid (J0p aA);have aT:=hid aF;have aG:=qjd aP HR.out HM.out HN.out HO.out.1 HX.out aH.out aU.out aT.out bJ.out;have aD:=hid aG;have q9:=(yNa HO.out HX.out aH.out).1;have r9:=(yNa HO.out HX.out aH.out).2;have aL:Below (w.heap.size+1) wr w9:=jbs ((Below.refl _ _).alloc aP _) (HX.out.alloc _) aH.out (by simp;omega);have aE:=aN.out _ aL;have aK:=aN.out _ (aL.setCell (p:=⟨g,m,none⟩) (HO.out.1.lt g rfl).1 (.slice (some ⟨g9,0,none⟩) (n0+1) aI))
      clear aC aA aF aG aL;refine hK.out _ _ aE (fun _=>?_);clear hK K;simp only [PS];refine TY 21 (.pointer (some ⟨g,m,none⟩)) rfl aE ?_;simp only [PS];refine RD 22 rfl (fun K hK=>?_);go_simp;refine hK.out _ _ aK (fun _=>?_);clear hK K;refine DN ?_;go_wp2;refine ⟨⟨k+1,by omega,by go_num,?_,aD.out.2⟩,by simp [intOf];omega⟩;rw [bC.out];have e2:(s0,s1,false)=ZNW (rs.getD k (ByteArray.empty,ByteArray.empty)):=by rw [<-HS.out];rfl
      rw [<-e2];exact aD.out.1
     ·go_simp
      refine hK.out _ _ aJ (fun _=>?_);clear hK K;refine RD 5 rfl (fun K hK=>?_);go_simp;refine hK.out _ _ aJ (fun _=>?_);clear hK K;refine RD 20 rfl (fun K hK=>?_);refine SAL _ (by rfl) _ _ _ (by rfl) (w.heap.size+1) Tryz.underlying84 HI.out rfl (by omega) (.slice p n0 c9) n0 _ (by rfl) bQ.out ⟨wr.heap.size,0,none⟩ 1 1 [.string s0,.string s1,.bool false] (by rfl) rfl (World.news_of_block (heap_alloc_new wr _)) (QxC _ _ _) (by simp<;>omega) (wr.heap.size+1) (by simp) ?_;intro g9 aI w9 aC aA aF aX;have aU:=hid aC;have aH:=hid (J0p aA);have aT:=hid aF;have aG:=qjd aP HR.out HM.out HN.out HO.out.1 HX.out aH.out aU.out aT.out bJ.out;have aD:=hid aG;have q9:=(yNa HO.out HX.out aH.out).1;have r9:=(yNa HO.out HX.out aH.out).2;have aL:Below (w.heap.size+1) wr w9:=jbs ((Below.refl _ _).alloc aP _) (HX.out.alloc _) aH.out (by simp;omega);have aE:=aN.out _ aL;have aK:=aN.out _ (aL.setCell (p:=⟨g,m,none⟩) (HO.out.1.lt g rfl).1 (.slice (some ⟨g9,0,none⟩) (n0+1) aI))
      clear aC aA aF aG aL;refine hK.out _ _ aE (fun _=>?_);clear hK K;simp only [PS];refine TY 21 (.pointer (some ⟨g,m,none⟩)) rfl aE ?_;simp only [PS];refine RD 22 rfl (fun K hK=>?_);go_simp;refine hK.out _ _ aK (fun _=>?_);clear hK K;refine DN ?_;go_wp2;refine ⟨⟨k+1,by omega,by go_num,?_,aD.out.2⟩,by simp [intOf];omega⟩;rw [bC.out];have e2:(s0,s1,false)=ZNW (rs.getD k (ByteArray.empty,ByteArray.empty)):=by rw [<-HS.out];rfl
      rw [<-e2];exact aD.out.1
   ·have dI:k=rs.length:=by omega
    subst dI;go_wp2;go_ret;exact ⟨_,rfl,aW,((Below.refl _ _).alloc (Nat.le_refl _) _).trans (aO.mono (by omega))⟩
end Go.Proofs.YtehbpeinnepdcaaGreatDoor
namespace Go.Proofs.YtehbpeinnepdcaaGreatDoor
open Go.RowKit Go.Shelf
attribute [local go_sem] Oper.semAt_some
def vSX (b off aA k:Nat):Value:=.slice (some ⟨b,off+k*20*2,none⟩) (min 20 (aA-k*20)) (min 20 (aA-k*20))
theorem x6d (w:World) (q:Nat):w.grownBy (w.drewN q) none:=⟨rfl,rfl,rfl,Nat.le_refl _,fun _ _ _=>rfl⟩
theorem kWN (F:Fence) (n:Nat) (hf:F.fn 123) (aP:F.round=none) (hn:1<=n) (l Bs Bn b off aA cap:Nat) (aO:aA<=100) (aM:aA<=cap) (Kp:World->World->Prop) (hK:∀ A B,Kp A B->B.cell? ⟨Bs,0,none⟩=A.cell? ⟨Bs,0,none⟩/\B.cell? ⟨Bn,0,none⟩=A.cell? ⟨Bn,0,none⟩) (J Jx:List Nat->World->Prop)
  (hY:∀ pre x W,J pre W->pre.length<(aA+19) / 20->YieldAt F (n-1) Tryz.prog l #[vSX b off aA x] W fun e W' =>
   (e=.returned (.bool true)/\J (pre++[x]) W'/\Kp W W')\/(e=.returned (.bool false)/\Jx (pre++[x]) W'))
  (W:World) (aK:W.cell? ⟨Bs,0,none⟩=some (.slice (some ⟨b,off,none⟩) aA cap)) (aJ:W.cell? ⟨Bn,0,none⟩=some (.int .i64 20)) (h0:J [] W) (hJ:∀ s A B,J s A->A.grownBy B none->J s B) :
  CallsIn F n Tryz.prog 123 #[.func (.yield l) #[] #[],.pointer (some ⟨Bs,0,none⟩),.pointer (some ⟨Bn,0,none⟩)] W fun e W'=>(∃ v,e=.returned v) /\
   ((∃ ys,ys=List.range ((aA+19) / 20)/\J ys W')\/(∃ pre,True/\Jx pre W')):=by
 refine callsIn_of_wp Tryz.func123 rfl hf ?_ aP;simp only [Tryz.ntmps123,List.size_toArray,List.length_cons,List.length_nil,Nat.reduceAdd,Nat.reduceSub,Array.replicate_succ,Array.replicate_zero,List.push_toArray,List.append_toArray,List.nil_append,List.cons_append]
 gi_wp2
 gi_loopw [4] (fun i wr=>∃ k q:Nat,q=k*20/\k<=(aA+19) / 20/\i=.int .i64 (q:Int)/\J (List.range k) wr/\wr.cell? ⟨Bs,0,none⟩=some (.slice (some ⟨b,off,none⟩) aA cap)/\wr.cell? ⟨Bn,0,none⟩=some (.int .i64 20)) (fun i _=>aA+20-(intOf i).toNat)
 case atStart=>exact ⟨0,0,rfl,Nat.zero_le _,rfl,h0,aK,aJ⟩
 case round =>
  obtain ⟨k,q,hq,hk,rfl,aG,aI,aH⟩:=hrel;have HQ:=hid hq;clear hq;have aS:Tryz.prog.follows .mixedOrders=true:=by kernel_rfl
  by_cases aR:q<aA
  ·have aT:(0:Int)<=(q:Int):=by omega
   have aU:(q:Int)<=(aA:Int):=by omega
   have aV:(q:Int)<(aA:Int):=by omega
   have aW:(aA:Int)<=(cap:Int):=by omega
   by_cases hc:20<=aA-q
   ·have HC:Hid (min 20 (aA-q)=20):=by show _=_;omega
    have aL:(q:Int)+20<=(aA:Int):=by omega
    have aQ:(q:Int)+20<=(cap:Int):=by omega
    gi_wp2
    gi_big_quiet_th_v (fail)
    obtain ⟨fn,tmps,aB,aF,hy,hR⟩:=hY _ k (wr.drewN nq) (hJ _ _ _ aG (x6d wr nq)) (by have:=HQ.out;rw [List.length_range];omega);have aD:(wr.drewN nq).cell? ⟨Bs,0,none⟩=some (.slice (some ⟨b,off,none⟩) aA cap):=aI;unfold vSX at hy;rw [<-HQ.out,HC.out] at hy
    gi_wp2
    refine hR.mono ?_;rintro e W3 (⟨rfl,hJ3,hk3⟩ | ⟨rfl,hJx3⟩)
    ·have aC:=(hK _ _ hk3).2.trans (show (wr.drewN nq).cell? ⟨Bn,0,none⟩=some (.int .i64 20) from aH)
     have aE:=(hK _ _ hk3).1.trans aD
     gi_wp2
     go_roundw
     case rel=>exact ⟨k+1,q+20,by have:=HQ.out;omega,by have:=HQ.out;omega,by simp,by rw [List.range_succ];exact hJ3,aE,aC⟩
     case measure=>simp [intOf];omega
    ·gi_wp2
     refine bodyPost_ret (results_none rfl _ _ _) rfl ?_;exact ⟨⟨_,rfl⟩,.inr ⟨_,trivial,hJx3⟩⟩
   ·have HC:Hid (min 20 (aA-q)=aA-q):=by show _=_;omega
    have aL:(q:Int)+((aA-q:Nat):Int)=(aA:Int):=by omega
    gi_wp2
    gi_big_quiet_th_v (fail)
    obtain ⟨fn,tmps,aB,aF,hy,hR⟩:=hY _ k (wr.drewN nq) (hJ _ _ _ aG (x6d wr nq)) (by have:=HQ.out;rw [List.length_range];omega);have aD:(wr.drewN nq).cell? ⟨Bs,0,none⟩=some (.slice (some ⟨b,off,none⟩) aA cap):=aI;unfold vSX at hy;rw [<-HQ.out,HC.out] at hy
    gi_wp2
    refine hR.mono ?_;rintro e W3 (⟨rfl,hJ3,hk3⟩ | ⟨rfl,hJx3⟩)
    ·have aC:=(hK _ _ hk3).2.trans (show (wr.drewN nq).cell? ⟨Bn,0,none⟩=some (.int .i64 20) from aH)
     have aE:=(hK _ _ hk3).1.trans aD
     gi_wp2
     go_roundw
     case rel=>exact ⟨k+1,q+20,by have:=HQ.out;omega,by have:=HQ.out;omega,by simp,by rw [List.range_succ];exact hJ3,aE,aC⟩
     case measure=>simp [intOf];omega
    ·gi_wp2
     refine bodyPost_ret (results_none rfl _ _ _) rfl ?_;exact ⟨⟨_,rfl⟩,.inr ⟨_,trivial,hJx3⟩⟩
  ·have aN:k=(aA+19) / 20:=by have:=HQ.out;omega
   gi_wp2
   go_end0;exact ⟨⟨_,rfl⟩,.inl ⟨_,by rw [aN],aG⟩⟩
theorem vaH (F:Fence) (n:Nat) (hf:F.fn 123) (aA:F.round=none) (l Bs Bn c:Nat) (a:Option Addr) (J:List Nat->World->Prop) (W:World) (aB:W.cell? ⟨Bs,0,none⟩=some (.slice a 0 c)) (h0:J [] W) :
  CallsIn F n Tryz.prog 123 #[.func (.yield l) #[] #[],.pointer (some ⟨Bs,0,none⟩),.pointer (some ⟨Bn,0,none⟩)] W fun e W'=>(∃ v,e=.returned v)/\J [] W':=by
 refine callsIn_of_wp Tryz.func123 rfl hf ?_ aA;simp only [Tryz.ntmps123,List.size_toArray,List.length_cons,List.length_nil,Nat.reduceAdd,Nat.reduceSub,Array.replicate_succ,Array.replicate_zero,List.push_toArray,List.append_toArray,List.nil_append,List.cons_append]
 gi_wp2
 gi_loopw [4] (fun i wr=>i=.int .i64 0/\wr=W) (fun _ _=>0)
 case atStart=>exact ⟨rfl,rfl⟩
 case round =>
  obtain ⟨rfl,rfl⟩:=hrel
  gi_wp2
  go_end0;exact ⟨⟨_,rfl⟩,h0⟩
theorem Xc7 (F:Fence) (n:Nat) (hf:F.fn 117) (aB:F.round=none) (a:Option Addr) (aA cap:Nat) (w:World) :
  CallsIn F n Tryz.prog 117 #[.slice a aA cap,.int .i64 20] w fun e w'=>e=.returned (.func (.func 123) #[] #[.pointer (some ⟨w.heap.size,0,none⟩),.pointer (some ⟨w.heap.size+1,0,none⟩)])/\w'=(w.alloc (.cells #[.slice a aA cap] 29)).alloc (.cells #[.int .i64 20] 3):=by
 refine callsIn_of_wp Tryz.func117 rfl hf ?_ aB;simp only [Tryz.ntmps117,List.size_toArray,List.length_cons,List.length_nil,Nat.reduceAdd,Nat.reduceSub,Array.replicate_succ,Array.replicate_zero,List.push_toArray,List.append_toArray,List.nil_append,List.cons_append]
 gi_wp2
 go_ret;exact ⟨rfl,rfl⟩
theorem qVe (F:Fence) (n:Nat) (hf:F.fn 123) (aD:F.round=none) (hn:1<=n) (Bs Bn b off aA cap:Nat) (a:Option Addr) (aC:aA<=100) (aB:aA<=cap) (w:World) (aF:Bs<w.heap.size) (aE:Bn<w.heap.size) (Kp:World->World->Prop) (hK:∀ A B,Kp A B->B.cell? ⟨Bs,0,none⟩=A.cell? ⟨Bs,0,none⟩/\B.cell? ⟨Bn,0,none⟩=A.cell? ⟨Bn,0,none⟩)
  (hs:w.cell? ⟨Bs,0,none⟩=some (.slice a aA cap)) (hc:w.cell? ⟨Bn,0,none⟩=some (.int .i64 20)) (ha:aA=0\/a=some ⟨b,off,none⟩) :
  SeqStopsK F n Tryz.prog 123 #[.pointer (some ⟨Bs,0,none⟩),.pointer (some ⟨Bn,0,none⟩)] (fun x:Nat=>#[vSX b off aA x]) Kp (fun ys=>ys=List.range ((aA+19) / 20)) (fun _=>True) ((aA+19) / 20) w:=fun l J Jx W hW hJ aG hY h0=>by
 have hs':=(hW.cell (p:=⟨Bs,0,none⟩) aF).trans hs;have hc':=(hW.cell (p:=⟨Bn,0,none⟩) aE).trans hc;rcases ha with rfl | rfl
 ·exact (vaH F n hf aD l Bs Bn cap a J W hs' h0).mono fun e W' ⟨he,hj⟩=>⟨he,.inl ⟨_,rfl,hj⟩⟩
 ·exact kWN F n hf aD hn l Bs Bn b off aA cap aC aB Kp hK J Jx hY W hs' hc' h0 (fun s A B hs hg=>hJ s A B none hs hg (fun r e=>(by cases e)))
end Go.Proofs.YtehbpeinnepdcaaGreatDoor
namespace Go.Proofs.YtehbpeinnepdcaaGreatDoor
open Go.RowKit Go.Shelf
def KpC (n₀ Bs Bn:Nat) (A B:World):Prop:=Below n₀ A B/\B.cell? ⟨Bs,0,none⟩=A.cell? ⟨Bs,0,none⟩/\B.cell? ⟨Bn,0,none⟩=A.cell? ⟨Bn,0,none⟩
theorem KpC.t {n₀ Bs Bn:Nat} {A B C:World} (h:KpC n₀ Bs Bn A B) (k:KpC n₀ Bs Bn B C):KpC n₀ Bs Bn A C:=⟨h.1.trans k.1,k.2.1.trans h.2.1,k.2.2.trans h.2.2⟩
theorem KpC.b {n₀ Bs Bn:Nat} {w:World} (hn:n₀<=w.heap.size) (h1:Bs<w.heap.size) (h2:Bn<w.heap.size) (W:World) (l:Nat) (o o':Obj) (hl:w.heap.size<=l) (h:W.heap[l]?=some o) (hc:o.isCells=false) (hw:o.isWalk=false):KpC n₀ Bs Bn W (W.putObj l o') :=
 ⟨belowK_b hn W l o o' hl h hc hw,World.cell?_of_block (World.putObj_heap_other (by show Bs≠l;omega)),World.cell?_of_block (World.putObj_heap_other (by show Bn≠l;omega))⟩
theorem Bat.boxed {w:World} {base B:Nat} {v u z:Value} {aA:List (List Ch)} (h:Bat w base v aA) (hb:Boxed w B 112 u):Bat (w.setCell ⟨B,0,none⟩ z) base v aA:=by
 obtain ⟨vs,h1,h2,h3⟩:=h;refine ⟨vs,h1.kept (grownBy_setCell' w B z) (.inr fun e=>hb.not_row (by decide) h1 e.symm),fun i hi=>(h2 i hi).kept (grownBy_setCell' w B z) (.inr fun e=>hb.not_row (by decide) (h2 i hi) e.symm),h3⟩
theorem XQx {X Y:World} {row:Option Nat} {base:Nat} {e:TypeId} {s:Nat} {v:Value} {n:Nat} {xs:List Value} (h:X.ownsRow base e s v n xs) (hg:X.grownBy Y row) (hr:∀ r,row=some r->∃ o:Obj,X.heap[r]?=some o/\o.isCells=false):Y.ownsRow base e s v n xs:=by
 refine h.kept hg ?_;rcases h.2 with ⟨rfl,_⟩ | ⟨g,cap,aB,rfl,_,aA,_⟩
 ·exact .inl rfl
 ·refine .inr fun e'=>?_
  obtain ⟨o,ho,hc⟩:=hr g (by simpa [Value.ownBlock] using e'.symm)
  rw [aA] at ho;cases ho;cases hc
theorem ztc {X Y:World} {row:Option Nat} {B:Nat} {t:TypeId} {v:Value} (h:Boxed X B t v) (hg:X.grownBy Y row) (hr:∀ r,row=some r->∃ o:Obj,X.heap[r]?=some o/\o.isCells=false):Boxed Y B t v:=by
 refine h.kept hg fun e=>?_
 obtain ⟨o,ho,hc⟩:=hr B e.symm
 rw [show X.heap[B]?=_ from h] at ho;cases ho;cases hc
def InSn (n₀ B Bs Bn:Nat) (sv:Value) (aA:List (List Ch)) (W:World):Prop:=∃ v,Boxed W B 112 v/\Bat W n₀ v aA/\Boxed W Bs 29 sv/\Boxed W Bn 3 (.int .i64 20)
theorem InSn.own (n₀ B Bs Bn:Nat) (sv:Value) (f:List Nat->List (List Ch)):Own (fun pre W=>InSn n₀ B Bs Bn sv (f pre) W):=by
 rintro s X Y row ⟨v,hv,⟨vs,h1,h2,h3⟩,h4,h5⟩ hg hr;exact ⟨v,ztc hv hg hr,⟨vs,XQx h1 hg hr,fun i hi=>XQx (h2 i hi) hg hr,h3⟩,ztc h4 hg hr,ztc h5 hg hr⟩
theorem Jy4 {W W':World} (h:Below W.heap.size W W'):KeepsOthers W W':=⟨h.size,fun k o hk _=>(h.block k (Array.getElem?_eq_some_iff.1 hk).1).trans hk⟩
theorem InSn.push {W wr w1:World} {n₀ B Bs Bn:Nat} {sv v v' y:Value} {aB:List (List Ch)} {cs:List Ch} {vs:List Value} {aA:Obj} (hn:n₀<=W.heap.size) (hB:n₀<=B) (hv:Boxed W B 112 v) (h1:W.ownsRow n₀ 84 1 v aB.length vs) (h2:∀ i,i<aB.length->W.ownsRow n₀ 121 3 (vs.getD i nov) (aB.getD i []).length (jlM (aB.getD i [])))
  (h3:∀ i j k,i<j->j<aB.length->(vs.getD i nov).ownBlock=some k->(vs.getD j nov).ownBlock≠some k) (hs:Boxed W Bs 29 sv) (hm:Boxed W Bn 3 (.int .i64 20)) (aC:Below W.heap.size W wr)
  (hy:wr.ownsRow W.heap.size 121 3 y cs.length (jlM cs)) (ho:w1.ownsRow n₀ 84 1 v' (aB.length+1) (vs++[y])) (hg:(wr.alloc aA).grownBy w1 v.ownBlock) :
  Boxed w1 B 112 v/\InSn n₀ B Bs Bn sv (aB++[cs]) (w1.setCell ⟨B,0,none⟩ v')/\KeepsOthers W (w1.setCell ⟨B,0,none⟩ v')/\KpC n₀ Bs Bn W (w1.setCell ⟨B,0,none⟩ v'):=by
 have bx:∀ {b:Nat} {t:TypeId} {u:Value},Boxed W b t u->Boxed wr b t u:=fun h=>(aC.block _ h.lt).trans h
 have aD:=jcb h1 aC;have aF:Boxed w1 B 112 v:=((bx hv).alloc aA).kept hg ((bx hv).not_row (by decide) aD);have aK:Boxed w1 Bs 29 sv:=((bx hs).alloc aA).kept hg ((bx hs).not_row (by decide) aD);have aJ:Boxed w1 Bn 3 (.int .i64 20):=((bx hm).alloc aA).kept hg ((bx hm).not_row (by decide) aD)
 have aE:Bat w1 n₀ v' (aB++[cs]):=Bat.push (aD.alloc aA) (fun i hi=>(jcb (h2 i hi) aC).alloc aA) h3 ((zjg hy hn).alloc aA) (fun i k hi he e=>by
  have a1:=(h2 i hi).lt k he;have a2:=hy.lt k e
  omega) ho hg
 have ns:Bs≠B:=fun e=>by
  have:=(show W.heap[Bs]?=_ from hs);rw [e,show W.heap[B]?=_ from hv] at this;simp at this
 have nm:Bn≠B:=fun e=>by
  have:=(show W.heap[Bn]?=_ from hm);rw [e,show W.heap[B]?=_ from hv] at this;simp at this
 have aH:Boxed (w1.setCell ⟨B,0,none⟩ v') Bs 29 sv:=aK.kept (grownBy_setCell' w1 B v') (by simp [ns]);have aG:Boxed (w1.setCell ⟨B,0,none⟩ v') Bn 3 (.int .i64 20):=aJ.kept (grownBy_setCell' w1 B v') (by simp [nm]);refine ⟨aF,⟨v',aF.set v',aE.boxed aF,aH,aG⟩,?_,?_,aH.cell.trans hs.cell.symm,aG.cell.trans hm.cell.symm⟩
 ·refine (((Jy4 aC).trans (KeepsOthers.alloc _ aA)).trans (KeepsOthers.of_grownBy hg fun j o ej hj=>?_)).trans (KeepsOthers.setCell _ _ _)
  rcases (aD.alloc aA).2 with ⟨rfl,_⟩ | ⟨g,cap,aL,rfl,_,aI,_⟩
  ·simp [Value.ownBlock] at ej
  ·obtain rfl:g=j:=by simpa [Value.ownBlock] using ej
   rw [aI] at hj;cases hj;rfl
 ·refine ((((Below.refl n₀ W).trans (aC.mono hn)).alloc (by have:=aC.size;omega) aA).grown hg (by have:=aC.size;simp;omega) fun j ej=>?_).setCell (p:=⟨B,0,none⟩) hB v'
  exact (h1.lt j ej).1
theorem InSn.below {W W':World} {n₀ B Bs Bn:Nat} {sv:Value} {aA:List (List Ch)} (h:InSn n₀ B Bs Bn sv aA W) (hb:Below W.heap.size W W'):InSn n₀ B Bs Bn sv aA W':=by
 obtain ⟨v,hv,h1,h2,h3⟩:=h;exact ⟨v,(hb.block _ hv.lt).trans hv,h1.below hb,(hb.block _ h2.lt).trans h2,(hb.block _ h3.lt).trans h3⟩
theorem zQu {w:World} {b o:Nat} {rs:List Pr} (h:Prs w (some ⟨b,o,none⟩) rs) (k:Nat):Prs w (some ⟨b,o+k*20*2,none⟩) ((rs.drop (k*20)).take 20):=by
 rcases h with h | ⟨b',o',h1,h2,h3⟩
 ·subst h;exact .inl (by simp)
 ·cases h1
  refine .inr ⟨b,o+k*20*2,rfl,h2,fun i hi=>?_⟩;simp only [List.length_take,List.length_drop] at hi;have:=h3 (k*20+i) (by omega);rw [show o+k*20*2+i*2=o+(k*20+i)*2 by omega]
  have e:((rs.drop (k*20)).take 20).getD i (ByteArray.empty,ByteArray.empty)=rs.getD (k*20+i) (ByteArray.empty,ByteArray.empty):=by
   simp [List.getD,List.getElem?_take,List.getElem?_drop,show i<20 by omega]
  rw [e];exact this
end Go.Proofs.YtehbpeinnepdcaaGreatDoor
namespace Go.Proofs.YtehbpeinnepdcaaGreatDoor
open Go.RowKit Go.Shelf
attribute [local go_sem] Oper.semAt_some
theorem k1x (a:Option Addr) (rs:List Pr) (c:Nat) (w:World) (h:Prs w a rs) (hc:rs.length<=c) (hl:rs.length<=1048576) (hs:∀ x∈rs,x.1.size<=1048576/\x.2.size<=1048576) :
  Calls Tryz.prog 110 #[.agg #[.slice a rs.length c]] w fun e w'=>∃ v,e=.returned v/\Bat w' w.heap.size v (ZZG rs)/\Below w.heap.size w w':=by
 refine (callsIn_wide (n:=4)).1 ?_;unfold ZZG;have aN:Below w.heap.size w (w.alloc (.cells #[.slice a rs.length c] 31)):=(Below.refl _ _).alloc (Nat.le_refl _) _;have hv:=vrd a rs c (w.alloc (.cells #[.slice a rs.length c] 31)) (h.below aN) hl hs;have HV:=hid hv;have aG:=hid aN;clear hv aN;refine callsIn_of_wp_marks Tryz.func110 rfl trivial ?_ rfl;simp only [Tryz.ntmps110,List.size_toArray,List.length_cons,List.length_nil,Nat.reduceAdd,Nat.reduceSub,Array.replicate_succ,Array.replicate_zero,List.push_toArray,List.append_toArray,List.nil_append,List.cons_append]
 cases hok:z0q rs with
 | false =>
  rw [hok] at HV;simp only [Bool.false_eq_true,if_false]
  gi_wp2_with (refine ⟨trivial,?_⟩;gi_at_call 54;refine (callsIn_wide.2 HV.out).mono ?_;rintro e w2 ⟨rfl,aH⟩)
  exact ⟨_,results_tmp rfl _ _ _,_,rfl,Bat.nil _ _,aG.out.trans (aH.mono aG.out.size)⟩
 | true =>
  rw [hok] at HV;simp only [if_true];have cV:rs.length<=100:=(Jne hok).1
  gi_wp2_with (first | (refine ⟨trivial,?_⟩;gi_at_call 54;refine (callsIn_wide.2 HV.out).mono ?_;rintro e w2 ⟨rfl,aH⟩;have q2:w2.cell? ⟨w.heap.size,0,none⟩=some (.slice a rs.length c):=(aH.cell (p:=⟨w.heap.size,0,none⟩) (by simp)).trans (by go_simp);have dM:w.heap.size<w2.heap.size:=Nat.lt_of_lt_of_le (by simp) aH.size) | (refine ⟨trivial,?_⟩;gi_at_call 117;refine (Xc7 Fence.wide _ trivial rfl _ _ _ _).mono ?_;rintro e w4 ⟨rfl,rfl⟩))
  obtain ⟨b,o,aZ,hp⟩:∃ b o,(rs.length=0\/a=some ⟨b,o,none⟩)/\Prs w (some ⟨b,o,none⟩) rs:=by
   rcases h with h | ⟨b,o,h1,h2,h3⟩
   ·exact ⟨0,0,.inl (by rw [h];rfl),.inl h⟩
   ·exact ⟨b,o,.inr h1,.inr ⟨b,o,rfl,h2,h3⟩⟩
  have bQ:=hp.below (aG.out.trans (aH.mono aG.out.size));have HP:=hid bQ;have aM:=hid (aG.out.trans (aH.mono aG.out.size));have cF:=hid aZ;clear hp bQ aZ h HV aG aH q2;obtain ⟨i0,bG,b7,b8,cC⟩:=XJR yhi;have HI:=hid (And.intro bG (And.intro b7 (And.intro b8 cC)));obtain ⟨i1,aQ,bV,bW,bY⟩:=XJR v2Y;have HJ:=hid (And.intro aQ (And.intro bV (And.intro bW bY)));clear bG b7 b8 cC aQ bV bW bY;have bO:=Boxed.new w2 112 (.slice none 0 0);have bS:=Boxed.new (w2.alloc (.cells #[.slice none 0 0] 112)) 29 (.slice a rs.length c);have bN:=Boxed.new ((w2.alloc (.cells #[.slice none 0 0] 112)).alloc (.cells #[.slice a rs.length c] 29)) 3 (.int .i64 20);simp only [World.size_alloc] at bS bN;have cQ:Below w2.heap.size w2 (((w2.alloc (.cells #[.slice none 0 0] 112)).alloc (.cells #[.slice a rs.length c] 29)).alloc (.cells #[.int .i64 20] 3)):=(((Below.refl _ w2).alloc (Nat.le_refl _) _).alloc (by simp) _).alloc (by simp;omega) _
  refine wpIn_rangeFunc_ownG rfl (by omega) (gf:=123) (lb:=#[.pointer (some ⟨w2.heap.size+1,0,none⟩),.pointer (some ⟨w2.heap.size+1+1,0,none⟩)]) rfl trivial (enters_of Tryz.func123 (by kernel_rfl) rfl)
   (qVe Fence.wide 3 trivial rfl (by omega) (w2.heap.size+1) (w2.heap.size+1+1) b o rs.length c a cV hc _ (by simp) (by simp) (KpC w2.heap.size (w2.heap.size+1) (w2.heap.size+1+1)) (fun A B h=>h.2) (bS.alloc _).cell bN.cell cF.out)
   KpC.t (KpC.b (by simp;omega) (by simp) (by simp)) (Below.refl _ _) (fun _=>rfl)
   (fun pre W=>InSn w2.heap.size w2.heap.size (w2.heap.size+1) (w2.heap.size+1+1) (.slice a rs.length c) (pre.map (qGw rs)) W/\Below w2.heap.size w2 W)
   (fun _ _ _=>False)
   (OwnFrom.and (Own.from (InSn.own _ _ _ _ _ (fun pre=>pre.map (qGw rs))) _) (ownFrom_below (Nat.le_refl _) (by simp;omega)))
   (fun _ _ _ _ _ hs _ _=>hs)
   ⟨⟨_,(bO.alloc _).alloc _,Bat.nil _ _,bS.alloc _,bN⟩,cQ⟩
   (fun x=>{ tmps:=#[.agg #[.slice a rs.length c],.pointer (some ⟨w.heap.size,0,none⟩),.slice none 0 0,.pointer (some ⟨w2.heap.size,0,none⟩),vSX b o rs.length x,undef,undef,undef,.agg #[.slice a rs.length c],.bool true,.bool false,.pointer (some ⟨w.heap.size,0,none⟩),.slice a rs.length c,.func (.func 123) #[] #[.pointer (some ⟨w2.heap.size+1,0,none⟩),.pointer (some ⟨w2.heap.size+1+1,0,none⟩)],vSX b o rs.length x,undef,undef,undef,undef,undef,undef,undef,undef,undef,undef,undef,undef,undef,undef,undef,undef,undef,undef,undef,undef],defers:=[] }) ?assign ?body ?done ?stop
  case assign =>
   intro l x W K hK
   gi_wp2
   exact hK
  case body =>
   rintro l pre x W ⟨⟨v,hv,⟨vs,h1,h2,h3⟩,aV,aS⟩,hB⟩ dK;have aU:=zQu (HP.out.below hB) x;obtain ⟨cs,aL⟩:∃ cs,cs=(rs.drop (x*20)).take 20:=⟨_,rfl⟩;have bC:cs.length=min 20 (rs.length-x*20):=by rw [aL];simp
   have cJ:Hid (qGw rs x=cs.map ZNW):=by show _=_;rw [aL];rfl
   obtain ⟨oo,aT⟩:∃ oo,oo=o+x*20*2:=⟨_,rfl⟩;unfold vSX;rw [<-bC,<-aT];rw [<-aL,<-aT] at aU;have cW:cs.length<=20:=by omega
   have cM:=hid aU;have H1:=hid h1;have H2:=hid h2;have H3:=hid h3;have aJ:=hid hv;have cN:=hid aV;have cK:=hid aS;have HB:=hid hB;clear aU h1 h2 h3 hv aV aS aL aT bC
   gi_wp2
   gi_loopw [5,17] (fun y i wr=>∃ j:Nat,j<=cs.length/\i=.int .i64 (j:Int)/\wr.ownsRow W.heap.size 121 3 y j (jlM ((cs.map ZNW).take j))/\Below W.heap.size W wr) (fun _ i _=>cs.length-(intOf i).toNat)
   case atStart=>exact ⟨0,Nat.zero_le _,rfl,World.ownsRow_nil _ _ _ _,Below.refl _ _⟩
   case round =>
    obtain ⟨j,hj,rfl,aD,aA⟩:=hrel;have aX:=hid aA
    by_cases aR:j<cs.length
    ·obtain ⟨bb,ob,s0,s1,he,cS,dH,HS⟩:=(cM.out.below aA).at aR
     obtain ⟨rfl,rfl⟩:b=bb/\oo=ob:=by cases he;exact ⟨rfl,rfl⟩
     clear he;have cU:(j:Int)<(cs.length:Int):=by omega
     have aQ:(0:Int)<=(j:Int):=by omega
     have aY:=hid ((aD.alloc (.cells #[.string s0,.string s1] 78)).alloc (.cells #[.string s0,.string s1,.bool false] 121));have dE:=aA.size;have dJ:b<wr.heap.size:=by have:=World.block_lt_of_cell? wr _ cS;simpa using this
     gi_wp2_with (gi_at_builtin;refine wpListIn_append_own _ rfl _ _ 84 rfl W.heap.size 121 i0 (.agg #[.string ByteArray.empty,.string ByteArray.empty,.bool false]) 3 40 Tryz.underlying84 HI.out.1 HI.out.2.1 HI.out.2.2.1 HI.out.2.2.2 rfl (by omega) _ j _ rfl aY.out ⟨wr.heap.size+1,0,none⟩ 1 1 [.string s0,.string s1,.bool false] rfl rfl (Ju6 wr _ _ _) (QxC _ _ _) (by unfold maxLen;omega) (by omega) (by simp;omega) ?_;intro v' w7 aF aB _;have cL:=hid aF;have cH:=hid (jbs (((aX.out.alloc dE _).alloc (by simp;omega) _)) aY.out aB (by simp;omega));clear aF aB)
     go_roundw
     case rel =>
      refine ⟨j+1,by omega,by go_num,?_,cH.out⟩
      have e2:(cs.map ZNW).take (j+1)=(cs.map ZNW).take j++[(s0,s1,false)]:=by
       rw [List.take_succ_eq_append_getElem (by simpa using aR)]
       congr 2
       have:=HS.out;simp [List.getD,aR] at this;rw [List.getElem_map,<-this];rfl
      rw [e2,qUf];exact cL.out
     case measure=>simp [intOf];omega
    ·have cT:j=cs.length:=by omega
     subst cT;rw [List.take_of_length_le (by simp)] at aD
     obtain ⟨ya,yc,rfl⟩:∃ ya yc,u5=Value.slice ya cs.length yc:=by
      rcases yUO aD with ⟨e1,e2⟩ | ⟨g,cap,e1,_⟩
      ·exact ⟨none,0,by rw [e1,e2]⟩
      ·exact ⟨_,cap,e1⟩
     have bZ:wr.ownsRow W.heap.size 121 3 (.slice ya cs.length yc) (qGw rs x).length (jlM (qGw rs x)):=by rw [cJ.out,List.length_map];exact aD
     have cO:=hid bZ;have qv:wr.cell? ⟨w2.heap.size,0,none⟩=some v:=(aA.cell (p:=⟨w2.heap.size,0,none⟩) aJ.out.lt).trans aJ.out.cell;have lv:w2.heap.size<wr.heap.size:=Nat.lt_of_lt_of_le aJ.out.lt aA.size
     obtain ⟨va,vc,bU⟩:∃ va vc,v=Value.slice va (pre.map (qGw rs)).length vc:=by
      rcases yUO H1.out with ⟨e1,e2⟩ | ⟨g,cap,e1,_⟩
      ·exact ⟨none,0,by rw [e1,e2]⟩
      ·exact ⟨_,cap,e1⟩
     have cY:w2.heap.size<=W.heap.size:=HB.out.size;have dL:w2.heap.size<=wr.heap.size:=by omega
     have cZ:(pre.map (qGw rs)).length<=10:=by rw [List.length_map];omega
     obtain ⟨aK,aI⟩:∃ aK,aK=pre.map (qGw rs):=⟨_,rfl⟩;have cI:Hid ((pre++[x]).map (qGw rs)=aK++[qGw rs x]):=by show _=_;rw [aI];simp
     rw [<-aI] at H1 H2 H3 bU cZ;subst bU;have cE:=hid ((jcb H1.out aA).alloc (.cells #[.slice ya cs.length yc] 84));clear aD aA bZ aI
     gi_wp2_with (gi_at_builtin;refine wpListIn_append_own _ rfl _ _ 112 rfl w2.heap.size 84 i1 (.slice none 0 0) 1 24 Tryz.underlying112 HJ.out.1 HJ.out.2.1 HJ.out.2.2.1 HJ.out.2.2.2 rfl (by omega) _ aK.length _ rfl cE.out ⟨wr.heap.size,0,none⟩ 1 1 [.slice ya cs.length yc] rfl rfl (cell_one_new _ _ _) (by simp [Value.oneCell']) (by unfold maxLen;omega) (by omega) (by simp;omega) ?_;intro v' w9 aE aC _;obtain ⟨g',cP,rfl⟩:=ownsRow_succ aE;obtain ⟨aW,bH,bI,bJ⟩:=InSn.push cY (Nat.le_refl _) aJ.out H1.out H2.out H3.out cN.out cK.out aX.out cO.out aE aC;have q9:=aW.cell;have r9:=aW.frozen;have HE:=hid (And.intro bH (And.intro bI bJ));clear aE aC aW bH bI bJ)
     exact ⟨HE.out.2.1.from _,HE.out.2.2,by rw [cI.out];exact HE.out.1,HB.out.trans HE.out.2.2.1⟩
  case done =>
   rintro D ys W hD rfl ⟨⟨v,hv,aO,aV,aS⟩,hB⟩ hK;have dI:=hv.cell
   gi_wp2
   refine ⟨by simp,.inl ⟨_,_,rfl,run_takeDeferred hK,?_⟩⟩
   have aP:Bat (W.putObj D (.deferred none)) w2.heap.size v (xEW rs rs.length):=by
    obtain ⟨vs,h1,h2,h3⟩:=aO;rw [yLX];exact ⟨vs,ownsRow_putObj h1 _ hK rfl,fun i hi=>ownsRow_putObj (h2 i hi) _ hK rfl,h3⟩
   exact ⟨_,results_tmp rfl _ _ _,v,rfl,aP.mono aM.out.size,aM.out.trans ((hB.trans (belowK_b (w:=w2) (Nat.le_refl _) W D _ _ (by simp at hD;omega) hK rfl rfl)).mono aM.out.size)⟩
  case stop =>
   rintro D c pre W _ _ h _;exact h.elim
theorem xwW (rs:List Pr):(ZZG rs).length<=5:=by
 unfold ZZG
 split
 ·rename_i h;exact vZz rs _ (Jne h).1
 ·simp
theorem j2b {rs:List Pr} {b:List Ch} (h:b∈ZZG rs):b.length<=20/\∀ x∈b,(x.1,x.2.1)∈rs:=by
 unfold ZZG at h
 split at h
 ·exact qjy h
 ·simp at h
end Go.Proofs.YtehbpeinnepdcaaGreatDoor
