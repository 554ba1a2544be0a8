import Derived.Test.YtcdojnnkjeakmaaGreatDoorPrG42
import Derived.Deep.AppendSrc
import Derived.Shelf.Small.Strs
import Derived.Sort.Walk0
set_option maxHeartbeats 16000000
set_option maxRecDepth 8000
set_option linter.unusedVariables false
set_option linter.unusedSimpArgs false
namespace Go.Proofs.YtcdojnnkjeakmaaGreatDoor
open Go.RowKit Go.Shelf
attribute [local go_sem] Oper.semAt_some
theorem xwW (rs:List Pr):(ZZG rs).length<=5:=by
 unfold ZZG
 split
 ·rename_i h;exact vZz rs _ (Jne h).1
 ·simp
theorem j2b {rs:List Pr} {b:List Ch} (h:b∈ZZG rs):b.length<=20/\∀ x∈b,(x.1,x.2.1)∈rs:=by
 unfold ZZG at h
 split at h
 ·exact qjy h
 ·simp at h
end Go.Proofs.YtcdojnnkjeakmaaGreatDoor
namespace Go.Proofs.YtcdojnnkjeakmaaGreatDoor
open Go.RowKit
def QPD (W S L T H F R U O:Int) (a:Option Addr) (n c:Nat):Value:=.agg #[.int .i64 W,.int .i64 S,.int .i64 L,.int .i64 T,.int .i64 H,.int .i64 F,.int .i64 R,.int .i64 U,.int .i64 O,.slice a n c]
theorem q2K:(Tryz.prog.info? 176).map (fun i=>(i.zero,i.size,i.bytes))=some (some (.agg #[.string ByteArray.empty,.string ByteArray.empty]),2,32):=by kernel_rfl
theorem q5D {P:Program} {e:TypeId} {z:Value} {size aA:Nat} (h:(P.info? e).map (fun i=>(i.zero,i.size,i.bytes))=some (some z,size,aA)):∃ i,P.info? e=some i/\i.zero=some z/\i.size=size/\i.bytes=aA:=by
 obtain ⟨i,hi,hh⟩:=Option.map_eq_some_iff.1 h;simp only [Prod.mk.injEq] at hh;exact ⟨i,hi,hh⟩
theorem Q33 (n:Nat) (h:0<n):Builtin.nextslicecap n 0=n:=by
 unfold Builtin.nextslicecap;simp;omega
theorem yGW {P:Program} {w:World} (t ty e:TypeId) (i:TypeInfo) (z:Value) (size aB:Nat) (ht:P.underlying t=some (.slice e)) (hi:P.info? e=some i) (hz:i.zero=some z) (aE:i.size=size) (aH:i.bytes=aB)
  (base:Option Addr) (aC:base=none\/∃ b,base=some ⟨b,0,none⟩) (v:Value) (n:Nat) (news:List Value) (aA:Src P size t v n news w) (hn:n<=1048576) (aI:n*aB<=281474976710656) :
  ∃ a' cap wx,(Builtin.append_ #[t,t] ty #[.slice base 0 0,v]).run P w=.ok (.slice a' n cap) wx/\n<=cap/\(n=0\/(a'=some ⟨w.heap.size,0,none⟩/\Row wx w.heap.size news))/\Below w.heap.size w wx:=by
 subst aE aH
 by_cases h0:n=0
 ·subst h0
  have aG:news=[]:=List.eq_nil_of_length_eq_zero (by have:=aA.newsLen;omega);subst aG;rcases aC with rfl | ⟨b,rfl⟩
  ·refine ⟨none,0,w,?_,Nat.le_refl _,.inl rfl,Below.refl _ _⟩
   rcases aA.kind with ⟨e',hk⟩ | hk<;>simp [Builtin.append_,run_underlying ht,run_underlying hk,sizeOf,typeInfo,hi,aA.len,aA.cells]
  ·have aD:=run_append_room_src (P:=P) w t t ty e i ht hi b 0 0 0 v 0 [] aA (by omega) (by simp) (by simp)
   exact ⟨_,_,_,aD,Nat.le_refl _,.inl rfl,Below.refl _ _⟩
 ·have aF:(Builtin.firstCells i.size 0 (.slice base 0 0)).run P w.drew=.ok ([]:List Value).toArray w.drew:=by
   rcases aC with rfl | ⟨b,rfl⟩
   ·simp [Builtin.firstCells,Sem.run_pure]
   ·exact run_firstCells_some w.drew i.size 0 _ 0 0 [] (by simp) (by simp)
  have aD:=run_append_grow_src (P:=P) w t t ty e i z ht hi hz base 0 0 [] aF v n news aA (by omega) (by omega) (by rw [Nat.zero_add,Q33 n (by omega)];exact aI);refine ⟨_,_,_,by rw [aD,Nat.zero_add],?_,.inr ⟨rfl,?_⟩,(Below.refl _ _).drew.alloc (Nat.le_refl _) _⟩
  ·have:=grownCap_ge w (0+n) 0 e
   rw [Nat.zero_add] at this;exact this
  have hr:=xER w.drew ((([]:List Value)++news).toArray++Builtin.zeroCells z.cells (grownCap w (0+n) 0 e-(0+n))) e;refine ⟨by simp,fun j u hu=>?_,fun j hj=>?_⟩
  ·have:=hr.cell j u (by
    obtain ⟨hj,_⟩:=List.getElem?_eq_some_iff.1 hu
    simp [List.getElem?_append_left hj,hu])
   simpa using this
  ·have:=hr.froz j (by simp;omega)
   simpa using this
theorem xiB {P:Program} {w:World} {aG:Array Oper} {aB:List Oper} {o:Oper} {a:Act} {Q:Exit->Act->World->Prop} (aH:o.guard=none) (s x:Operand) (t:TypeId)
  (ho:o.op=.call { callee:=.builtin .append,args:=#[s,x],argTypes:=#[t,t] }) (e:TypeId) (i:TypeInfo) (z:Value) (size aA:Nat) (ht:P.underlying t=some (.slice e)) (hi:P.info? e=some i) (hz:i.zero=some z) (aD:i.size=size) (aI:i.bytes=aA)
  (base:Option Addr) (hs:a.eval s=.slice base 0 0) (aC:base=none\/∃ b,base=some ⟨b,0,none⟩) (v:Value) (hx:a.eval x=v) (n:Nat) (news:List Value) (aE:Src P size t v n news w) (hn:n<=1048576) (aJ:n*aA<=281474976710656)
  (h:∀ a' cap wx,n<=cap->(n=0\/(a'=some ⟨w.heap.size,0,none⟩/\Row wx w.heap.size news))->Below w.heap.size w wx->wpList P aG Q aB (a.put o.dst (.slice a' n cap)) wx):wpList P aG Q (o::aB) a w:=by
 refine wpList_plain aH fun K hK=>?_
 obtain ⟨a',cap,wx,aF,h1,h2,h3⟩:=yGW (P:=P) (w:=w) t o.type e i z size aA ht hi hz aD aI base aC v n news aE hn aJ;unfold Oper.wp;simp [execOp,ho,resolve,invoke,builtin,hs,hx,aF,Result.andThen];exact hK _ _ (h a' cap wx h1 h2 h3)
theorem v2f {P:Program} {w:World} {a:Option Addr} {rs:List (ByteArray×ByteArray)} (h:Prs w a rs) (t e:TypeId) (ht:P.underlying t=some (.slice e)) (c:Nat):Src P 2 t (.slice a rs.length c) rs.length (qJS rs) w:=by
 rcases h with h | ⟨b,o,rfl,hb,hc⟩
 ·subst h
  cases a with
  | none=>exact Src.ofNil w ht c
  | some x=>exact Src.ofSlice w ht x 0 c [] (by simp) (by simp) (by simp)
 ·refine Src.ofSlice w ht ⟨b,o,none⟩ rs.length c _ (vzd rs) (fun j u hu=>?_) (fun u hu=>?_)
  ·obtain ⟨hj,e⟩:=List.getElem?_eq_some_iff.1 hu
   rw [vzd] at hj;have ha:(⟨b,o,none⟩:Addr).add j=⟨b,o+j,none⟩:=by unfold Addr.add;split<;>simp_all
   obtain ⟨q,hq⟩:∃ q,j=q*2\/j=q*2+1:=⟨j / 2,by omega⟩;have aA:q<rs.length:=by omega
   have hw:=xkI rs q aA;rcases hq with rfl | rfl
   ·rw [ha,(hc q aA).1,<-hu,hw.1]
   ·rw [ha,<-Nat.add_assoc,(hc q aA).2,<-hu,hw.2]
  ·unfold qJS at hu
   obtain ⟨x,_,hx⟩:=List.mem_flatMap.1 hu;simp at hx;rcases hx with rfl | rfl<;>rfl
def XIH (w w':World) (e:Ending) (rs:List (ByteArray×ByteArray)):Prop:=∃ a c,e=.returned (stV a rs.length c)/\rs.length<=c/\OwnS w' a (qJS rs)/\(∀ g,blk a rs.length=some g->w.heap.size<=g)/\Below w.heap.size w w'
theorem jUf {w wx:World} {a':Option Addr} {rs:List (ByteArray×ByteArray)} {H:Nat} (h:rs.length=0\/(a'=some ⟨H,0,none⟩/\Row wx H (qJS rs))) (hH:w.heap.size<=H):OwnS wx a' (qJS rs)/\(∀ g,blk a' rs.length=some g->w.heap.size<=g/\g=H):=by
 rcases h with h | ⟨rfl,hr⟩
 ·have:rs=[]:=List.eq_nil_of_length_eq_zero h
  subst this
  exact ⟨.inl rfl,fun g hg=>by cases hg⟩
 ·refine ⟨.inr ⟨H,rfl,hr⟩,fun g hg=>?_⟩
  by_cases h0:rs.length=0
  ·rw [h0] at hg;cases hg
  ·rw [qdd _ _ _ h0] at hg;cases hg;exact ⟨hH,rfl⟩
theorem Znr (a:Option Addr) (rs:List (ByteArray×ByteArray)) (c:Nat) (w:World) (h:Prs w a rs) (hl:rs.length<=1048576) :
  Calls Tryz.prog 58 #[stV a rs.length c] w fun e w'=>XIH w w' e rs:=by
 obtain ⟨i0,aF,aH,aG,aE⟩:=q5D q2K;have HI:=hid (And.intro aF (And.intro aH (And.intro aG aE)));clear aF aH aG aE
 have aI:∀ o1 o2 o3,Below w.heap.size w (((w.alloc o1).alloc o2).alloc o3):=fun o1 o2 o3=>(((Below.refl _ _).alloc (Nat.le_refl _) _).alloc (by simp) _).alloc (by simp;omega) _
 go_enter Tryz.func58,Tryz.ntmps58;go_wp2_with (at_builtin;refine xiB rfl _ _ 55 rfl 176 i0 _ 2 32 Tryz.underlying55 HI.out.1 HI.out.2.1 HI.out.2.2.1 HI.out.2.2.2 _ rfl (.inr ⟨_,rfl⟩) _ rfl rs.length _ (v2f (h.below (aI _ _ _)) _ _ Tryz.underlying55 c) hl (by omega) ?_;intro a' cap wx aC aA aB;have c1:wx.cell? ⟨w.heap.size+1,0,none⟩=some (.slice none 0 0):=(aB.cell (p:=⟨w.heap.size+1,0,none⟩) (by simp<;>omega)).trans (by go_simp);have f1:wx.frozen? ⟨w.heap.size+1,0,none⟩=false:=(aB.frozen (p:=⟨w.heap.size+1,0,none⟩) (by simp<;>omega)).trans (by go_simp);have aK:=hid ((aI _ _ _).trans (aB.mono (by simp<;>omega)));have aD:=hid (jUf (w:=w) aA (by simp;omega));have aJ:w.heap.size+1<wx.heap.size:=Nat.lt_of_lt_of_le (by simp) aB.size;clear aA aB);refine bodyPost_ret (v:=stV a' rs.length cap) (by simp [results,Tryz.results58,go_sem,c1]) rfl ⟨a',cap,rfl,aC,?_,fun g hg=>(aD.out.2 g hg).1,aK.out.setCell (by show w.heap.size<=w.heap.size+1;omega) _⟩
 rcases aD.out.1 with h1 | ⟨g,rfl,h1⟩
 ·exact .inl h1
 ·by_cases h0:rs.length=0
  ·exact .inl (by rw [List.eq_nil_of_length_eq_zero h0];rfl)
  ·have:=(aD.out.2 g (qdd _ _ _ h0)).2
   exact .inr ⟨g,rfl,h1.other _ (by show w.heap.size+1≠g;rw [this];simp<;>omega) _⟩
structure Dd where
 (C W S L T H F R U O:Int)
 rs:List Pr
 ops:List OpT
def dnV (d:Dd) (a:Option Addr) (c:Nat) (b:Option Addr) (e:Nat):Value:=.agg #[.int .i64 d.C,.int .i64 d.W,.int .i64 d.S,.int .i64 d.L,.int .i64 d.T,.int .i64 d.H,.int .i64 d.F,.int .i64 d.R,.int .i64 d.U,.int .i64 d.O,.slice a d.rs.length c,.slice b d.ops.length e]
def XKU (a:Option Addr) (n:Nat) (b:Option Addr) (m:Nat):Prop:=blk a n=none\/blk b m=none\/blk a n≠blk b m
structure OwnDn (w:World) (rs:List Pr) (ops:List OpT) (a b:Option Addr):Prop where
 s:OwnS w a (qJS rs)
 p:OwnS w b (JFO ops)
 ne:XKU a rs.length b ops.length
theorem OwnDn.below {w w':World} {rs:List Pr} {aA:List OpT} {a b:Option Addr} (h:OwnDn w rs aA a b) (hb:Below w.heap.size w w'):OwnDn w' rs aA a b:=⟨h.s.below hb,h.p.below hb,h.ne⟩
theorem OwnS.prs {w:World} {a:Option Addr} {rs:List Pr} (h:OwnS w a (qJS rs)):Prs w a rs:=by
 rcases h with h | ⟨g,rfl,h⟩
 ·exact .inl (by have:=congrArg List.length h;rw [vzd,List.length_nil] at this;exact List.eq_nil_of_length_eq_zero (by omega))
 ·exact h.prs
theorem OwnS.ops {w:World} {a:Option Addr} {rs:List OpT} (h:OwnS w a (JFO rs)):Ops w a rs:=by
 rcases h with h | ⟨g,rfl,h⟩
 ·exact .inl (by have:=congrArg List.length h;rw [JlA,List.length_nil] at this;exact List.eq_nil_of_length_eq_zero (by omega))
 ·exact h.ops
theorem x1g {rs:List Pr} (h:rs.length≠0):qJS rs≠[]:=fun e=>h (by have:=congrArg List.length e;rw [vzd,List.length_nil] at this;omega)
theorem Xnn {rs:List Pr} (h:qJS rs≠[]):rs.length≠0:=fun e=>h (by rw [List.eq_nil_of_length_eq_zero e];rfl)
theorem JFT {rs:List OpT} (h:JFO rs≠[]):rs.length≠0:=fun e=>h (by rw [List.eq_nil_of_length_eq_zero e];rfl)
def vx0 (w w':World) (x:Ending) (d:Dd):Prop:=∃ a c b e,x=.returned (dnV d a c b e)/\d.rs.length<=c/\OwnDn w' d.rs d.ops a b/\(∀ g,blk a d.rs.length=some g->w.heap.size<=g)/\(∀ g,blk b d.ops.length=some g->w.heap.size<=g)/\Below w.heap.size w w'
def noD (C:Int):Dd:=⟨C,0,0,0,0,0,0,0,0,0,[],[]⟩
theorem OwnS.set' {w:World} {a:Option Addr} {cs:List Value} (h:OwnS w a cs) (p:Addr) (hp:∀ g,a=some ⟨g,0,none⟩->cs≠[]->p.block≠g) (v:Value):OwnS (w.setCell p v) a cs:=by
 by_cases h0:cs=[]
 ·exact .inl h0
 ·obtain ⟨g,rfl,hr⟩:=h.resolve_left h0
  exact .inr ⟨g,rfl,hr.other p (hp g rfl h0) v⟩
theorem OwnS.alloc' {w:World} {a:Option Addr} {cs:List Value} (h:OwnS w a cs) (o:Obj):OwnS (w.alloc o) a cs:=h.below ((Below.refl _ _).alloc (Nat.le_refl _) _)
theorem j6Q {w:World} {A:Array Value} {t:TypeId} {g:Nat} (hg:w.heap.size=g):Row (w.alloc (.cells A t)) g A.toList:=by subst hg;exact xER w A t
theorem qJx {w w':World} {x:Ending} {C:Int} {a b:Option Addr} {c e:Nat} (hx:x=.returned (dnV (noD C) a c b e)) (hb:Below w.heap.size w w'):vx0 w w' x (noD C) :=
 ⟨a,c,b,e,hx,Nat.zero_le _,⟨.inl rfl,.inl rfl,.inl rfl⟩,fun g h=>(by cases h),fun g h=>(by cases h),hb⟩
end Go.Proofs.YtcdojnnkjeakmaaGreatDoor
namespace Go.Proofs.YtcdojnnkjeakmaaGreatDoor
open Go.Shelf
def kpc (a b:ByteArray):Int:=Lib.compareBytes a.data.toList b.data.toList
end Go.Proofs.YtcdojnnkjeakmaaGreatDoor
namespace Go.Proofs.YtcdojnnkjeakmaaGreatDoor
open Go.RowKit Go.Sort
theorem J6g (a b:UInt8) (h1:¬ a<b) (h2:¬ b<a):a=b:=by
 apply UInt8.toNat_inj.1
 rw [UInt8.lt_iff_toNat_lt] at h1 h2;omega
theorem x9b:∀ (x y:List UInt8),Lib.compareBytes x y<0<->x<y
 | [],[]=>by simp [Lib.compareBytes]
 | [],b::l2=>by simp [Lib.compareBytes]
 | a::l,[]=>by simp [Lib.compareBytes]
 | a::l,b::l2=>by
  rw [List.cons_lt_cons_iff];unfold Lib.compareBytes
  split
  ·rename_i h;simp [h]
  ·rename_i h
   split
   ·rename_i h2
    have hne:¬ a=b:=fun e=>by subst e;exact h h2
    simp [h,hne]
   ·rename_i h2
    have e:=J6g a b h h2;subst e;rw [x9b l l2];simp [h]
theorem jMR:∀ (x y:List UInt8),Lib.compareBytes x y=0<->x=y
 | [],[]=>by simp [Lib.compareBytes]
 | [],b::l2=>by simp [Lib.compareBytes]
 | a::l,[]=>by simp [Lib.compareBytes]
 | a::l,b::l2=>by
  unfold Lib.compareBytes
  split
  ·rename_i h
   have hne:¬ a=b:=fun e=>by subst e;rw [UInt8.lt_iff_toNat_lt] at h;omega
   simp [hne]
  ·rename_i h
   split
   ·rename_i h2
    have hne:¬ a=b:=fun e=>by subst e;exact h h2
    simp [hne]
   ·rename_i h2
    have e:=J6g a b h h2;subst e;rw [jMR l l2];simp
theorem kHw (a b:ByteArray):kpc a b<0<->Op.bytesLess a.toList b.toList=true:=by
 unfold kpc;rw [x9b,bytesLess_eq,decide_eq_true_eq,ByteArray.toList_eq,ByteArray.toList_eq]
theorem Z1R (a b:ByteArray):kpc a b=0<->a=b:=by
 unfold kpc;rw [jMR]
 constructor
 ·intro h;exact ByteArray.ext (Array.ext' h)
 ·intro h;rw [h]
def kAt (rs:List (ByteArray×ByteArray)) (t:Nat):ByteArray:=(rs.getD t (ByteArray.empty,ByteArray.empty)).1
end Go.Proofs.YtcdojnnkjeakmaaGreatDoor
namespace Go.Proofs.YtcdojnnkjeakmaaGreatDoor
open Go.RowKit Go.Sort
theorem kaW (a b c:ByteArray) (h1:kpc a b<0) (h2:kpc b c<0):kpc a c<0:=by
 unfold kpc at *;rw [x9b] at *;exact List.lt_trans h1 h2
theorem zRg {rs:List (ByteArray×ByteArray)} (h:z0q rs=true) (i:Nat) (hi:i+1<rs.length):kpc (kAt rs i) (kAt rs (i+1))<0:=by
 have:=(Jne h).2 (i+1) hi;unfold jq0 klt at this;simp only [Nat.add_sub_cancel,Bool.and_eq_true,Bool.or_eq_true,decide_eq_true_eq] at this;rw [kHw];rcases this.2 with h | h
 ·omega
 ·exact h
theorem asc {rs:List (ByteArray×ByteArray)} (h:z0q rs=true) (t:Nat):∀ d,t+d+1<rs.length->kpc (kAt rs t) (kAt rs (t+d+1))<0
 | 0,hd=>zRg h t hd
 | d+1,hd=>kaW _ _ _ (asc h t d (by omega)) (zRg h (t+d+1) hd)
theorem ypw {rs:List (ByteArray×ByteArray)} (h:z0q rs=true) {t u:Nat} (aA:t<u) (hu:u<rs.length):kpc (kAt rs t) (kAt rs u)<0:=by
 obtain ⟨d,rfl⟩:∃ d,u=t+d+1:=⟨u-t-1,by omega⟩;exact asc h t d hu
end Go.Proofs.YtcdojnnkjeakmaaGreatDoor
namespace Go.Proofs.YtcdojnnkjeakmaaGreatDoor
open Go.RowKit Go.Sort
theorem xoV:∀ (x y:List UInt8),0<Lib.compareBytes x y->Lib.compareBytes y x<0
 | [],[]=>by simp [Lib.compareBytes]
 | [],b::l2=>by simp [Lib.compareBytes]
 | a::l,[]=>by simp [Lib.compareBytes]
 | a::l,b::l2=>by
  unfold Lib.compareBytes;intro h
  by_cases h1:a<b
  ·simp [h1] at h
  ·by_cases h2:b<a
   ·simp [h2]
   ·simp only [h1,h2,if_false] at h ⊢
    exact xoV l l2 h
theorem QCX {a b:ByteArray} (h:0<kpc a b):klt b a=true:=by
 have:=xoV _ _ h;exact (kHw b a).1 this
theorem zB6 (a:ByteArray):kpc a a=0:=(Z1R a a).2 rfl
theorem y6a {a b:ByteArray} (h:kpc a b<0):klt b a=false:=by
 cases hk:klt b a with
 | false=>rfl
 | true =>
  have h2:kpc b a<0:=(kHw b a).2 hk;have h3:=kaW a b a h h2;rw [zB6] at h3;omega
theorem X7b (a:ByteArray):klt a a=false:=by
 cases hk:klt a a with
 | false=>rfl
 | true =>
  have h2:kpc a a<0:=(kHw a a).2 hk;rw [zB6] at h2;omega
def xIY (aA aB:ByteArray) (st:Bool×List Pr) (p:Pr):Bool×List Pr :=
 if p.1=aA then (if (!st.1 && klt aA p.1)=true then (true,st.2++[(aA,aB)]) else st)
 else (if (!st.1 && klt aA p.1)=true then (true,st.2++[(aA,aB)]++[p]) else (st.1,st.2++[p]))
def chW (c:Ch) (rs:List Pr):Bool×List Pr:=rs.foldl (xIY c.1 c.2.1) (c.2.2,[])
def chF (c:Ch) (rs:List Pr):List Pr:=if (chW c rs).1=true then (chW c rs).2 else (chW c rs).2++[(c.1,c.2.1)]
theorem Jii (c:Ch) (rs:List Pr) (p:Pr):chW c (rs++[p])=xIY c.1 c.2.1 (chW c rs) p:=by unfold chW;rw [List.foldl_append];rfl
def Jdv (rs:List Pr):Prop:=rs.Pairwise fun x y=>kpc x.1 y.1<0
theorem knK (aA aB:ByteArray):∀ (l:List Pr) (g:Bool) (out:List Pr),(∀ x∈l,kpc x.1 aA<0)->l.foldl (xIY aA aB) (g,out)=(g,out++l)
 | [],g,out,_=>by simp
 | x::l,g,out,h=>by
  have hx:=h x List.mem_cons_self
  have hne:¬ x.1=aA:=fun e=>by rw [e,zB6] at hx;omega
  rw [List.foldl_cons,xIY,if_neg hne,y6a hx,Bool.and_false,if_neg (by simp)];rw [knK aA aB l g (out++[x]) (fun y hy=>h y (List.mem_cons_of_mem _ hy)),List.append_assoc];rfl
theorem JIO (aA aB:ByteArray):∀ (l:List Pr) (out:List Pr),(∀ x∈l,0<kpc x.1 aA)->l.foldl (xIY aA aB) (true,out)=(true,out++l)
 | [],out,_=>by simp
 | x::l,out,h=>by
  have hx:=h x List.mem_cons_self
  have hne:¬ x.1=aA:=fun e=>by rw [e,zB6] at hx;omega
  rw [List.foldl_cons,xIY,if_neg hne,if_neg (by simp)];rw [JIO aA aB l (out++[x]) (fun y hy=>h y (List.mem_cons_of_mem _ hy)),List.append_assoc];rfl
def XvE (c:Ch) (a r:List Pr):List Pr:=a++(if c.2.2=true then [] else [(c.1,c.2.1)])++r
theorem ys8 (c:Ch) (a m r:List Pr) (ha:∀ x∈a,kpc x.1 c.1<0) (hm:m=[]\/∃ v,m=[(c.1,v)]) (hr:∀ x∈r,0<kpc x.1 c.1):chF c (a++m++r)=XvE c a r:=by
 obtain ⟨aA,aB,g⟩:=c
 have e1:chW (aA,aB,g) (a++m++r)=r.foldl (xIY aA aB) (g,a):=by
  unfold chW;rw [List.append_assoc,List.foldl_append,knK aA aB a g [] ha,List.nil_append,List.foldl_append];rcases hm with rfl | ⟨v,rfl⟩
  ·rfl
  ·rw [List.foldl_cons,List.foldl_nil,xIY,if_pos rfl,X7b,Bool.and_false,if_neg (by simp)]
 unfold chF XvE;rw [e1]
 cases g with
 | true=>rw [JIO aA aB r a hr];simp
 | false =>
  cases r with
  | nil=>simp
  | cons x l =>
   have hx:=hr x List.mem_cons_self
   have aC:¬ x.1=aA:=fun e=>by rw [e,zB6] at hx;omega
   rw [List.foldl_cons,xIY,if_neg aC];simp only [Bool.not_false,Bool.true_and];rw [QCX hx,if_pos rfl,JIO aA aB l _ (fun y hy=>hr y (List.mem_cons_of_mem _ hy))];simp
theorem XUn (c:Ch) (a m r:List Pr) (h:Jdv (a++m++r)) (ha:∀ x∈a,kpc x.1 c.1<0) (hr:∀ x∈r,0<kpc x.1 c.1):Jdv (XvE c a r):=by
 unfold Jdv XvE at *;rw [List.pairwise_append,List.pairwise_append] at h;obtain ⟨⟨h1,h2,h3⟩,h4,h5⟩:=h
 have aA:∀ x∈a,∀ y∈r,kpc x.1 y.1<0:=fun x hx y hy=>h5 x (List.mem_append_left _ hx) y hy
 have aB:∀ y∈r,kpc c.1 y.1<0:=fun y hy=>(kHw _ _).2 (QCX (hr y hy))
 by_cases hg:c.2.2=true
 ·rw [if_pos hg,List.append_nil,List.pairwise_append]
  exact ⟨h1,h4,aA⟩
 ·rw [if_neg hg,List.pairwise_append,List.pairwise_append]
  refine ⟨⟨h1,by simp,fun x hx y hy=>?_⟩,h4,fun x hx y hy=>?_⟩
  ·simp at hy;subst hy;exact ha x hx
  ·rw [List.mem_append] at hx
   rcases hx with hx | hx
   ·exact aA x hx y hy
   ·simp at hx;subst hx;exact aB y hy
theorem QVn {α:Type} (rs:List α) (i:Nat) (h:i<rs.length) {d:α}:rs.getD i d=rs[i]:=by simp [List.getD,h]
theorem zMA {rs:List Pr} (h:z0q rs=true):Jdv rs:=by
 unfold Jdv;rw [List.pairwise_iff_getElem];intro i j hi hj aA;have:=ypw h aA hj;unfold kAt at this
 rwa [QVn _ _ hi,QVn _ _ hj] at this
def apU (rs:List Pr) (b:List Ch):List Pr:=b.foldl (fun s c=>chF c s) rs
theorem JDX (rs:List Pr) (b:List Ch) (c:Ch):apU rs (b++[c])=chF c (apU rs b):=by unfold apU;rw [List.foldl_append];rfl
def apC (rs:List Pr) (b:List Ch):Int:=if (z0q rs && kpJ b)=true then (if (apU rs b).length<=100 then 0 else 2) else 1
def apR (rs:List Pr) (b:List Ch):List Pr:=if apC rs b=0 then apU rs b else []
theorem xzP (c:Ch):∀ (rs:List Pr) (k:Nat),k=rs.length->(chW c rs).2.length<=rs.length+(if (chW c rs).1=true/\c.2.2=false then 1 else 0)/\(c.2.2=true->(chW c rs).1=true)
 | rs,0,hk=>by rw [List.eq_nil_of_length_eq_zero hk.symm];simp [chW]
 | rs,k+1,hk=>by
  obtain ⟨b,bs,rfl⟩:∃ b bs,rs=bs++[b]:=by
   rcases List.eq_nil_or_concat rs with h | ⟨l,a,h⟩
   ·subst h;simp at hk
   ·exact ⟨a,l,by simpa using h⟩
  have ih:=xzP c bs k (by simp at hk;omega);rw [Jii];obtain ⟨aA,aC,g⟩:=c;generalize chW (aA,aC,g) bs=st at ih ⊢;obtain ⟨d,out⟩:=st;unfold xIY;rw [List.length_append,List.length_singleton];have aB:=X7b aA
  cases d<;>cases hk2:klt aA b.1<;>by_cases he:b.1=aA<;>cases g<;>simp [he,hk2,aB] at ih hk2 ⊢<;>omega
theorem qBV (c:Ch) (rs:List Pr):(chF c rs).length<=rs.length+1:=by
 have:=(xzP c rs _ rfl).1;unfold chF
 split
 ·split at this<;>omega
 ·rename_i h
  rw [if_neg (fun e=>h e.1)] at this;rw [List.length_append];simp;omega
theorem Q4i (rs:List Pr) (b:List Ch):∀ k,(apU rs (b.take k)).length<=rs.length+k
 | 0=>by simp [apU]
 | k+1=>by
  have ih:=Q4i rs b k
  by_cases h:k<b.length
  ·rw [List.take_succ_eq_append_getElem h,JDX]
   have:=qBV b[k] (apU rs (b.take k));omega
  ·rw [List.take_of_length_le (by omega)] at ih ⊢
   omega
end Go.Proofs.YtcdojnnkjeakmaaGreatDoor
namespace Go.Proofs.YtcdojnnkjeakmaaGreatDoor
open Go.RowKit Go.Sort
theorem JNB {a b:ByteArray} (h:kpc a b<0):0<kpc b a:=by
 rcases Int.lt_trichotomy (kpc b a) 0 with h1 | h1 | h1
 ·have:=kaW a b a h h1
  rw [zB6] at this;omega
 ·have:=(Z1R _ _).1 h1
  subst this;rw [zB6] at h;omega
 ·exact h1
theorem ZaP (rs:List Pr):z0q rs=true<->rs.length<=100/\(∀ x∈rs,kOk x.1=true/\vOk x.2=true)/\Jdv rs:=by
 constructor
 ·intro h
  obtain ⟨h1,h2⟩:=Jne h;refine ⟨h1,fun x hx=>?_,zMA h⟩;obtain ⟨i,hi,rfl⟩:=List.getElem_of_mem hx;have:=h2 i hi;unfold jq0 at this;rw [QVn _ _ hi] at this;simp only [Bool.and_eq_true] at this;exact this.1
 ·rintro ⟨h1,h2,h3⟩
  refine qjV h1 (fun k hk=>?_);unfold jq0;have hm:=h2 _ (List.getElem_mem hk);rw [QVn _ _ hk,hm.1,hm.2]
  by_cases h0:k=0
  ·simp [h0]
  ·have aA:k-1<rs.length:=by omega
   rw [QVn _ _ aA];unfold Jdv at h3;rw [List.pairwise_iff_getElem] at h3;have:=h3 (k-1) k aA hk (by omega);have h4:klt rs[k-1].1 rs[k].1=true:=(kHw _ _).1 this;simp [h4]
theorem zJJ (aA:ByteArray):∀ (rs:List Pr),Jdv rs->∃ a m r,rs=a++m++r/\(∀ x∈a,kpc x.1 aA<0)/\(m=[]\/∃ v,m=[(aA,v)])/\(∀ x∈r,0<kpc x.1 aA)
 | [],_=>⟨[],[],[],rfl,by simp,.inl rfl,by simp⟩
 | x::l,h=>by
  unfold Jdv at h;rw [List.pairwise_cons] at h;rcases Int.lt_trichotomy (kpc x.1 aA) 0 with h1 | h1 | h1
  ·obtain ⟨a,m,r,e,ha,hm,hr⟩:=zJJ aA l h.2
   refine ⟨x::a,m,r,by rw [e];rfl,fun y hy=>?_,hm,hr⟩;rcases List.mem_cons.1 hy with rfl | hy
   ·exact h1
   ·exact ha y hy
  ·have e:=(Z1R _ _).1 h1
   refine ⟨[],[x],l,rfl,by simp,.inr ⟨x.2,by rw [<-e]⟩,fun y hy=>?_⟩;rw [<-e];exact JNB (h.1 y hy)
  ·refine ⟨[],[],x::l,rfl,by simp,.inl rfl,fun y hy=>?_⟩
   rcases List.mem_cons.1 hy with rfl | hy
   ·exact h1
   ·have h2:kpc aA x.1<0:=(kHw _ _).2 (QCX h1)
    exact JNB (kaW _ _ _ h2 (h.1 y hy))
theorem jsG (c:Ch) (rs:List Pr) (h:Jdv rs):∃ a m r,rs=a++m++r/\(∀ x∈a,kpc x.1 c.1<0)/\(m=[]\/∃ v,m=[(c.1,v)])/\(∀ x∈r,0<kpc x.1 c.1)/\chF c rs=XvE c a r:=by
 obtain ⟨a,m,r,e,ha,hm,hr⟩:=zJJ c.1 rs h;exact ⟨a,m,r,e,ha,hm,hr,by rw [e];exact ys8 c a m r ha hm hr⟩
theorem kDg (c:Ch) (rs:List Pr) (h:Jdv rs):Jdv (chF c rs):=by
 obtain ⟨a,m,r,e,ha,hm,hr,hc⟩:=jsG c rs h;rw [hc];rw [e] at h;exact XUn c a m r h ha hr
theorem Qe4 (c:Ch) (rs:List Pr) (h:Jdv rs):∀ x∈chF c rs,x∈rs\/(x=(c.1,c.2.1)/\c.2.2=false):=by
 obtain ⟨a,m,r,e,ha,hm,hr,hc⟩:=jsG c rs h;rw [hc];intro x hx;unfold XvE at hx;rw [List.mem_append,List.mem_append] at hx;rcases hx with (hx | hx) | hx
 ·exact .inl (by rw [e];simp [hx])
 ·split at hx
  ·simp at hx
  ·rename_i hg
   simp at hx;exact .inr ⟨hx,by simpa using hg⟩
 ·exact .inl (by rw [e];simp [hx])
theorem Z2H (rs:List Pr) (h:Jdv rs):∀ (b:List Ch),Jdv (apU rs b):=by
 intro b;unfold apU
 induction b generalizing rs with
 | nil=>exact h
 | cons c l ih=>exact ih _ (kDg c rs h)
theorem qED (rs:List Pr) (h:Jdv rs):∀ (b:List Ch),∀ x∈apU rs b,x∈rs\/∃ c∈b,x=(c.1,c.2.1):=by
 intro b;unfold apU
 induction b generalizing rs with
 | nil=>exact fun x hx=>.inl hx
 | cons c l ih =>
  intro x hx;rcases ih _ (kDg c rs h) x hx with h1 | ⟨c',h1,h2⟩
  ·rcases Qe4 c rs h x h1 with h3 | h3
   ·exact .inl h3
   ·exact .inr ⟨c,List.mem_cons_self,h3.1⟩
  ·exact .inr ⟨c',List.mem_cons_of_mem _ h1,h2⟩
theorem vBC {c:Ch} (h:yO3 c=true):kOk c.1=true/\vOk c.2.1=true:=by
 unfold yO3 at h;simp only [Bool.and_eq_true] at h;exact h.1
theorem yf3 {rs:List Pr} {b:List Ch} (h:apC rs b=0):z0q rs=true/\kpJ b=true/\(apU rs b).length<=100:=by
 unfold apC at h
 split at h
 ·rename_i h1
  simp only [Bool.and_eq_true] at h1
  split at h
  ·rename_i h2;exact ⟨h1.1,h1.2,h2⟩
  ·cases h
 ·cases h
theorem jZe {rs:List Pr} {b:List Ch} (h:apC rs b=0):z0q (apU rs b)=true:=by
 obtain ⟨h1,h2,h3⟩:=yf3 h;obtain ⟨_,k2,k3⟩:=(ZaP rs).1 h1;refine (ZaP _).2 ⟨h3,fun x hx=>?_,Z2H rs k3 b⟩;rcases qED rs k3 b x hx with h4 | ⟨c,h4,rfl⟩
 ·exact k2 x h4
 ·exact vBC ((q4Z h2).2 c h4)
end Go.Proofs.YtcdojnnkjeakmaaGreatDoor
namespace Go.Proofs.YtcdojnnkjeakmaaGreatDoor
open Go.RowKit
def pcV (r:ByteArray):Value:=match pc r with | none=>.tuple #[.string ⟨#[]⟩,.string ⟨#[]⟩,.bool false] | some (k,m)=>.tuple #[.string k,.string m,.bool true]
theorem q8F (r:ByteArray) (h:0<r.size):(r[0]'h).toNat=b0 r:=by
 unfold b0;have hl:0<r.data.toList.length:=h;rw [List.getD_eq_getElem?_getD,List.getElem?_eq_getElem hl];rfl
theorem xsP (r:ByteArray) (w:World) (hs:r.size<=1048576):Calls Tryz.prog 107 #[.string r] w fun e w'=>e=.returned (pcV r)/\Below w.heap.size w w':=by
 by_cases h0:0<r.size
 ·have hg:=q8F r h0
  obtain ⟨b,hb⟩:∃ b,b=b0 r:=⟨_,rfl⟩;obtain ⟨e,he⟩:∃ e,e=1+b:=⟨_,rfl⟩;have aE:b<=255:=by rw [hb];exact Q10 r
  rw [<-hb] at hg;have h1:(1:Int)<=(r.size:Int):=by omega
  have aA:r.toList.isEmpty=false:=by rw [vOw];exact decide_eq_false (by omega)
  have hE:(1:Int)+(b:Int)=(e:Int):=by omega
  have aC:(0:Int)<=(e:Int):=by omega
  have aF:(1:Int)<=(e:Int):=by omega
  have aD:IntKind.i64.wrap (e:Int)=(e:Int):=by simp [IntKind.wrap,IntKind.bits,IntKind.signed];omega
  by_cases h2:1+b<=r.size
  ·have HV:Hid (pcV r=.tuple #[.string (r.extract 1 e),.string (r.extract e r.size),.bool true]):=by
    show _=_;unfold pcV pc;rw [<-hb,if_pos ⟨by omega,h2⟩,<-he]
   have aB:(e:Int)<=(r.size:Int):=by omega
   clear hb h2 he;go_enter Tryz.func107,Tryz.ntmps107;go_wp2;go_quiet (fail);go_wp2;go_ret3;exact ⟨by rw [HV.out];rfl,below_drewN (Below.refl _ _) _⟩
  ·have HV:Hid (pcV r=.tuple #[.string ⟨#[]⟩,.string ⟨#[]⟩,.bool false]):=by
    show _=_;unfold pcV pc;rw [<-hb,if_neg (by omega)]
   have aB:(r.size:Int)<(e:Int):=by omega
   clear hb h2 he;go_enter Tryz.func107,Tryz.ntmps107;go_wp2;go_ret3;exact ⟨by rw [HV.out];rfl,Below.refl _ _⟩
 ·have HV:Hid (pcV r=.tuple #[.string ⟨#[]⟩,.string ⟨#[]⟩,.bool false]):=by
   show _=_;unfold pcV pc;rw [if_neg (by omega)]
  have hz:(r.size:Int)<1:=by omega
  have aA:r.toList.isEmpty=true:=by rw [vOw];exact decide_eq_true (by omega)
  go_enter Tryz.func107,Tryz.ntmps107;go_wp2;go_ret3;exact ⟨by rw [HV.out];rfl,Below.refl _ _⟩
theorem bs0 {w w':World} {o:Obj} (h:Below (w.alloc o).heap.size (w.alloc o) w'):Below w.heap.size w w':=((Below.refl _ _).alloc (Nat.le_refl _) _).trans (h.mono (by simp))
theorem Qg6 {r:ByteArray} (h:pc r=none):pcV r=.tuple #[.string ⟨#[]⟩,.string ⟨#[]⟩,.bool false]:=by unfold pcV;rw [h]
theorem xMB {r k m:ByteArray} (h:pc r=some (k,m)):pcV r=.tuple #[.string k,.string m,.bool true]:=by unfold pcV;rw [h]
theorem QAD {r k m:ByteArray} (h:pc r=some (k,m)):m.size<=r.size:=by
 have:=congrArg List.length (knt h).1;simp [vgz] at this;omega
theorem q3H:(Tryz.prog.info? 117).map (fun i=>(i.zero,i.size,i.bytes))=some (some (.agg #[.string ByteArray.empty,.string ByteArray.empty,.bool false]),3,40):=by kernel_rfl
theorem qOH {P:Program} {e:TypeId} {z:Value} {size aA:Nat} (h:(P.info? e).map (fun i=>(i.zero,i.size,i.bytes))=some (some z,size,aA)):∃ i,P.info? e=some i/\i.zero=some z/\i.size=size/\i.bytes=aA:=by
 obtain ⟨i,hi,hh⟩:=Option.map_eq_some_iff.1 h;simp only [Prod.mk.injEq] at hh;exact ⟨i,hi,hh⟩
theorem QUO {W w w1:World} {e:TypeId} {size:Nat} {v:Value} {n B:Nat} {xs:List Value} (hb:Below B W w) (own:w.ownsRow B e size v n xs) (hg:w.grownBy w1 v.ownBlock) (hB:B<=w.heap.size):Below B W w1 :=
 hb.trans ⟨hg.os,hg.tape,hg.output,hg.size,fun k hk=>hg.block k (by omega) (fun he=>by have:=(own.lt k he.symm).1;omega)⟩
theorem qGp {r r1:ByteArray} {c:Ch} (hr:0<r.size) (h:stp r=some (c,r1)):r1.size<r.size/\c.1.size<=255/\c.2.1.size<=255:=by
 obtain ⟨k1,k2,t,k3,k4⟩:=kUx hr h;refine ⟨?_,k1,k2⟩;have e1:=congrArg List.length k3;have e2:=congrArg List.length k4;rw [vgz] at e2;rw [List.length_append,vgz] at e1;have e3:2<=(chN c).length:=by unfold chN;split<;>simp<;>omega
 simp only [List.length_cons] at e1 e2;omega
def qdZ (w w':World) (e:Ending) (aA:Option (List Ch)):Prop:=∃ a c,e=.returned (.tuple #[.slice a (aA.getD []).length c,.bool aA.isSome])/\OwnS w' a (jlM (aA.getD []))/\(∀ g,blk a (aA.getD []).length=some g->w.heap.size<=g)/\Below w.heap.size w w'
theorem ZZy {w w':World} {v:Value} {a:Option Addr} {c:Nat} (hv:v=.tuple #[.slice a 0 c,.bool false]) (hb:Below w.heap.size w w'):qdZ w w' (.returned v) none:=⟨a,c,by rw [hv];rfl,.inl rfl,fun g h=>(by cases h),hb⟩
theorem zVX {w w':World} {v y:Value} {o:List Ch} {e:TypeId} (h:w'.ownsRow w.heap.size e 3 y o.length (jlM o)) (hv:v=.tuple #[y,.bool true]) (hb:Below w.heap.size w w'):qdZ w w' (.returned v) (some o):=by
 rcases yUO h with ⟨h1,h2⟩ | ⟨g,cap,h1,h2,_,h3⟩
 ·have:o=[]:=List.eq_nil_of_length_eq_zero h2
  subst this;exact ⟨none,0,by rw [hv,h1];rfl,.inl rfl,fun g h=>(by cases h),hb⟩
 ·refine ⟨_,cap,by rw [hv,h1];rfl,.inr ⟨g,rfl,h3⟩,fun g' aA=>?_,hb⟩
  simp only [Option.getD_some] at aA
  by_cases h0:o.length=0
  ·rw [h0] at aA;cases aA
  ·rw [qdd g 0 _ h0] at aA;cases aA;exact h2
theorem XiI {w:World} {B:Nat} {e:TypeId} {y:Value} {o:List Ch} (h:w.ownsRow B e 3 y o.length (jlM o)):∃ a c,y=.slice a o.length c/\Chs w a o:=by
 rcases yUO h with ⟨h1,h2⟩ | ⟨g,cap,h1,h2,_,h3⟩
 ·have:o=[]:=List.eq_nil_of_length_eq_zero h2
  subst this;exact ⟨none,0,h1,.inl rfl⟩
 ·exact ⟨_,cap,h1,h3.chs⟩
theorem ysK (o:List Ch) (c:Ch):jlM (o++[c])=jlM o++[.string c.1,.string c.2.1,.bool c.2.2]:=by rw [xam];rfl
theorem keR (k v:ByteArray) (g:Bool):∀ u∈[Value.string k,.string v,.bool g],u.oneCell'=true:=by
 intro u hu;simp only [List.mem_cons,List.not_mem_nil,or_false] at hu;rcases hu with rfl | rfl | rfl<;>rfl
end Go.Proofs.YtcdojnnkjeakmaaGreatDoor
