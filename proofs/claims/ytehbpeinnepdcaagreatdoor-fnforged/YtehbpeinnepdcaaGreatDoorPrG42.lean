import Derived.Deep.AppendSrc
import Derived.Test.YtehbpeinnepdcaaGreatDoorPrG37
import Derived.Test.YtehbpeinnepdcaaGreatDoorPrG40
import Derived.Shelf.Small.Strs
import Derived.Sort.Walk0
import Derived.Deep.Cut
import Derived.Deep.CutRange
set_option maxHeartbeats 16000000
set_option maxRecDepth 8000
set_option linter.unusedVariables false
set_option linter.unusedSimpArgs false
namespace Go.Proofs.YtehbpeinnepdcaaGreatDoor
open Go.RowKit
def Xhx (k:Nat):List Int:=if h:k=0 then [] else Xhx (k / 10)++[48+((k % 10:Nat):Int)]
def jna (k:Nat):ByteArray:=⟨#[109]⟩++strOfNums (Xhx k)
theorem q2K:(Tryz.prog.info? 78).map (fun i=>(i.zero,i.size,i.bytes))=some (some (.agg #[.string ByteArray.empty,.string ByteArray.empty]),2,32):=by kernel_rfl
theorem q5D {P:Program} {e:TypeId} {z:Value} {size aA:Nat} (h:(P.info? e).map (fun i=>(i.zero,i.size,i.bytes))=some (some z,size,aA)):∃ i,P.info? e=some i/\i.zero=some z/\i.size=size/\i.bytes=aA:=by
 obtain ⟨i,hi,hh⟩:=Option.map_eq_some_iff.1 h;simp only [Prod.mk.injEq] at hh;exact ⟨i,hi,hh⟩
theorem Q33 (n:Nat) (h:0<n):Builtin.nextslicecap n 0=n:=by
 unfold Builtin.nextslicecap;simp;omega
theorem yGW {P:Program} {w:World} (t ty e:TypeId) (i:TypeInfo) (z:Value) (size aB:Nat) (ht:P.underlying t=some (.slice e)) (hi:P.info? e=some i) (hz:i.zero=some z) (aE:i.size=size) (aI:i.bytes=aB)
  (base:Option Addr) (aC:base=none\/∃ b,base=some ⟨b,0,none⟩) (v:Value) (n:Nat) (news:List Value) (aA:Src P size t v n news w) (hn:n<=1048576) (aH:n*aB<=281474976710656) :
  ∃ a' cap wx,(Builtin.append_ #[t,t] ty #[.slice base 0 0,v]).run P w=.ok (.slice a' n cap) wx/\n<=cap/\(n=0\/(a'=some ⟨w.heap.size,0,none⟩/\Row wx w.heap.size news))/\Below w.heap.size w wx:=by
 subst aE aI
 by_cases h0:n=0
 ·subst h0
  have aF:news=[]:=List.eq_nil_of_length_eq_zero (by have:=aA.newsLen;omega);subst aF;rcases aC with rfl | ⟨b,rfl⟩
  ·refine ⟨none,0,w,?_,Nat.le_refl _,.inl rfl,Below.refl _ _⟩
   rcases aA.kind with ⟨e',hk⟩ | hk<;>simp [Builtin.append_,run_underlying ht,run_underlying hk,sizeOf,typeInfo,hi,aA.len,aA.cells]
  ·have aD:=run_append_room_src (P:=P) w t t ty e i ht hi b 0 0 0 v 0 [] aA (by omega) (by simp) (by simp)
   exact ⟨_,_,_,aD,Nat.le_refl _,.inl rfl,Below.refl _ _⟩
 ·have aG:(Builtin.firstCells i.size 0 (.slice base 0 0)).run P w.drew=.ok ([]:List Value).toArray w.drew:=by
   rcases aC with rfl | ⟨b,rfl⟩
   ·simp [Builtin.firstCells,Sem.run_pure]
   ·exact run_firstCells_some w.drew i.size 0 _ 0 0 [] (by simp) (by simp)
  have aD:=run_append_grow_src (P:=P) w t t ty e i z ht hi hz base 0 0 [] aG v n news aA (by omega) (by omega) (by rw [Nat.zero_add,Q33 n (by omega)];exact aH);refine ⟨_,_,_,by rw [aD,Nat.zero_add],?_,.inr ⟨rfl,?_⟩,(Below.refl _ _).drew.alloc (Nat.le_refl _) _⟩
  ·have:=grownCap_ge w (0+n) 0 e
   rw [Nat.zero_add] at this;exact this
  have hr:=xER w.drew ((([]:List Value)++news).toArray++Builtin.zeroCells z.cells (grownCap w (0+n) 0 e-(0+n))) e;refine ⟨by simp,fun j u hu=>?_,fun j hj=>?_⟩
  ·have:=hr.cell j u (by
    obtain ⟨hj,_⟩:=List.getElem?_eq_some_iff.1 hu
    simp [List.getElem?_append_left hj,hu])
   simpa using this
  ·have:=hr.froz j (by simp;omega)
   simpa using this
theorem xiB {P:Program} {w:World} {aG:Array Oper} {aD:List Oper} {o:Oper} {a:Act} {Q:Exit->Act->World->Prop} (aJ:o.guard=none) (s x:Operand) (t:TypeId)
  (ho:o.op=.call { callee:=.builtin .append,args:=#[s,x],argTypes:=#[t,t] }) (e:TypeId) (i:TypeInfo) (z:Value) (size aA:Nat) (ht:P.underlying t=some (.slice e)) (hi:P.info? e=some i) (hz:i.zero=some z) (aC:i.size=size) (aI:i.bytes=aA)
  (base:Option Addr) (hs:a.eval s=.slice base 0 0) (aB:base=none\/∃ b,base=some ⟨b,0,none⟩) (v:Value) (hx:a.eval x=v) (n:Nat) (news:List Value) (aF:Src P size t v n news w) (hn:n<=1048576) (aH:n*aA<=281474976710656)
  (h:∀ a' cap wx,n<=cap->(n=0\/(a'=some ⟨w.heap.size,0,none⟩/\Row wx w.heap.size news))->Below w.heap.size w wx->wpList P aG Q aD (a.put o.dst (.slice a' n cap)) wx):wpList P aG Q (o::aD) a w:=by
 refine wpList_plain aJ fun K hK=>?_
 obtain ⟨a',cap,wx,aE,h1,h2,h3⟩:=yGW (P:=P) (w:=w) t o.type e i z size aA ht hi hz aC aI base aB v n news aF hn aH;unfold Oper.wp;simp [execOp,ho,resolve,invoke,builtin,hs,hx,aE,Result.andThen];exact hK _ _ (h a' cap wx h1 h2 h3)
theorem v2f {P:Program} {w:World} {a:Option Addr} {rs:List (ByteArray×ByteArray)} (h:Prs w a rs) (t e:TypeId) (ht:P.underlying t=some (.slice e)) (c:Nat):Src P 2 t (.slice a rs.length c) rs.length (qJS rs) w:=by
 rcases h with h | ⟨b,o,rfl,hb,hc⟩
 ·subst h
  cases a with
  | none=>exact Src.ofNil w ht c
  | some x=>exact Src.ofSlice w ht x 0 c [] (by simp) (by simp) (by simp)
 ·refine Src.ofSlice w ht ⟨b,o,none⟩ rs.length c _ (vzd rs) (fun j u hu=>?_) (fun u hu=>?_)
  ·obtain ⟨hj,e⟩:=List.getElem?_eq_some_iff.1 hu
   rw [vzd] at hj;have ha:(⟨b,o,none⟩:Addr).add j=⟨b,o+j,none⟩:=by unfold Addr.add;split<;>simp_all
   obtain ⟨q,hq⟩:∃ q,j=q*2\/j=q*2+1:=⟨j / 2,by omega⟩;have aA:q<rs.length:=by omega
   have hw:=xkI rs q aA;rcases hq with rfl | rfl
   ·rw [ha,(hc q aA).1,<-hu,hw.1]
   ·rw [ha,<-Nat.add_assoc,(hc q aA).2,<-hu,hw.2]
  ·unfold qJS at hu
   obtain ⟨x,_,hx⟩:=List.mem_flatMap.1 hu;simp at hx;rcases hx with rfl | rfl<;>rfl
def XIH (w w':World) (e:Ending) (rs:List (ByteArray×ByteArray)):Prop:=∃ a c,e=.returned (stV a rs.length c)/\rs.length<=c/\OwnS w' a (qJS rs)/\(∀ g,blk a rs.length=some g->w.heap.size<=g)/\Below w.heap.size w w'
theorem jUf {w wx:World} {a':Option Addr} {rs:List (ByteArray×ByteArray)} {H:Nat} (h:rs.length=0\/(a'=some ⟨H,0,none⟩/\Row wx H (qJS rs))) (hH:w.heap.size<=H):OwnS wx a' (qJS rs)/\(∀ g,blk a' rs.length=some g->w.heap.size<=g/\g=H):=by
 rcases h with h | ⟨rfl,hr⟩
 ·have:rs=[]:=List.eq_nil_of_length_eq_zero h
  subst this
  exact ⟨.inl rfl,fun g hg=>by cases hg⟩
 ·refine ⟨.inr ⟨H,rfl,hr⟩,fun g hg=>?_⟩
  by_cases h0:rs.length=0
  ·rw [h0] at hg;cases hg
  ·rw [qdd _ _ _ h0] at hg;cases hg;exact ⟨hH,rfl⟩
theorem Znr (a:Option Addr) (rs:List (ByteArray×ByteArray)) (c:Nat) (w:World) (h:Prs w a rs) (hl:rs.length<=1048576) :
  Calls Tryz.prog 69 #[stV a rs.length c] w fun e w'=>XIH w w' e rs:=by
 obtain ⟨i0,aF,aG,aH,aI⟩:=q5D q2K;have HI:=hid (And.intro aF (And.intro aG (And.intro aH aI)));clear aF aG aH aI
 have aE:∀ o1 o2 o3,Below w.heap.size w (((w.alloc o1).alloc o2).alloc o3):=fun o1 o2 o3=>(((Below.refl _ _).alloc (Nat.le_refl _) _).alloc (by simp) _).alloc (by simp;omega) _
 go_enter Tryz.func69,Tryz.ntmps69;go_wp2_with (at_builtin;refine xiB rfl _ _ 29 rfl 78 i0 _ 2 32 Tryz.underlying29 HI.out.1 HI.out.2.1 HI.out.2.2.1 HI.out.2.2.2 _ rfl (.inr ⟨_,rfl⟩) _ rfl rs.length _ (v2f (h.below (aE _ _ _)) _ _ Tryz.underlying29 c) hl (by omega) ?_;intro a' cap wx aD aB aA;have c1:wx.cell? ⟨w.heap.size+1,0,none⟩=some (.slice none 0 0):=(aA.cell (p:=⟨w.heap.size+1,0,none⟩) (by simp<;>omega)).trans (by go_simp);have f1:wx.frozen? ⟨w.heap.size+1,0,none⟩=false:=(aA.frozen (p:=⟨w.heap.size+1,0,none⟩) (by simp<;>omega)).trans (by go_simp);have aJ:=hid ((aE _ _ _).trans (aA.mono (by simp<;>omega)));have aC:=hid (jUf (w:=w) aB (by simp;omega));have aK:w.heap.size+1<wx.heap.size:=Nat.lt_of_lt_of_le (by simp) aA.size;clear aB aA);refine bodyPost_ret (v:=stV a' rs.length cap) (by simp [results,Tryz.results69,go_sem,c1]) rfl ⟨a',cap,rfl,aD,?_,fun g hg=>(aC.out.2 g hg).1,aJ.out.setCell (by show w.heap.size<=w.heap.size+1;omega) _⟩
 rcases aC.out.1 with h1 | ⟨g,rfl,h1⟩
 ·exact .inl h1
 ·by_cases h0:rs.length=0
  ·exact .inl (by rw [List.eq_nil_of_length_eq_zero h0];rfl)
  ·have:=(aC.out.2 g (qdd _ _ _ h0)).2
   exact .inr ⟨g,rfl,h1.other _ (by show w.heap.size+1≠g;rw [this];simp<;>omega) _⟩
abbrev OpT:=Bool×Int×ByteArray
def Ops (w:World) (a:Option Addr) (rs:List (Bool×Int×ByteArray)):Prop :=
 rs=[]\/∃ b o,a=some ⟨b,o,none⟩/\b<w.heap.size/\∀ i,i<rs.length->w.cell? ⟨b,o+i*3,none⟩=some (.bool (rs.getD i (false,0,ByteArray.empty)).1)/\w.cell? ⟨b,o+i*3+1,none⟩=some (.int .i64 (rs.getD i (false,0,ByteArray.empty)).2.1)/\w.cell? ⟨b,o+i*3+2,none⟩=some (.string (rs.getD i (false,0,ByteArray.empty)).2.2)
theorem Ops.below {w w':World} {a:Option Addr} {rs:List (Bool×Int×ByteArray)} (h:Ops w a rs) (hb:Below w.heap.size w w'):Ops w' a rs:=by
 rcases h with h | ⟨b,o,h1,h2,h3⟩
 ·exact .inl h
 ·exact .inr ⟨b,o,h1,Nat.lt_of_lt_of_le h2 hb.size,fun i hi=>⟨(hb.cell (p:=⟨b,o+i*3,none⟩) h2).trans (h3 i hi).1,(hb.cell (p:=⟨b,o+i*3+1,none⟩) h2).trans (h3 i hi).2.1,(hb.cell (p:=⟨b,o+i*3+2,none⟩) h2).trans (h3 i hi).2.2⟩⟩
theorem Ops.at {w:World} {a:Option Addr} {rs:List (Bool×Int×ByteArray)} (h:Ops w a rs) {k:Nat} (hk:k<rs.length):∃ b o g0 n1 s2,a=some ⟨b,o,none⟩/\w.cell? ⟨b,o+k*3,none⟩=some (.bool g0)/\w.cell? ⟨b,o+k*3+1,none⟩=some (.int .i64 n1)/\w.cell? ⟨b,o+k*3+2,none⟩=some (.string s2)/\Hid ((g0,n1,s2)=rs.getD k (false,0,ByteArray.empty)):=by
 rcases h with h | ⟨b,o,h1,h2,h3⟩
 ·subst h;simp at hk
 ·exact ⟨b,o,_,_,_,h1,(h3 k hk).1,(h3 k hk).2.1,(h3 k hk).2.2,hid rfl⟩
def JFP (rs:List (Bool×Int×ByteArray)):List Value:=rs.flatMap fun x=>[.bool x.1,.int .i64 x.2.1,.string x.2.2]
theorem xfH (a b:List (Bool×Int×ByteArray)):JFP (a++b)=JFP a++JFP b:=by simp [JFP]
theorem JlA (rs:List (Bool×Int×ByteArray)):(JFP rs).length=rs.length*3:=by
 induction rs with
 | nil=>rfl
 | cons x r ih=>simp [JFP] at ih ⊢;omega
theorem yfN:∀ (rs:List (Bool×Int×ByteArray)) (i:Nat),i<rs.length->(JFP rs)[i*3]?=some (.bool (rs.getD i (false,0,ByteArray.empty)).1)/\(JFP rs)[i*3+1]?=some (.int .i64 (rs.getD i (false,0,ByteArray.empty)).2.1)/\(JFP rs)[i*3+2]?=some (.string (rs.getD i (false,0,ByteArray.empty)).2.2)
 | x::r,0,_=>by simp [JFP]
 | x::r,i+1,h=>by
  have ih:=yfN r i (by simpa using h);have e:JFP (x::r)=.bool x.1::.int .i64 x.2.1::.string x.2.2::JFP r:=by simp [JFP]
  rw [e,show (i+1)*3=i*3+3 by omega];simpa using ih
theorem Row.ops {w:World} {g:Nat} {rs:List (Bool×Int×ByteArray)} (h:Row w g (JFP rs)):Ops w (some ⟨g,0,none⟩) rs :=
 .inr ⟨g,0,rfl,h.lt,fun i hi=>by
  rw [Nat.zero_add]
  exact ⟨h.cell _ _ (yfN rs i hi).1,h.cell _ _ (yfN rs i hi).2.1,h.cell _ _ (yfN rs i hi).2.2⟩⟩
structure Dd where
 (C W S L T H F R U O:Int)
 rs:List Pr
 ops:List OpT
def dnV (d:Dd) (a:Option Addr) (c:Nat) (b:Option Addr) (e:Nat):Value:=.agg #[.int .i64 d.C,.int .i64 d.W,.int .i64 d.S,.int .i64 d.L,.int .i64 d.T,.int .i64 d.H,.int .i64 d.F,.int .i64 d.R,.int .i64 d.U,.int .i64 d.O,.slice a d.rs.length c,.slice b d.ops.length e]
def XKU (a:Option Addr) (n:Nat) (b:Option Addr) (m:Nat):Prop:=blk a n=none\/blk b m=none\/blk a n≠blk b m
structure OwnDn (w:World) (rs:List Pr) (ops:List OpT) (a b:Option Addr):Prop where
 s:OwnS w a (qJS rs)
 p:OwnS w b (JFP ops)
 ne:XKU a rs.length b ops.length
theorem OwnDn.below {w w':World} {rs:List Pr} {aA:List OpT} {a b:Option Addr} (h:OwnDn w rs aA a b) (hb:Below w.heap.size w w'):OwnDn w' rs aA a b:=⟨h.s.below hb,h.p.below hb,h.ne⟩
theorem OwnS.prs {w:World} {a:Option Addr} {rs:List Pr} (h:OwnS w a (qJS rs)):Prs w a rs:=by
 rcases h with h | ⟨g,rfl,h⟩
 ·exact .inl (by have:=congrArg List.length h;rw [vzd,List.length_nil] at this;exact List.eq_nil_of_length_eq_zero (by omega))
 ·exact h.prs
theorem OwnS.ops {w:World} {a:Option Addr} {rs:List OpT} (h:OwnS w a (JFP rs)):Ops w a rs:=by
 rcases h with h | ⟨g,rfl,h⟩
 ·exact .inl (by have:=congrArg List.length h;rw [JlA,List.length_nil] at this;exact List.eq_nil_of_length_eq_zero (by omega))
 ·exact h.ops
theorem x1g {rs:List Pr} (h:rs.length≠0):qJS rs≠[]:=fun e=>h (by have:=congrArg List.length e;rw [vzd,List.length_nil] at this;omega)
theorem Xnn {rs:List Pr} (h:qJS rs≠[]):rs.length≠0:=fun e=>h (by rw [List.eq_nil_of_length_eq_zero e];rfl)
theorem JFT {rs:List OpT} (h:JFP rs≠[]):rs.length≠0:=fun e=>h (by rw [List.eq_nil_of_length_eq_zero e];rfl)
def vx0 (w w':World) (x:Ending) (d:Dd):Prop:=∃ a c b e,x=.returned (dnV d a c b e)/\d.rs.length<=c/\OwnDn w' d.rs d.ops a b/\(∀ g,blk a d.rs.length=some g->w.heap.size<=g)/\(∀ g,blk b d.ops.length=some g->w.heap.size<=g)/\Below w.heap.size w w'
def noD (C:Int):Dd:=⟨C,0,0,0,0,0,0,0,0,0,[],[]⟩
theorem OwnS.set' {w:World} {a:Option Addr} {cs:List Value} (h:OwnS w a cs) (p:Addr) (hp:∀ g,a=some ⟨g,0,none⟩->cs≠[]->p.block≠g) (v:Value):OwnS (w.setCell p v) a cs:=by
 by_cases h0:cs=[]
 ·exact .inl h0
 ·obtain ⟨g,rfl,hr⟩:=h.resolve_left h0
  exact .inr ⟨g,rfl,hr.other p (hp g rfl h0) v⟩
theorem OwnS.alloc' {w:World} {a:Option Addr} {cs:List Value} (h:OwnS w a cs) (o:Obj):OwnS (w.alloc o) a cs:=h.below ((Below.refl _ _).alloc (Nat.le_refl _) _)
theorem j6Q {w:World} {A:Array Value} {t:TypeId} {g:Nat} (hg:w.heap.size=g):Row (w.alloc (.cells A t)) g A.toList:=by subst hg;exact xER w A t
theorem qJx {w w':World} {x:Ending} {C:Int} {a b:Option Addr} {c e:Nat} (hx:x=.returned (dnV (noD C) a c b e)) (hb:Below w.heap.size w w'):vx0 w w' x (noD C) :=
 ⟨a,c,b,e,hx,Nat.zero_le _,⟨.inl rfl,.inl rfl,.inl rfl⟩,fun g h=>(by cases h),fun g h=>(by cases h),hb⟩
end Go.Proofs.YtehbpeinnepdcaaGreatDoor
namespace Go.Proofs.YtehbpeinnepdcaaGreatDoor
open Go.Shelf
def kpc (a b:ByteArray):Int:=Lib.compareBytes a.data.toList b.data.toList
end Go.Proofs.YtehbpeinnepdcaaGreatDoor
namespace Go.Proofs.YtehbpeinnepdcaaGreatDoor
open Go.RowKit Go.Sort
theorem J6g (a b:UInt8) (h1:¬ a<b) (h2:¬ b<a):a=b:=by
 apply UInt8.toNat_inj.1
 rw [UInt8.lt_iff_toNat_lt] at h1 h2;omega
theorem x9b:∀ (x y:List UInt8),Lib.compareBytes x y<0<->x<y
 | [],[]=>by simp [Lib.compareBytes]
 | [],b::l2=>by simp [Lib.compareBytes]
 | a::l,[]=>by simp [Lib.compareBytes]
 | a::l,b::l2=>by
  rw [List.cons_lt_cons_iff];unfold Lib.compareBytes
  split
  ·rename_i h;simp [h]
  ·rename_i h
   split
   ·rename_i h2
    have hne:¬ a=b:=fun e=>by subst e;exact h h2
    simp [h,hne]
   ·rename_i h2
    have e:=J6g a b h h2;subst e;rw [x9b l l2];simp [h]
theorem jMR:∀ (x y:List UInt8),Lib.compareBytes x y=0<->x=y
 | [],[]=>by simp [Lib.compareBytes]
 | [],b::l2=>by simp [Lib.compareBytes]
 | a::l,[]=>by simp [Lib.compareBytes]
 | a::l,b::l2=>by
  unfold Lib.compareBytes
  split
  ·rename_i h
   have hne:¬ a=b:=fun e=>by subst e;rw [UInt8.lt_iff_toNat_lt] at h;omega
   simp [hne]
  ·rename_i h
   split
   ·rename_i h2
    have hne:¬ a=b:=fun e=>by subst e;exact h h2
    simp [hne]
   ·rename_i h2
    have e:=J6g a b h h2;subst e;rw [jMR l l2];simp
theorem kHw (a b:ByteArray):kpc a b<0<->Op.bytesLess a.toList b.toList=true:=by
 unfold kpc;rw [x9b,bytesLess_eq,decide_eq_true_eq,ByteArray.toList_eq,ByteArray.toList_eq]
theorem Z1R (a b:ByteArray):kpc a b=0<->a=b:=by
 unfold kpc;rw [jMR]
 constructor
 ·intro h;exact ByteArray.ext (Array.ext' h)
 ·intro h;rw [h]
def kAt (rs:List (ByteArray×ByteArray)) (t:Nat):ByteArray:=(rs.getD t (ByteArray.empty,ByteArray.empty)).1
end Go.Proofs.YtehbpeinnepdcaaGreatDoor
namespace Go.Proofs.YtehbpeinnepdcaaGreatDoor
open Go.RowKit Go.Sort
theorem kaW (a b c:ByteArray) (h1:kpc a b<0) (h2:kpc b c<0):kpc a c<0:=by
 unfold kpc at *;rw [x9b] at *;exact List.lt_trans h1 h2
theorem zRg {rs:List (ByteArray×ByteArray)} (h:z0q rs=true) (i:Nat) (hi:i+1<rs.length):kpc (kAt rs i) (kAt rs (i+1))<0:=by
 have:=(Jne h).2 (i+1) hi;unfold jq0 klt at this;simp only [Nat.add_sub_cancel,Bool.and_eq_true,Bool.or_eq_true,decide_eq_true_eq] at this;rw [kHw];rcases this.2 with h | h
 ·omega
 ·exact h
theorem asc {rs:List (ByteArray×ByteArray)} (h:z0q rs=true) (t:Nat):∀ d,t+d+1<rs.length->kpc (kAt rs t) (kAt rs (t+d+1))<0
 | 0,hd=>zRg h t hd
 | d+1,hd=>kaW _ _ _ (asc h t d (by omega)) (zRg h (t+d+1) hd)
theorem ypw {rs:List (ByteArray×ByteArray)} (h:z0q rs=true) {t u:Nat} (aA:t<u) (hu:u<rs.length):kpc (kAt rs t) (kAt rs u)<0:=by
 obtain ⟨d,rfl⟩:∃ d,u=t+d+1:=⟨u-t-1,by omega⟩;exact asc h t d hu
end Go.Proofs.YtehbpeinnepdcaaGreatDoor
namespace Go.Proofs.YtehbpeinnepdcaaGreatDoor
open Go.RowKit Go.Sort
theorem xoV:∀ (x y:List UInt8),0<Lib.compareBytes x y->Lib.compareBytes y x<0
 | [],[]=>by simp [Lib.compareBytes]
 | [],b::l2=>by simp [Lib.compareBytes]
 | a::l,[]=>by simp [Lib.compareBytes]
 | a::l,b::l2=>by
  unfold Lib.compareBytes;intro h
  by_cases h1:a<b
  ·simp [h1] at h
  ·by_cases h2:b<a
   ·simp [h2]
   ·simp only [h1,h2,if_false] at h ⊢
    exact xoV l l2 h
theorem QCX {a b:ByteArray} (h:0<kpc a b):klt b a=true:=by
 have:=xoV _ _ h;exact (kHw b a).1 this
theorem zB6 (a:ByteArray):kpc a a=0:=(Z1R a a).2 rfl
theorem y6a {a b:ByteArray} (h:kpc a b<0):klt b a=false:=by
 cases hk:klt b a with
 | false=>rfl
 | true =>
  have h2:kpc b a<0:=(kHw b a).2 hk;have h3:=kaW a b a h h2;rw [zB6] at h3;omega
theorem X7b (a:ByteArray):klt a a=false:=by
 cases hk:klt a a with
 | false=>rfl
 | true =>
  have h2:kpc a a<0:=(kHw a a).2 hk;rw [zB6] at h2;omega
def xIY (aA aB:ByteArray) (st:Bool×List Pr) (p:Pr):Bool×List Pr :=
 if p.1=aA then (if (!st.1 && klt aA p.1)=true then (true,st.2++[(aA,aB)]) else st)
 else (if (!st.1 && klt aA p.1)=true then (true,st.2++[(aA,aB)]++[p]) else (st.1,st.2++[p]))
def chW (c:Ch) (rs:List Pr):Bool×List Pr:=rs.foldl (xIY c.1 c.2.1) (c.2.2,[])
def chF (c:Ch) (rs:List Pr):List Pr:=if (chW c rs).1=true then (chW c rs).2 else (chW c rs).2++[(c.1,c.2.1)]
theorem Jii (c:Ch) (rs:List Pr) (p:Pr):chW c (rs++[p])=xIY c.1 c.2.1 (chW c rs) p:=by unfold chW;rw [List.foldl_append];rfl
def Jdv (rs:List Pr):Prop:=rs.Pairwise fun x y=>kpc x.1 y.1<0
theorem knK (aA aB:ByteArray):∀ (l:List Pr) (g:Bool) (out:List Pr),(∀ x∈l,kpc x.1 aA<0)->l.foldl (xIY aA aB) (g,out)=(g,out++l)
 | [],g,out,_=>by simp
 | x::l,g,out,h=>by
  have hx:=h x List.mem_cons_self
  have hne:¬ x.1=aA:=fun e=>by rw [e,zB6] at hx;omega
  rw [List.foldl_cons,xIY,if_neg hne,y6a hx,Bool.and_false,if_neg (by simp)];rw [knK aA aB l g (out++[x]) (fun y hy=>h y (List.mem_cons_of_mem _ hy)),List.append_assoc];rfl
theorem JIO (aA aB:ByteArray):∀ (l:List Pr) (out:List Pr),(∀ x∈l,0<kpc x.1 aA)->l.foldl (xIY aA aB) (true,out)=(true,out++l)
 | [],out,_=>by simp
 | x::l,out,h=>by
  have hx:=h x List.mem_cons_self
  have hne:¬ x.1=aA:=fun e=>by rw [e,zB6] at hx;omega
  rw [List.foldl_cons,xIY,if_neg hne,if_neg (by simp)];rw [JIO aA aB l (out++[x]) (fun y hy=>h y (List.mem_cons_of_mem _ hy)),List.append_assoc];rfl
def XvE (c:Ch) (a r:List Pr):List Pr:=a++(if c.2.2=true then [] else [(c.1,c.2.1)])++r
theorem ys8 (c:Ch) (a m r:List Pr) (ha:∀ x∈a,kpc x.1 c.1<0) (hm:m=[]\/∃ v,m=[(c.1,v)]) (hr:∀ x∈r,0<kpc x.1 c.1):chF c (a++m++r)=XvE c a r:=by
 obtain ⟨aA,aB,g⟩:=c
 have e1:chW (aA,aB,g) (a++m++r)=r.foldl (xIY aA aB) (g,a):=by
  unfold chW;rw [List.append_assoc,List.foldl_append,knK aA aB a g [] ha,List.nil_append,List.foldl_append];rcases hm with rfl | ⟨v,rfl⟩
  ·rfl
  ·rw [List.foldl_cons,List.foldl_nil,xIY,if_pos rfl,X7b,Bool.and_false,if_neg (by simp)]
 unfold chF XvE;rw [e1]
 cases g with
 | true=>rw [JIO aA aB r a hr];simp
 | false =>
  cases r with
  | nil=>simp
  | cons x l =>
   have hx:=hr x List.mem_cons_self
   have aC:¬ x.1=aA:=fun e=>by rw [e,zB6] at hx;omega
   rw [List.foldl_cons,xIY,if_neg aC];simp only [Bool.not_false,Bool.true_and];rw [QCX hx,if_pos rfl,JIO aA aB l _ (fun y hy=>hr y (List.mem_cons_of_mem _ hy))];simp
theorem XUn (c:Ch) (a m r:List Pr) (h:Jdv (a++m++r)) (ha:∀ x∈a,kpc x.1 c.1<0) (hr:∀ x∈r,0<kpc x.1 c.1):Jdv (XvE c a r):=by
 unfold Jdv XvE at *;rw [List.pairwise_append,List.pairwise_append] at h;obtain ⟨⟨h1,h2,h3⟩,h4,h5⟩:=h
 have aA:∀ x∈a,∀ y∈r,kpc x.1 y.1<0:=fun x hx y hy=>h5 x (List.mem_append_left _ hx) y hy
 have aB:∀ y∈r,kpc c.1 y.1<0:=fun y hy=>(kHw _ _).2 (QCX (hr y hy))
 by_cases hg:c.2.2=true
 ·rw [if_pos hg,List.append_nil,List.pairwise_append]
  exact ⟨h1,h4,aA⟩
 ·rw [if_neg hg,List.pairwise_append,List.pairwise_append]
  refine ⟨⟨h1,by simp,fun x hx y hy=>?_⟩,h4,fun x hx y hy=>?_⟩
  ·simp at hy;subst hy;exact ha x hx
  ·rw [List.mem_append] at hx
   rcases hx with hx | hx
   ·exact aA x hx y hy
   ·simp at hx;subst hx;exact aB y hy
theorem QVn {α:Type} (rs:List α) (i:Nat) (h:i<rs.length) {d:α}:rs.getD i d=rs[i]:=by simp [List.getD,h]
theorem zMA {rs:List Pr} (h:z0q rs=true):Jdv rs:=by
 unfold Jdv;rw [List.pairwise_iff_getElem];intro i j hi hj aA;have:=ypw h aA hj;unfold kAt at this
 rwa [QVn _ _ hi,QVn _ _ hj] at this
def apU (rs:List Pr) (b:List Ch):List Pr:=b.foldl (fun s c=>chF c s) rs
theorem JDX (rs:List Pr) (b:List Ch) (c:Ch):apU rs (b++[c])=chF c (apU rs b):=by unfold apU;rw [List.foldl_append];rfl
def apC (rs:List Pr) (b:List Ch):Int:=if (z0q rs && kpJ b)=true then (if (apU rs b).length<=100 then 0 else 2) else 1
def apR (rs:List Pr) (b:List Ch):List Pr:=if apC rs b=0 then apU rs b else []
theorem xzP (c:Ch):∀ (rs:List Pr) (k:Nat),k=rs.length->(chW c rs).2.length<=rs.length+(if (chW c rs).1=true/\c.2.2=false then 1 else 0)/\(c.2.2=true->(chW c rs).1=true)
 | rs,0,hk=>by rw [List.eq_nil_of_length_eq_zero hk.symm];simp [chW]
 | rs,k+1,hk=>by
  obtain ⟨b,bs,rfl⟩:∃ b bs,rs=bs++[b]:=by
   rcases List.eq_nil_or_concat rs with h | ⟨l,a,h⟩
   ·subst h;simp at hk
   ·exact ⟨a,l,by simpa using h⟩
  have ih:=xzP c bs k (by simp at hk;omega);rw [Jii];obtain ⟨aA,aC,g⟩:=c;generalize chW (aA,aC,g) bs=st at ih ⊢;obtain ⟨d,out⟩:=st;unfold xIY;rw [List.length_append,List.length_singleton];have aB:=X7b aA
  cases d<;>cases hk2:klt aA b.1<;>by_cases he:b.1=aA<;>cases g<;>simp [he,hk2,aB] at ih hk2 ⊢<;>omega
theorem qBV (c:Ch) (rs:List Pr):(chF c rs).length<=rs.length+1:=by
 have:=(xzP c rs _ rfl).1;unfold chF
 split
 ·split at this<;>omega
 ·rename_i h
  rw [if_neg (fun e=>h e.1)] at this;rw [List.length_append];simp;omega
theorem Q4i (rs:List Pr) (b:List Ch):∀ k,(apU rs (b.take k)).length<=rs.length+k
 | 0=>by simp [apU]
 | k+1=>by
  have ih:=Q4i rs b k
  by_cases h:k<b.length
  ·rw [List.take_succ_eq_append_getElem h,JDX]
   have:=qBV b[k] (apU rs (b.take k));omega
  ·rw [List.take_of_length_le (by omega)] at ih ⊢
   omega
end Go.Proofs.YtehbpeinnepdcaaGreatDoor
namespace Go.Proofs.YtehbpeinnepdcaaGreatDoor
open Go.RowKit Go.Sort
theorem JNB {a b:ByteArray} (h:kpc a b<0):0<kpc b a:=by
 rcases Int.lt_trichotomy (kpc b a) 0 with h1 | h1 | h1
 ·have:=kaW a b a h h1
  rw [zB6] at this;omega
 ·have:=(Z1R _ _).1 h1
  subst this;rw [zB6] at h;omega
 ·exact h1
theorem ZaP (rs:List Pr):z0q rs=true<->rs.length<=100/\(∀ x∈rs,kOk x.1=true/\vOk x.2=true)/\Jdv rs:=by
 constructor
 ·intro h
  obtain ⟨h1,h2⟩:=Jne h;refine ⟨h1,fun x hx=>?_,zMA h⟩;obtain ⟨i,hi,rfl⟩:=List.getElem_of_mem hx;have:=h2 i hi;unfold jq0 at this;rw [QVn _ _ hi] at this;simp only [Bool.and_eq_true] at this;exact this.1
 ·rintro ⟨h1,h2,h3⟩
  refine qjV h1 (fun k hk=>?_);unfold jq0;have hm:=h2 _ (List.getElem_mem hk);rw [QVn _ _ hk,hm.1,hm.2]
  by_cases h0:k=0
  ·simp [h0]
  ·have aA:k-1<rs.length:=by omega
   rw [QVn _ _ aA];unfold Jdv at h3;rw [List.pairwise_iff_getElem] at h3;have:=h3 (k-1) k aA hk (by omega);have h4:klt rs[k-1].1 rs[k].1=true:=(kHw _ _).1 this;simp [h4]
theorem zJJ (aA:ByteArray):∀ (rs:List Pr),Jdv rs->∃ a m r,rs=a++m++r/\(∀ x∈a,kpc x.1 aA<0)/\(m=[]\/∃ v,m=[(aA,v)])/\(∀ x∈r,0<kpc x.1 aA)
 | [],_=>⟨[],[],[],rfl,by simp,.inl rfl,by simp⟩
 | x::l,h=>by
  unfold Jdv at h;rw [List.pairwise_cons] at h;rcases Int.lt_trichotomy (kpc x.1 aA) 0 with h1 | h1 | h1
  ·obtain ⟨a,m,r,e,ha,hm,hr⟩:=zJJ aA l h.2
   refine ⟨x::a,m,r,by rw [e];rfl,fun y hy=>?_,hm,hr⟩;rcases List.mem_cons.1 hy with rfl | hy
   ·exact h1
   ·exact ha y hy
  ·have e:=(Z1R _ _).1 h1
   refine ⟨[],[x],l,rfl,by simp,.inr ⟨x.2,by rw [<-e]⟩,fun y hy=>?_⟩;rw [<-e];exact JNB (h.1 y hy)
  ·refine ⟨[],[],x::l,rfl,by simp,.inl rfl,fun y hy=>?_⟩
   rcases List.mem_cons.1 hy with rfl | hy
   ·exact h1
   ·have h2:kpc aA x.1<0:=(kHw _ _).2 (QCX h1)
    exact JNB (kaW _ _ _ h2 (h.1 y hy))
theorem jsG (c:Ch) (rs:List Pr) (h:Jdv rs):∃ a m r,rs=a++m++r/\(∀ x∈a,kpc x.1 c.1<0)/\(m=[]\/∃ v,m=[(c.1,v)])/\(∀ x∈r,0<kpc x.1 c.1)/\chF c rs=XvE c a r:=by
 obtain ⟨a,m,r,e,ha,hm,hr⟩:=zJJ c.1 rs h;exact ⟨a,m,r,e,ha,hm,hr,by rw [e];exact ys8 c a m r ha hm hr⟩
theorem kDg (c:Ch) (rs:List Pr) (h:Jdv rs):Jdv (chF c rs):=by
 obtain ⟨a,m,r,e,ha,hm,hr,hc⟩:=jsG c rs h;rw [hc];rw [e] at h;exact XUn c a m r h ha hr
theorem Qe4 (c:Ch) (rs:List Pr) (h:Jdv rs):∀ x∈chF c rs,x∈rs\/(x=(c.1,c.2.1)/\c.2.2=false):=by
 obtain ⟨a,m,r,e,ha,hm,hr,hc⟩:=jsG c rs h;rw [hc];intro x hx;unfold XvE at hx;rw [List.mem_append,List.mem_append] at hx;rcases hx with (hx | hx) | hx
 ·exact .inl (by rw [e];simp [hx])
 ·split at hx
  ·simp at hx
  ·rename_i hg
   simp at hx;exact .inr ⟨hx,by simpa using hg⟩
 ·exact .inl (by rw [e];simp [hx])
theorem Z2H (rs:List Pr) (h:Jdv rs):∀ (b:List Ch),Jdv (apU rs b):=by
 intro b;unfold apU
 induction b generalizing rs with
 | nil=>exact h
 | cons c l ih=>exact ih _ (kDg c rs h)
theorem qED (rs:List Pr) (h:Jdv rs):∀ (b:List Ch),∀ x∈apU rs b,x∈rs\/∃ c∈b,x=(c.1,c.2.1):=by
 intro b;unfold apU
 induction b generalizing rs with
 | nil=>exact fun x hx=>.inl hx
 | cons c l ih =>
  intro x hx;rcases ih _ (kDg c rs h) x hx with h1 | ⟨c',h1,h2⟩
  ·rcases Qe4 c rs h x h1 with h3 | h3
   ·exact .inl h3
   ·exact .inr ⟨c,List.mem_cons_self,h3.1⟩
  ·exact .inr ⟨c',List.mem_cons_of_mem _ h1,h2⟩
theorem vBC {c:Ch} (h:yO3 c=true):kOk c.1=true/\vOk c.2.1=true:=by
 unfold yO3 at h;simp only [Bool.and_eq_true] at h;exact h.1
theorem yf3 {rs:List Pr} {b:List Ch} (h:apC rs b=0):z0q rs=true/\kpJ b=true/\(apU rs b).length<=100:=by
 unfold apC at h
 split at h
 ·rename_i h1
  simp only [Bool.and_eq_true] at h1
  split at h
  ·rename_i h2;exact ⟨h1.1,h1.2,h2⟩
  ·cases h
 ·cases h
theorem jZe {rs:List Pr} {b:List Ch} (h:apC rs b=0):z0q (apU rs b)=true:=by
 obtain ⟨h1,h2,h3⟩:=yf3 h;obtain ⟨_,k2,k3⟩:=(ZaP rs).1 h1;refine (ZaP _).2 ⟨h3,fun x hx=>?_,Z2H rs k3 b⟩;rcases qED rs k3 b x hx with h4 | ⟨c,h4,rfl⟩
 ·exact k2 x h4
 ·exact vBC ((q4Z h2).2 c h4)
end Go.Proofs.YtehbpeinnepdcaaGreatDoor
namespace Go.Proofs.YtehbpeinnepdcaaGreatDoor
open Go
section
variable {P:Program} {ops:Array Oper} {Q:Exit->Act->World->Prop} {md:Region.Mode} {S:World->Prop} {z:Nat}
def jvl (P:Program) (md:Region.Mode) (ops:Array Oper) (Q:Exit->Act->World->Prop) (S:World->Prop) (z:Nat):Nat->Array Bool->Act->World->Prop
 | 0,listed,a,w=>Region.ready md ops listed=[]/\Q .normal a w
 | fuel+1,listed,a,w =>
  (Region.ready md ops listed=[]->Q .normal a w) /\
  ∀ i∈Region.ready md ops listed,wpOp P ops Q i (fun a' w'=>(i≠z->S w')/\jvl P md ops Q S z fuel (listed.setIfInBounds i true) a' w') a w
theorem ynP:∀ (aB:Nat) (aA:Array Bool) (a:Act) (w:World),jvl P md ops Q S z aB aA a w->wpAny P md ops Q aB aA a w
 | 0,_,_,_,h=>h
 | aB+1,_,_,_,h=>⟨h.1,fun i hi=>wpOp_mono (fun a' w' h'=>ynP aB _ a' w' h'.2) (h.2 i hi)⟩
theorem xH6 {i:Nat} {oi:Oper} {v:Value} (hi:ops[i]?=some oi) (aH:∀ (j:Nat) (o:Oper) cs b,ops[j]?=some o->o.op≠.select cs b)
  (hQ:∀ c a w,Q (.panic c) (a.put oi.dst v) w->Q (.panic c) a w) (hz:i≠z) (hl:∀ oz,ops[z]?=some oz->∃ e∈oz.after,Region.binds md e=true/\e.on=i) :
  ∀ (aB:Nat) (aA:Array Bool) (a:Act) (w:World),
   (∀ j oj,ops[j]?=some oj->j≠i->aA.getD j true=false->(∀ e∈oj.after,Region.binds md e=true->e.on≠i)->oi.apart ops oj=true) ->
   i∈Region.ready md ops aA->YieldsIf P ops S oi v a->S w ->
   jvl P md ops Q S z aB (aA.setIfInBounds i true) (a.put oi.dst v) w->jvl P md ops Q S z (aB+1) aA a w:=by
 intro aB
 induction aB with
 | zero =>
  intro aA a w _ hr hy hS H;refine ⟨fun h=>(by rw [h] at hr;cases hr),fun j hj=>?_⟩
  by_cases aD:j=i
  ·subst aD;exact hy.wpOp hi hS ⟨fun _=>hS,H⟩
  ·have:=ready_mono hj aD
   rw [H.1] at this
   cases this
 | succ aB ih =>
  intro aA a w aC hr hy hS H;refine ⟨fun h=>(by rw [h] at hr;cases hr),fun j hj=>?_⟩
  by_cases aD:j=i
  ·subst aD;exact hy.wpOp hi hS ⟨fun _=>hS,H⟩
  ·have h1:=H.2 j (ready_mono hj aD)
   obtain ⟨aF,oj,aI,aJ⟩:=mem_ready.1 hj
   have aG:∀ e∈oj.after,Region.binds md e=true->e.on≠i:=fun e he hb aM=>by
    have h1:=aJ e he hb;have h0:=(mem_ready.1 hr).1;rw [aM] at h1;rcases Nat.lt_or_ge i aA.size with h' | h'
    ·simp [h'] at h0 h1;rw [h0] at h1;cases h1
    ·simp [Array.getElem?_eq_none h'] at h1
   have aN:j≠z:=fun e=>by
    subst e;obtain ⟨x,hx,hb,ho⟩:=hl oj aI;exact aG x hx hb ho
   have h2:=wpOp_putIf aI (aC j oj aI aD aF aG) (fun cs b=>aH i oi cs b hi) (fun cs b=>aH j oj cs b aI) hQ hy (wpOp_mono (fun a' w' h'=>(⟨h'.1 aN,h'.2⟩:S w'/\_)) h1)
   have aE:∀ k ok,ops[k]?=some ok->k≠i->(aA.setIfInBounds j true).getD k true=false ->
     (∀ e∈ok.after,Region.binds md e=true->e.on≠i)->oi.apart ops ok=true:=fun k ok hk aO aL aP=>by
    refine aC k ok hk aO ?_ aP
    by_cases aK:j=k
    ·subst aK;exact aF
    ·rw [getD_set_ne true aK] at aL;exact aL
   refine wpOp_mono (fun a' w' h3=>⟨fun _=>h3.2.1,ih (aA.setIfInBounds j true) a' w' aE (ready_mono hr (Ne.symm aD)) h3.1 h3.2.1 ?_⟩) h2;rw [Array.setIfInBounds_comm _ _ aD];exact h3.2.2
def Q5Q (md:Region.Mode) (ops:Array Oper) (z i:Nat):Bool:=i != z && (match ops[z]? with | some o=>o.after.any fun e=>Region.binds md e && e.on == i | none=>true)
theorem Qoj {i:Nat} {oi:Oper} {v:Value} {aB:Nat} {aA:Array Bool} {a:Act} {w:World} (hi:ops[i]?=some oi)
  (hs:Region.noSelect ops=true) (hf:Region.free md ops aA i=true) (hr:(Region.ready md ops aA).contains i=true) (hz:Q5Q md ops z i=true)
  (hQ:∀ c a w,Q (.panic c) (a.put oi.dst v) w->Q (.panic c) a w) (hy:YieldsIf P ops S oi v a) (hS:S w)
  (h:jvl P md ops Q S z aB (aA.setIfInBounds i true) (a.put oi.dst v) w):jvl P md ops Q S z (aB+1) aA a w:=by
 unfold Q5Q at hz;rw [Bool.and_eq_true] at hz;refine xH6 hi (Region.noSelect_spec hs) hQ (by simpa using hz.1) (fun oz ho=>?_) aB aA a w (Region.free_spec hi hf) (by simpa using hr) hy hS h;have h2:=hz.2;rw [ho] at h2;obtain ⟨e,he,h3⟩:=Array.any_eq_true'.1 h2;rw [Bool.and_eq_true] at h3;exact ⟨e,he,h3.1,by simpa using h3.2⟩
def AllReadyT (P:Program) (md:Region.Mode) (ops:Array Oper) (Q:Exit->Act->World->Prop) (S:World->Prop) (z:Nat) (aB:Nat) (aA:Array Bool) (a:Act) (w:World) (rs:List Nat):Prop :=
 ∀ i∈rs,wpOp P ops Q i (fun a' w'=>(i≠z->S w')/\jvl P md ops Q S z aB (aA.setIfInBounds i true) a' w') a w
theorem AllReadyT.nil {aB:Nat} {aA:Array Bool} {a:Act} {w:World}:AllReadyT P md ops Q S z aB aA a w []:=fun _ h=>by cases h
theorem AllReadyT.cons {aB:Nat} {aA:Array Bool} {a:Act} {w:World} {i:Nat} {o:Oper} {rs:List Nat} (ho:ops[i]?=some o)
  (h:∀ K':Act->World->Prop,Shut (∀ a w,S w->(S w->jvl P md ops Q S z aB (aA.setIfInBounds i true) a w)->K' a w)->if Region.wanted o (yielded ops a.tmps)=true then Oper.wp P o a w K' Q else K' (a.put o.dst undef) w)
  (hs:AllReadyT P md ops Q S z aB aA a w rs):AllReadyT P md ops Q S z aB aA a w (i::rs):=fun j hj=>by
 rcases List.mem_cons.1 hj with rfl | hj
 ·exact wpOp_step ho (fun K' hK=>h K' (fun a w hS hW=>hK a w ⟨fun _=>hS,hW hS⟩))
 ·exact hs j hj
theorem AllReadyT.last {aB:Nat} {aA:Array Bool} {a:Act} {w:World} {o:Oper} (ho:ops[z]?=some o)
  (h:∀ K':Act->World->Prop,Shut (∀ a w,True->(True->jvl P md ops Q S z aB (aA.setIfInBounds z true) a w)->K' a w)->if Region.wanted o (yielded ops a.tmps)=true then Oper.wp P o a w K' Q else K' (a.put o.dst undef) w):AllReadyT P md ops Q S z aB aA a w [z]:=fun j hj=>by
 rw [List.mem_singleton] at hj;subst hj;exact wpOp_step ho (fun K' hK=>h K' (fun a w _ hW=>hK a w ⟨fun k=>absurd rfl k,hW trivial⟩))
theorem kPc {rs:List Nat} {aB:Nat} {aA:Array Bool} {a:Act} {w:World} (hr:Region.ready md ops aA=rs) (aC:rs≠[])
  (h:AllReadyT P md ops Q S z aB aA a w rs):jvl P md ops Q S z (aB+1) aA a w:=⟨fun h0=>absurd (hr ▸ h0) aC,hr ▸ h⟩
theorem kgn {aA:Array Bool} {a:Act} {w:World} (hr:Region.ready md ops aA=[]) (h:Q .normal a w) :
  ∀ aB,jvl P md ops Q S z aB aA a w
 | 0=>⟨hr,h⟩
 | _+1=>⟨fun _=>h,by rw [hr];simp⟩
theorem yO4 {id:Nat} {a:Act} {w:World} (z:Nat) (hm:P.follows .mixedOrders=true) (hS:S w.drew)
  (h:S w.drew->jvl P .any ops Q S z ops.size (Array.replicate ops.size false) a w.drew):(Code.region id ops true).wp P Q a w :=
 wp_region_any hm (ynP _ _ _ _ (h hS))
end
end Go.Proofs.YtehbpeinnepdcaaGreatDoor
namespace Go.Proofs.YtehbpeinnepdcaaGreatDoor
open Go Go.RowKit
theorem TKT {P:Program} {ops:Array Oper} {Q:Exit->Act->World->Prop} {md:Region.Mode} {S:World->Prop} {z:Nat} (i:Nat) {oi:Oper} (v:Value) {aB:Nat} {aA:Array Bool} {a:Act} {w:World} (hi:ops[i]?=some oi) (hy:YieldsIf P ops S oi v a) (hS:S w)
  (h:jvl P md ops Q S z aB (aA.setIfInBounds i true) (a.put oi.dst v) w) (hs:Region.noSelect ops=true:=by kernel_rfl) (hf:Region.free md ops aA i=true:=by kernel_rfl) (hr:(Region.ready md ops aA).contains i=true:=by kernel_rfl) (hz:Q5Q md ops z i=true:=by kernel_rfl)
  (hQ:∀ c a w,Q (.panic c) (a.put oi.dst v) w->Q (.panic c) a w:=by exact fun _ _ _ h=>h):jvl P md ops Q S z (aB+1) aA a w:=Qoj hi hs hf hr hz hQ hy hS h
theorem TYT {P:Program} {ops:Array Oper} {Q:Exit->Act->World->Prop} {md:Region.Mode} {S:World->Prop} {z:Nat} (i:Nat) {oi:Oper} (v:Value) {aB:Nat} {aA:Array Bool} {a:Act} {w:World} (hi:ops[i]?=some oi) (hS:S w)
  (h:jvl P md ops Q S z aB (aA.setIfInBounds i true) (a.put oi.dst v) w) (hy:YieldsIf P ops S oi v a:=by exact Or.inl ⟨by rfl,fun w hw=>by (repeat (obtain ⟨_,hw⟩:=hw));go_simp⟩) (hs:Region.noSelect ops=true:=by kernel_rfl) (hf:Region.free md ops aA i=true:=by kernel_rfl) (hr:(Region.ready md ops aA).contains i=true:=by kernel_rfl) (hz:Q5Q md ops z i=true:=by kernel_rfl)
  (hQ:∀ c a w,Q (.panic c) (a.put oi.dst v) w->Q (.panic c) a w:=by exact fun _ _ _ h=>h):jvl P md ops Q S z (aB+1) aA a w:=Qoj hi hs hf hr hz hQ hy hS h
theorem RDT {P:Program} {ops:Array Oper} {Q:Exit->Act->World->Prop} {md:Region.Mode} {S:World->Prop} {z:Nat} {aB:Nat} {aA:Array Bool} {a:Act} {w:World} (i:Nat) {o:Oper} (ho:ops[i]?=some o)
  (h:∀ K':Act->World->Prop,Shut (∀ a w,S w->(S w->jvl P md ops Q S z aB (aA.setIfInBounds i true) a w)->K' a w)->if Region.wanted o (yielded ops a.tmps)=true then Oper.wp P o a w K' Q else K' (a.put o.dst undef) w)
  (hr:Region.ready md ops aA=[i]:=by kernel_rfl):jvl P md ops Q S z (aB+1) aA a w:=kPc hr (by simp) (AllReadyT.cons ho h AllReadyT.nil)
end Go.Proofs.YtehbpeinnepdcaaGreatDoor
namespace Go.Proofs.YtehbpeinnepdcaaGreatDoor
open Go.RowKit
structure Grow (wS wr:World) (g0:Option Nat) (base:Nat) (e:TypeId) (size:Nat) (v:Value) (n:Nat) (xs:List Value):Prop where
 own:wr.ownsRow base e size v n xs
 gb:wS.grownBy wr g0
 at_:∀ k,v.ownBlock=some k->g0=some k\/wS.heap.size<=k
theorem Grow.start {w:World} {base:Nat} {e:TypeId} {size:Nat} {v:Value} {n:Nat} {xs:List Value} (h:w.ownsRow base e size v n xs):Grow w w v.ownBlock base e size v n xs:=⟨h,World.grownBy.refl _ _,fun k hk=>.inl hk⟩
theorem Grow.below {wS wr w':World} {g0:Option Nat} {base:Nat} {e:TypeId} {size:Nat} {v:Value} {n:Nat} {xs:List Value} (h:Grow wS wr g0 base e size v n xs) (hb:Below wr.heap.size wr w'):Grow wS w' g0 base e size v n xs :=
 ⟨jcb h.own hb,⟨hb.os.trans h.gb.os,hb.tape.trans h.gb.tape,hb.output.trans h.gb.output,Nat.le_trans h.gb.size hb.size,fun k hk aA=>(hb.block k (Nat.lt_of_lt_of_le hk h.gb.size)).trans (h.gb.block k hk aA)⟩,h.at_⟩
theorem ybR {wS wr w9:World} {g0 r:Option Nat} (h:wS.grownBy wr g0) (hg:wr.grownBy w9 r) (hr:∀ k,r=some k->g0=some k\/wS.heap.size<=k):wS.grownBy w9 g0 :=
 ⟨hg.os.trans h.os,hg.tape.trans h.tape,hg.output.trans h.output,Nat.le_trans h.size hg.size,fun k hk aA=>(hg.block k (Nat.lt_of_lt_of_le hk h.size) (fun e=>by
  rcases hr k e.symm with h1 | h1
  ·exact aA h1.symm
  ·omega)).trans (h.block k hk aA)⟩
theorem Grow.push {wS wr w9:World} {g0:Option Nat} {base:Nat} {e:TypeId} {size:Nat} {v v9:Value} {n n9 H:Nat} {xs aB:List Value} (h:Grow wS wr g0 base e size v n xs) (aA:w9.ownsRow base e size v9 n9 aB) (hg:wr.grownBy w9 v.ownBlock) (aC:v.ownBlock=v9.ownBlock\/v9.ownBlock=some H) (hH:wr.heap.size<=H):Grow wS w9 g0 base e size v9 n9 aB :=
 ⟨aA,ybR h.gb hg h.at_,fun k hk=>by
  rcases aC with h1 | h1
  ·exact h.at_ k (h1.trans hk)
  ·rw [h1] at hk;cases hk;exact .inr (Nat.le_trans h.gb.size hH)⟩
theorem Grow.trans {wS w4 wr:World} {g0:Option Nat} {base:Nat} {e:TypeId} {size:Nat} {v v':Value} {n n':Nat} {xs aA:List Value} (h:Grow wS w4 g0 base e size v n xs) (k:Grow w4 wr v.ownBlock base e size v' n' aA):Grow wS wr g0 base e size v' n' aA :=
 ⟨k.own,ybR h.gb k.gb h.at_,fun j hj=>by
  rcases k.at_ j hj with h1 | h1
  ·exact h.at_ j h1
  ·exact .inr (Nat.le_trans h.gb.size h1)⟩
theorem zRE {n:Nat} {w w':World} {r:Option Nat} (hg:w.grownBy w' r) (hn:n<=w.heap.size) (hr:∀ k,r=some k->n<=k):Below n w w' :=
 ⟨hg.os,hg.tape,hg.output,hg.size,fun k hk=>hg.block k (by omega) (fun e=>by have:=hr k e.symm;omega)⟩
theorem ZNG (k v:ByteArray):∀ u∈[Value.string k,.string v],u.oneCell'=true:=by
 intro u hu;simp only [List.mem_cons,List.not_mem_nil,or_false] at hu;rcases hu with rfl | rfl<;>rfl
theorem qTA (o:List Pr) (c:Pr):qJS (o++[c])=qJS o++[.string c.1,.string c.2]:=by rw [qAB];rfl
theorem zBX {w:World} {A:Array Value} {t:TypeId} {g:Nat} (hg:w.heap.size=g):Row (w.alloc (.cells A t)) g A.toList:=by subst hg;exact xER w A t
theorem ZyM {w w':World} {o:Obj} {r:Option Nat} (h:(w.drew.alloc o).grownBy w' r):(w.alloc o).grownBy w' r:=⟨h.os,h.tape,h.output,h.size,h.block⟩
theorem vvQ {w w':World} {base:Nat} {e:TypeId} {s:Nat} {v:Value} {n:Nat} {xs:List Value} (h:w.ownsRow base e s v n xs) (hk:∀ b,base<=b->b<w.heap.size->w'.heap[b]?=w.heap[b]?):w'.ownsRow base e s v n xs:=by
 refine ⟨h.1,?_⟩;rcases h.2 with hn | ⟨g,cap,aC,rfl,hb,aB,aA⟩
 ·exact .inl hn
 ·exact .inr ⟨g,cap,aC,rfl,hb,(hk g hb (Array.getElem?_eq_some_iff.1 aB).1).trans aB,aA⟩
theorem k53 {α:Type} (l:List α) (k:Nat) (d:α) (h:k<l.length):l.take (k+1)=l.take k++[l.getD k d]:=by
 rw [List.take_succ_eq_append_getElem h];simp [List.getD,h]
structure OutX (w wb wr:World) (v:Value) (o:List Pr):Prop where
 row:Row wr (w.heap.size+1+1+1) [v]
 own:wr.ownsRow (w.heap.size+1+1+1+1) 78 2 v o.length (qJS o)
 bel:Below (w.heap.size+1+1+1) wb wr
theorem OutX.below {w wb wr w':World} {v:Value} {o:List Pr} (h:OutX w wb wr v o) (hb:Below wr.heap.size wr w'):OutX w wb w' v o:=⟨h.row.below hb,jcb h.own hb,h.bel.trans (hb.mono (by have:=h.row.lt;omega))⟩
theorem OutX.sl {w wb wr:World} {v:Value} {o:List Pr} (h:OutX w wb wr v o):∃ va vc,v=Value.slice va o.length vc:=by
 rcases yUO h.own with ⟨e1,e2⟩ | ⟨g,cap,e1,_⟩
 ·exact ⟨none,0,by rw [e1,e2]⟩
 ·exact ⟨_,cap,e1⟩
theorem OutX.push {w wb wr w9:World} {va:Option Addr} {vc g9 aA:Nat} {out:List Pr} {x:Pr} {o:Obj} (h:OutX w wb wr (.slice va out.length vc) out)
  (aB:w9.ownsRow (w.heap.size+1+1+1+1) 78 2 (.slice (some ⟨g9,0,none⟩) (out.length+1) aA) (out.length+1) (qJS out++[.string x.1,.string x.2])) (hg:(wr.alloc o).grownBy w9 (Value.slice va out.length vc).ownBlock) :
  Row w9 (w.heap.size+1+1+1) [.slice va out.length vc]/\OutX w wb (w9.setCell ⟨w.heap.size+1+1+1,0,none⟩ (.slice (some ⟨g9,0,none⟩) (out.length+1) aA)) (.slice (some ⟨g9,0,none⟩) (out.length+1) aA) (out++[x])/\Below (w.heap.size+1+1+1) wb w9:=by
 have aG:=h.row.lt;have hr:Row w9 (w.heap.size+1+1+1) [.slice va out.length vc]:=(h.row.alloc o).grown hg (fun e=>by have:=(h.own.lt _ e.symm).1;omega);have aC:Below (w.heap.size+1+1+1) wb w9:=h.bel.trans (zRE (w:=wr) ⟨hg.os,hg.tape,hg.output,Nat.le_trans (by simp) hg.size,fun k hk aE=>(hg.block k (by simp;omega) aE).trans (((Below.refl wr.heap.size wr).alloc (Nat.le_refl _) o).block k hk)⟩ (by omega) (fun k hk=>by have:=(h.own.lt k hk).1;omega));have aF:=(aB.lt g9 rfl).1;refine ⟨hr,⟨hr.set 0 (by simp) _,?_,aC.setCell (p:=⟨w.heap.size+1+1+1,0,none⟩) (Nat.le_refl _) _⟩,aC⟩;have aD:w9.grownBy (w9.setCell ⟨w.heap.size+1+1+1,0,none⟩ (.slice (some ⟨g9,0,none⟩) (out.length+1) aA)) (some (w.heap.size+1+1+1)):=⟨rfl,rfl,rfl,by simp [World.setCell],fun k _ hk=>Below.heap_setCell _ _ _ k (fun e=>hk (by rw [e]))⟩;have:=aB.kept aD (.inr (by simp [Value.ownBlock];omega));rw [List.length_append,qTA];exact this
def zXv (w w':World) (e:Ending) (rs:List Pr):Prop:=∃ a c,e=.returned (stV a rs.length c)/\rs.length<=c/\OwnS w' a (qJS rs)/\(∀ g,blk a rs.length=some g->w.heap.size<=g)/\Below w.heap.size w w'/\w'.ownsRow w.heap.size 78 2 (.slice a rs.length c) rs.length (qJS rs)
theorem QLa {w:World} {B B':Nat} {e:TypeId} {k:Nat} {v:Value} {n:Nat} {xs:List Value} (h:w.ownsRow B e k v n xs) (hb:B'<=B):w.ownsRow B' e k v n xs:=⟨h.1,h.2.imp id (fun ⟨g,cap,cur,h1,h2,r⟩=>⟨g,cap,cur,h1,Nat.le_trans hb h2,r⟩)⟩
theorem XNx {w wb wr w':World} {va:Option Addr} {vc:Nat} {out:List Pr} (h:OutX w wb wr (.slice va out.length vc) out) (hb:Below w.heap.size wr w') (hk:∀ k,w.heap.size+1+1+1+1<=k->w'.heap[k]?=wr.heap[k]?) (aB:Below w.heap.size w wb) (hs:w.heap.size+1+1+1+1<=wb.heap.size):zXv w w' (.returned (stV va out.length vc)) out:=by
 have aA:out.length<=vc:=by
  rcases h.own.2 with ⟨e1,e2⟩ | ⟨g,cap,aC,e1,_,_,h3,_⟩
  ·rw [e2];omega
  ·cases e1;exact h3
 have ho:=vvQ h.own (fun b h1 _=>hk b h1);refine ⟨va,vc,rfl,aA,?_,fun g hg=>?_,aB.trans ((h.bel.mono (by omega)).trans hb),QLa ho (by omega)⟩
 ·rcases yUO ho with ⟨_,e2⟩ | ⟨g,cap,e1,_,_,e4⟩
  ·exact .inl (by rw [List.eq_nil_of_length_eq_zero e2];rfl)
  ·cases e1;exact .inr ⟨g,rfl,e4⟩
 ·unfold blk at hg
  split at hg
  ·cases hg
  ·cases va with
   | none=>cases hg
   | some ad =>
    simp at hg;subst hg;have:=(h.own.lt ad.block rfl).1;omega
theorem J3n (a:Option Addr) (rs:List Pr) (c:Nat) (aB aC:ByteArray) (aD:Bool) (w:World) (h:Prs w a rs) (hl:rs.length<=100000) :
  Calls Tryz.prog 102 #[stV a rs.length c,.agg #[.string aB,.string aC,.bool aD]] w fun e w'=>zXv w w' e (chF (aB,aC,aD) rs):=by
 obtain ⟨i0,cW,dH,dI,dJ⟩:=q5D q2K;have HI:=hid (And.intro cW (And.intro dH (And.intro dI dJ)));clear cW dH dI dJ;unfold stV;obtain ⟨wb,aN⟩:∃ wb,wb=(((w.alloc (.cells #[.slice a rs.length c] 31)).alloc (.cells #[.string aB,.string aC,.bool aD] 121)).alloc (.cells #[.slice none 0 0] 31)).alloc (.cells #[.slice none 0 0] 31):=⟨_,rfl⟩;have eB:wb.heap.size=w.heap.size+1+1+1+1:=by rw [aN];simp
 have bW:Hid (Below w.heap.size w wb):=by show Below _ _ _;rw [aN];exact ((((Below.refl _ _).alloc (Nat.le_refl _) _).alloc (by simp) _).alloc (by simp<;>omega) _).alloc (by simp<;>omega) _
 have aR:Hid (∀ w',Below (w.heap.size+1+1+1) wb w'->Row w' (w.heap.size) [.slice a rs.length c]/\Row w' (w.heap.size+1) [.string aB,.string aC,.bool aD]/\Row w' (w.heap.size+1+1) [.slice none 0 0]):=fun w' hb=>by
  have r0:Row wb (w.heap.size) [.slice a rs.length c]:=by rw [aN];exact (((xER w _ _).alloc _).alloc _).alloc _
  have r1:Row wb (w.heap.size+1) [.string aB,.string aC,.bool aD]:=by rw [aN];exact ((zBX (w:=w.alloc _) (by simp)).alloc _).alloc _
  have r2:Row wb (w.heap.size+1+1) [.slice none 0 0]:=by rw [aN];exact (zBX (w:=(w.alloc _).alloc _) (by simp)).alloc _
  have aB:∀ {g:Nat} {cs:List Value},g<w.heap.size+1+1+1->Row wb g cs->Row w' g cs:=fun hg r=>⟨Nat.lt_of_lt_of_le r.lt hb.size,fun i v hv=>(hb.cell (p:=⟨_,i,none⟩) hg).trans (r.cell i v hv),fun i hi=>(hb.frozen (p:=⟨_,i,none⟩) hg).trans (r.froz i hi)⟩
  exact ⟨aB (by omega) r0,aB (by omega) r1,aB (by omega) r2⟩
 have aP:Row wb (w.heap.size+1+1+1) [.slice none 0 0]:=by rw [aN];exact zBX (w:=((w.alloc _).alloc _).alloc _) (by simp)
 have dL:Hid (Row wb (w.heap.size+1+1+1) [.slice none 0 0]):=aP;clear aP;go_enter Tryz.func102,Tryz.ntmps102;go_wp2_with fail;rw [<-aN];clear aN;go_loopw [6,7] (fun d i wr=>∃ k:Nat,k<=rs.length/\i=.int .i64 (k:Int)/\d=.bool (chW (aB,aC,aD) (rs.take k)).1/\∃ y,OutX w wb wr y (chW (aB,aC,aD) (rs.take k)).2) (fun _ i _=>rs.length-(intOf i).toNat)
 case atStart=>exact ⟨0,Nat.zero_le _,rfl,by simp [chW],.slice none 0 0,⟨dL.out,World.ownsRow_nil _ _ _ _,Below.refl _ _⟩⟩
 case round =>
  obtain ⟨k,hk,rfl,rfl,y,hx⟩:=hrel;obtain ⟨out,aM⟩:∃ out,out=(chW (aB,aC,aD) (rs.take k)).2:=⟨_,rfl⟩;obtain ⟨d,hd⟩:∃ d,d=(chW (aB,aC,aD) (rs.take k)).1:=⟨_,rfl⟩;have aW:chW (aB,aC,aD) (rs.take k)=(d,out):=by rw [hd,aM]
  rw [<-aM] at hx;rw [<-hd]
  have cY:out.length<=100001:=by
   have:=(xzP (aB,aC,aD) (rs.take k) _ rfl).1;rw [<-aM,List.length_take] at this
   split at this<;>omega
  clear aM hd;obtain ⟨va,vc,rfl⟩:=hx.sl;obtain ⟨bU,aT,bC⟩:=aR.out _ hx.bel;have q0:=bU.cell 0 _ rfl;have b8:=aT.cell 0 _ rfl;have cC:=aT.cell 1 _ rfl;have q3:=hx.row.cell 0 _ rfl;have r3:=hx.row.froz 0 (by simp);have l3:=hx.row.lt;have cM:Below w.heap.size w wr:=bW.out.trans (hx.bel.mono (by omega));have HX:=hid hx;clear hx
  by_cases cQ:k<rs.length
  ·obtain ⟨b,o,s0,s1,rfl,cN,cO,HS⟩:=(h.below cM).at cQ
   have bZ:b<w.heap.size:=by
    rcases h with h | ⟨b',o',h1,h2,_⟩
    ·subst h;simp at cQ
    ·cases h1;exact h2
   have dR:(k:Int)<(rs.length:Int):=by omega
   have eF:(0:Int)<=(k:Int):=by omega
   have aQ:chW (aB,aC,aD) (rs.take (k+1))=xIY aB aC (d,out) (s0,s1):=by rw [k53 rs k (ByteArray.empty,ByteArray.empty) cQ,Jii,<-HS.out,aW]
   have aG:=hid aQ;clear aQ aW HS bU aT bC
   have dK:Hid (∀ w',Below (w.heap.size+1+1+1) wr w'->w'.cell? ⟨w.heap.size,0,none⟩=some (.slice (some ⟨b,o,none⟩) rs.length c)/\w'.cell? ⟨b,o+k*2,none⟩=some (.string s0)/\w'.cell? ⟨b,o+k*2+1,none⟩=some (.string s1)/\w'.cell? ⟨w.heap.size+1,0,none⟩=some (.string aB)/\w'.cell? ⟨w.heap.size+1,1,none⟩=some (.string aC)):=fun w' hb=>⟨(hb.cell (p:=⟨w.heap.size,0,none⟩) (by show w.heap.size<_;omega)).trans q0,(hb.cell (p:=⟨b,o+k*2,none⟩) (by show b<_;omega)).trans cN,(hb.cell (p:=⟨b,o+k*2+1,none⟩) (by show b<_;omega)).trans cO,(hb.cell (p:=⟨w.heap.size+1,0,none⟩) (by show w.heap.size+1<_;omega)).trans b8,(hb.cell (p:=⟨w.heap.size+1,1,none⟩) (by show w.heap.size+1<_;omega)).trans cC⟩
   have dM:Hid (∀ w',Below w.heap.size w w'->w'.cell? ⟨b,o+k*2,none⟩=some (.string s0)/\w'.cell? ⟨b,o+k*2+1,none⟩=some (.string s1)):=fun w' hb=>⟨(hb.cell (p:=⟨b,o+k*2,none⟩) bZ).trans ((cM.cell (p:=⟨b,o+k*2,none⟩) bZ).symm.trans cN),(hb.cell (p:=⟨b,o+k*2+1,none⟩) bZ).trans ((cM.cell (p:=⟨b,o+k*2+1,none⟩) bZ).symm.trans cO)⟩
   have aI:Hid (∀ w',Below (w.heap.size+1+1+1) wb w'->w'.cell? ⟨w.heap.size,0,none⟩=some (.slice (some ⟨b,o,none⟩) rs.length c)/\w'.cell? ⟨b,o+k*2,none⟩=some (.string s0)/\w'.cell? ⟨b,o+k*2+1,none⟩=some (.string s1)/\w'.cell? ⟨w.heap.size+1,0,none⟩=some (.string aB)/\w'.cell? ⟨w.heap.size+1,1,none⟩=some (.string aC)):=fun w' hb=>by
    obtain ⟨bU,aT,bC⟩:=aR.out _ hb;obtain ⟨dY,dZ⟩:=dM.out w' (bW.out.trans (hb.mono (by omega)));exact ⟨bU.cell 0 _ rfl,dY,dZ,aT.cell 0 _ rfl,aT.cell 1 _ rfl⟩
   obtain ⟨bA,cL⟩:∃ b,b=(!d && klt aB s0):=⟨_,rfl⟩;obtain ⟨d1,cP⟩:∃ b,b=(d || bA):=⟨_,rfl⟩;obtain ⟨o1,b7⟩:∃ l,l=(if bA=true then out++[(aB,aC)] else out):=⟨_,rfl⟩;have dV:o1.length<=100002:=by rw [b7];split<;>(try rw [List.length_append])<;>(try simp only [List.length_cons,List.length_nil])<;>omega
   have cZ:xIY aB aC (d,out) (s0,s1)=(d1,if s0=aB then o1 else o1++[(s0,s1)]):=by
    rw [cP,b7,cL];unfold xIY;cases d<;>cases hk:klt aB s0<;>by_cases he:s0=aB<;>simp [he,hk]<;>(first | done | (rw [he] at hk;simp_all))
   rw [cZ] at aG;have bI:=hid cL;have cE:=hid cP;have cF:=hid b7;clear cL cP b7 cZ;have aK:Below wr.heap.size wr wr.drew:=(Below.refl _ _).drew;go_upto_region 6 with fail;clear dK cN cO q0 b8 cC q3 r3 l3;go_cut [30] from 18 to 30 (fun tv wx=>tv=.bool bA/\Below wr.heap.size wr wx)
   case first =>
    cases d with
    | true =>
     refine wp_region_held_drew (S:=fun w'=>w'.cell? ⟨w.heap.size,0,none⟩=some (.slice (some ⟨b,o,none⟩) rs.length c)/\w'.cell? ⟨b,o+k*2,none⟩=some (.string s0)/\w'.cell? ⟨b,o+k*2+1,none⟩=some (.string s1)/\w'.cell? ⟨w.heap.size+1,0,none⟩=some (.string aB)/\w'.cell? ⟨w.heap.size+1,1,none⟩=some (.string aC)) (by kernel_rfl) (aI.out _ (HX.out.bel.trans (aK.mono (by have:=HX.out.row.lt;omega)))) (fun aA=>?_);refine TY 0 (.bool true) rfl aA ?_;simp only [PS];refine TY 1 (.bool false) rfl aA ?_;simp only [PS];refine TY 2 (.bool false) rfl aA ?_;simp only [PS];refine TK 3 (undef) rfl (Or.inr ⟨by kernel_rfl,rfl⟩) aA ?_;simp only [PS];refine TK 4 (undef) rfl (Or.inr ⟨by kernel_rfl,rfl⟩) aA ?_;simp only [PS];refine TK 5 (undef) rfl (Or.inr ⟨by kernel_rfl,rfl⟩) aA ?_;simp only [PS];refine TK 6 (undef) rfl (Or.inr ⟨by kernel_rfl,rfl⟩) aA ?_;simp only [PS];refine TK 7 (undef) rfl (Or.inr ⟨by kernel_rfl,rfl⟩) aA ?_;simp only [PS]
     refine TK 8 (undef) rfl (Or.inr ⟨by kernel_rfl,rfl⟩) aA ?_;simp only [PS];refine TK 9 (undef) rfl (Or.inr ⟨by kernel_rfl,rfl⟩) aA ?_;simp only [PS];refine TK 10 (undef) rfl (Or.inr ⟨by kernel_rfl,rfl⟩) aA ?_;simp only [PS];refine TK 11 (undef) rfl (Or.inr ⟨by kernel_rfl,rfl⟩) aA ?_;simp only [PS];refine TY 12 (.bool false) rfl aA ?_;simp only [PS];refine DN ?_;go_wp2_with fail;go_meet;exact ⟨by rw [bI.out];rfl,aK⟩
    | false =>
     rcases Int.lt_trichotomy (kpc s0 aB) 0 with aV | aV | aV
     ·have bJ:Hid (klt aB s0=false):=y6a aV
      have cU:Op.bytesLess s0.toList aB.toList=true:=(kHw _ _).1 aV;refine wp_region_held_drew (S:=fun w'=>w'.cell? ⟨w.heap.size,0,none⟩=some (.slice (some ⟨b,o,none⟩) rs.length c)/\w'.cell? ⟨b,o+k*2,none⟩=some (.string s0)/\w'.cell? ⟨b,o+k*2+1,none⟩=some (.string s1)/\w'.cell? ⟨w.heap.size+1,0,none⟩=some (.string aB)/\w'.cell? ⟨w.heap.size+1,1,none⟩=some (.string aC)) (by kernel_rfl) (aI.out _ (HX.out.bel.trans (aK.mono (by have:=HX.out.row.lt;omega)))) (fun aA=>?_);refine TY 0 (.bool false) rfl aA ?_;simp only [PS];refine TY 1 (.bool true) rfl aA ?_;simp only [PS];refine TY 2 (.bool true) rfl aA ?_;simp only [PS];refine TY 3 (.pointer (some ⟨w.heap.size,0,none⟩)) rfl aA ?_;simp only [PS];refine TY 4 (.slice (some ⟨b,o,none⟩) rs.length c) rfl aA ?_;simp only [PS];refine TY 5 (.int .i64 (k:Int)) rfl aA ?_;simp only [PS];refine TY 6 (.pointer (some ⟨b,o+k*2,none⟩)) rfl aA ?_;simp only [PS];refine TY 7 (.pointer (some ⟨b,o+k*2,none⟩)) rfl aA ?_
      simp only [PS];refine TY 8 (.string s0) rfl aA ?_;simp only [PS];refine TY 9 (.pointer (some ⟨w.heap.size+1,0,none⟩)) rfl aA ?_;simp only [PS];refine TY 10 (.string aB) rfl aA ?_;simp only [PS];refine TY 11 (.bool false) rfl aA ?_;simp only [PS];refine TY 12 (.bool false) rfl aA ?_;simp only [PS];refine DN ?_;go_wp2_with fail;go_meet;exact ⟨by rw [bI.out,bJ.out];rfl,aK⟩
     ·have he:=(Z1R _ _).1 aV
      have bJ:Hid (klt aB s0=false):=by show _=_;rw [he];exact X7b _
      have cU:s0.toList=aB.toList:=by rw [he]
      clear he;refine wp_region_held_drew (S:=fun w'=>w'.cell? ⟨w.heap.size,0,none⟩=some (.slice (some ⟨b,o,none⟩) rs.length c)/\w'.cell? ⟨b,o+k*2,none⟩=some (.string s0)/\w'.cell? ⟨b,o+k*2+1,none⟩=some (.string s1)/\w'.cell? ⟨w.heap.size+1,0,none⟩=some (.string aB)/\w'.cell? ⟨w.heap.size+1,1,none⟩=some (.string aC)) (by kernel_rfl) (aI.out _ (HX.out.bel.trans (aK.mono (by have:=HX.out.row.lt;omega)))) (fun aA=>?_);refine TY 0 (.bool false) rfl aA ?_;simp only [PS];refine TY 1 (.bool true) rfl aA ?_;simp only [PS];refine TY 2 (.bool true) rfl aA ?_;simp only [PS];refine TY 3 (.pointer (some ⟨w.heap.size,0,none⟩)) rfl aA ?_;simp only [PS];refine TY 4 (.slice (some ⟨b,o,none⟩) rs.length c) rfl aA ?_;simp only [PS];refine TY 5 (.int .i64 (k:Int)) rfl aA ?_;simp only [PS];refine TY 6 (.pointer (some ⟨b,o+k*2,none⟩)) rfl aA ?_;simp only [PS];refine TY 7 (.pointer (some ⟨b,o+k*2,none⟩)) rfl aA ?_;simp only [PS];refine TY 8 (.string s0) rfl aA ?_
      simp only [PS];refine TY 9 (.pointer (some ⟨w.heap.size+1,0,none⟩)) rfl aA ?_;simp only [PS];refine TY 10 (.string aB) rfl aA ?_;simp only [PS];refine TY 11 (.bool false) rfl aA ?_;simp only [PS];refine TY 12 (.bool false) rfl aA ?_;simp only [PS];refine DN ?_;go_wp2_with fail;go_meet;exact ⟨by rw [bI.out,bJ.out];rfl,aK⟩
     ·have bJ:Hid (klt aB s0=true):=QCX aV
      have cU:¬ (s0.toList=aB.toList):=fun hh=>by rw [ByteArray.toList_eq,ByteArray.toList_eq] at hh;rw [ByteArray.ext (Array.ext' hh),zB6] at aV;omega
      have eD:Op.bytesLess s0.toList aB.toList=false:=by cases hq:Op.bytesLess s0.toList aB.toList with | false=>rfl | true=>(have:=(kHw _ _).2 hq;omega)
      refine wp_region_held_drew (S:=fun w'=>w'.cell? ⟨w.heap.size,0,none⟩=some (.slice (some ⟨b,o,none⟩) rs.length c)/\w'.cell? ⟨b,o+k*2,none⟩=some (.string s0)/\w'.cell? ⟨b,o+k*2+1,none⟩=some (.string s1)/\w'.cell? ⟨w.heap.size+1,0,none⟩=some (.string aB)/\w'.cell? ⟨w.heap.size+1,1,none⟩=some (.string aC)) (by kernel_rfl) (aI.out _ (HX.out.bel.trans (aK.mono (by have:=HX.out.row.lt;omega)))) (fun aA=>?_);refine TY 0 (.bool false) rfl aA ?_;simp only [PS];refine TY 1 (.bool true) rfl aA ?_;simp only [PS];refine TY 2 (.bool true) rfl aA ?_;simp only [PS];refine TY 3 (.pointer (some ⟨w.heap.size,0,none⟩)) rfl aA ?_;simp only [PS];refine TY 4 (.slice (some ⟨b,o,none⟩) rs.length c) rfl aA ?_;simp only [PS];refine TY 5 (.int .i64 (k:Int)) rfl aA ?_;simp only [PS];refine TY 6 (.pointer (some ⟨b,o+k*2,none⟩)) rfl aA ?_;simp only [PS];refine TY 7 (.pointer (some ⟨b,o+k*2,none⟩)) rfl aA ?_;simp only [PS];refine TY 8 (.string s0) rfl aA ?_
      simp only [PS];refine TY 9 (.pointer (some ⟨w.heap.size+1,0,none⟩)) rfl aA ?_;simp only [PS];refine TY 10 (.string aB) rfl aA ?_;simp only [PS];refine TY 11 (.bool true) rfl aA ?_;simp only [PS];refine TY 12 (.bool true) rfl aA ?_;simp only [PS];refine DN ?_;go_wp2_with fail;go_meet;exact ⟨by rw [bI.out,bJ.out];rfl,aK⟩
   case rest =>
   obtain ⟨rfl,hb⟩:=hcut
   rename World=>wa
   have aZ:=hid (HX.out.below hb);clear HX hb aK;have HX:=aZ;clear aZ;obtain ⟨-,-,-,b8,cC⟩:=aI.out _ HX.out.bel;have q3:=HX.out.row.cell 0 _ rfl;have r3:=HX.out.row.froz 0 (by simp);have l3:=HX.out.row.lt;go_upto_if 30 with fail;go_cut [6] from 31 to 40 (fun dv wx=>dv=.bool d1/\∃ va vc,OutX w wb wx (.slice va o1.length vc) o1)
   case first =>
    cases bA with
    | true =>
     have e1:=cF.out;rw [if_pos rfl] at e1;subst e1;have e2:=cE.out;rw [Bool.or_true] at e2;subst e2;go_wp2_with (at_builtin;refine WAL _ rfl _ _ 29 rfl (w.heap.size+1+1+1+1) Tryz.underlying29 HI.out rfl (by omega) _ out.length _ rfl (HX.out.own.alloc _) ⟨wa.heap.size,0,none⟩ 1 1 [.string aB,.string aC] rfl rfl (World.news_of_block (heap_alloc_new wa _)) (ZNG _ _) (by simp;omega) (wa.heap.size+1) (by simp) ?_;intro g7 aJ w7 aH aE aU cS;have aF:=OutX.push (x:=(aB,aC)) HX.out aH aE;have q7:=aF.1.cell 0 _ rfl;have r7:=aF.1.froz 0 (by simp);have l7:=aF.1.lt;have cT:=(aR.out _ aF.2.2).2.2.cell 0 _ rfl;have eC:=(aR.out _ aF.2.2).2.2.froz 0 (by simp);have bY:=hid aF;clear aH aE aU aF);have aX:=bY.out.2.1;have e8:Value.slice (some ⟨g7,0,none⟩) (out.length+1) aJ=.slice (some ⟨g7,0,none⟩) (out++[(aB,aC)]).length aJ:=by rw [List.length_append];rfl
     go_meet;refine ⟨rfl,some ⟨g7,0,none⟩,aJ,?_⟩;rw [<-e8];exact aX
    | false =>
     have e1:=cF.out;rw [if_neg (by simp)] at e1;subst e1;have e2:=cE.out;rw [Bool.or_false] at e2;subst e2;go_wp2_with fail;go_meet;exact ⟨rfl,va,vc,HX.out⟩
   case rest =>
   obtain ⟨rfl,bG,bH,aX⟩:=hcut
   rename World=>w8
   clear q3 r3 l3 b8 cC HX cF cE bI;have HX:=hid aX;clear aX;obtain ⟨eb,bV⟩:∃ eb,(s0.toList == aB.toList)=eb:=⟨_,rfl⟩;have aK:Below w8.heap.size w8 w8.drew:=(Below.refl _ _).drew;go_upto_region 9 with fail;refine wp_region_held_drew (S:=fun w'=>w'.cell? ⟨w.heap.size,0,none⟩=some (.slice (some ⟨b,o,none⟩) rs.length c)/\w'.cell? ⟨b,o+k*2,none⟩=some (.string s0)/\w'.cell? ⟨b,o+k*2+1,none⟩=some (.string s1)/\w'.cell? ⟨w.heap.size+1,0,none⟩=some (.string aB)/\w'.cell? ⟨w.heap.size+1,1,none⟩=some (.string aC)) (by kernel_rfl) (aI.out _ (HX.out.bel.trans (aK.mono (by have:=HX.out.row.lt;omega)))) (fun aA=>?_);refine TY 0 (.pointer (some ⟨w.heap.size,0,none⟩)) rfl aA ?_;simp only [PS];refine TY 1 (.slice (some ⟨b,o,none⟩) rs.length c) rfl aA ?_;simp only [PS];refine TY 2 (.int .i64 (k:Int)) rfl aA ?_;simp only [PS];refine TY 3 (.pointer (some ⟨b,o+k*2,none⟩)) rfl aA ?_;simp only [PS];refine TY 4 (.pointer (some ⟨b,o+k*2,none⟩)) rfl aA ?_
   simp only [PS];refine TY 5 (.string s0) rfl aA ?_;simp only [PS];refine TY 6 (.pointer (some ⟨w.heap.size+1,0,none⟩)) rfl aA ?_;simp only [PS];refine TY 7 (.string aB) rfl aA ?_;simp only [PS];refine TY 8 (.bool (!eb)) rfl aA ?_;simp only [PS];refine DN ?_;obtain ⟨wd,dE⟩:∃ wd,wd=w8.drew:=⟨_,rfl⟩;rw [<-dE] at aK ⊢;have aS:=hid (HX.out.below aK);clear dE HX aK aA;have ld:=aS.out.row.lt;have qd:=aS.out.row.cell 0 _ rfl;have rd:=aS.out.row.froz 0 (by simp)
   cases eb with
   | true =>
    have HE:Hid (s0=aB):=by have:=eq_of_beq bV;rw [ByteArray.toList_eq,ByteArray.toList_eq] at this;exact ByteArray.ext (Array.ext' this)
    clear bV;go_wp2;refine ⟨⟨k+1,by omega,by go_num,by rw [aG.out],.slice bG o1.length bH,?_⟩,by simp [intOf];omega⟩;rw [aG.out,if_pos HE.out];exact aS.out
   | false =>
    have HE:Hid (¬ s0=aB):=fun e=>by rw [e] at bV;simp at bV
    clear bV;go_upto_region 10 with fail
    have cH:Hid (∀ w',Below (w.heap.size+1+1+1) wb w'->Row w' (w.heap.size+1+1+1) [.slice bG o1.length bH]->w'.cell? ⟨w.heap.size,0,none⟩=some (.slice (some ⟨b,o,none⟩) rs.length c)/\w'.cell? ⟨b,o+k*2,none⟩=some (.string s0)/\w'.cell? ⟨b,o+k*2+1,none⟩=some (.string s1)/\w'.cell? ⟨w.heap.size+1,0,none⟩=some (.string aB)/\w'.cell? ⟨w.heap.size+1,1,none⟩=some (.string aC)/\w'.cell? ⟨w.heap.size+1+1+1,0,none⟩=some (.slice bG o1.length bH)):=fun w' hb hr=>by obtain ⟨a1,a2,a3,a4,a5⟩:=aI.out _ hb;exact ⟨a1,a2,a3,a4,a5,hr.cell 0 _ rfl⟩
    have dO:Below wd.heap.size wd (wd.drew.alloc (.cells #[.string s0,.string s1] 78)):=(Below.refl _ _).drew.alloc (Nat.le_refl _) _;have aZ:=hid (aS.out.below dO);have cV:=aS.out.below (Below.refl wd.heap.size wd).drew;refine yO4 (10) (S:=fun w'=>w'.cell? ⟨w.heap.size,0,none⟩=some (.slice (some ⟨b,o,none⟩) rs.length c)/\w'.cell? ⟨b,o+k*2,none⟩=some (.string s0)/\w'.cell? ⟨b,o+k*2+1,none⟩=some (.string s1)/\w'.cell? ⟨w.heap.size+1,0,none⟩=some (.string aB)/\w'.cell? ⟨w.heap.size+1,1,none⟩=some (.string aC)/\w'.cell? ⟨w.heap.size+1+1+1,0,none⟩=some (.slice bG o1.length bH)) (by kernel_rfl) (cH.out _ cV.bel cV.row) (fun aA=>?_);refine TYT 0 (.pointer (some ⟨w.heap.size+1+1+1,0,none⟩)) rfl aA ?_;simp only [PS];refine TYT 1 (.slice bG o1.length bH) rfl aA ?_;simp only [PS];refine TYT 2 (.pointer (some ⟨w.heap.size,0,none⟩)) rfl aA ?_;simp only [PS];refine TYT 3 (.slice (some ⟨b,o,none⟩) rs.length c) rfl aA ?_
    simp only [PS];refine TYT 4 (.int .i64 (k:Int)) rfl aA ?_;simp only [PS];refine TYT 5 (.pointer (some ⟨b,o+k*2,none⟩)) rfl aA ?_;simp only [PS];refine TYT 6 (.agg #[.string s0,.string s1]) rfl aA ?_;simp only [PS];refine RDT 7 rfl (fun Kq bQ=>?_);go_simp;refine bQ.out _ _ (cH.out _ aZ.out.bel aZ.out.row) (fun dN=>?_)
    try simp only [PS]
    refine RDT 8 rfl (fun Kq bQ=>?_);refine step_append_lies _ (by rfl) _ _ _ (by rfl) (w.heap.size+1+1+1+1) 78 i0 (.agg #[.string ByteArray.empty,.string ByteArray.empty]) 2 32 Tryz.underlying29 HI.out.1 HI.out.2.1 HI.out.2.2.1 HI.out.2.2.2 rfl (by omega) (.slice bG o1.length bH) o1.length _ (by rfl) aZ.out.own ⟨wd.heap.size,0,none⟩ 1 1 [.string s0,.string s1] (by rfl) rfl (World.news_of_block (heap_alloc_new wd.drew _)) (ZNG _ _) (by omega) (by unfold maxLen;(try simp)<;>omega) (by (try simp)<;>omega) (by (try simp)<;>omega) (wd.heap.size+1) (by simp) ?_;intro g9 cI w9 aO aL cK dU;have aF:=OutX.push (x:=(s0,s1)) aS.out aO (ZyM aL);have aY:=hid aF;clear aO aL cK aF;refine bQ.out _ _ (cH.out _ aY.out.2.2 aY.out.1) (fun cJ=>?_)
    try simp only [PS]
    refine TYT 9 (.pointer (some ⟨w.heap.size+1+1+1,0,none⟩)) rfl cJ ?_;simp only [PS];refine kPc (rs:=[10]) (by kernel_rfl) (by simp) ?_;refine AllReadyT.last rfl (fun Kq bQ=>?_);have q9:=aY.out.1.cell 0 _ rfl;have r9:=aY.out.1.froz 0 (by simp);have l9:=aY.out.1.lt;go_simp;clear q9 r9 l9;refine bQ.out _ _ trivial (fun _=>?_)
    try simp only [PS]
    refine kgn (by kernel_rfl) ?_ _;go_wp2;refine ⟨⟨k+1,by omega,by go_num,by rw [aG.out],.slice (some ⟨g9,0,none⟩) (o1.length+1) cI,?_⟩,by simp [intOf];omega⟩;rw [aG.out,if_neg HE.out];simpa only [List.length_append,List.length_singleton] using aY.out.2.1
  ·have dQ:k=rs.length:=by omega
   subst dQ;rw [List.take_length] at aW;have q2:=bC.cell 0 _ rfl;have r2:=bC.froz 0 (by simp);have l2:=bC.lt;clear bU aT bC
   cases d with
   | true =>
    have hF:chF (aB,aC,aD) rs=out:=by unfold chF;rw [aW];rfl
    have HF:=hid hF;clear aW hF;go_wp2_with fail;rw [HF.out];refine bodyPost_ret (v:=stV va out.length vc) (by simp [results,Tryz.results102,go_sem,stV,q2]) rfl (XNx HX.out ?_ ?_ bW.out (by omega))
    ·exact ((Below.refl _ _).setCell (p:=⟨w.heap.size+1+1,0,none⟩) (by show w.heap.size<=w.heap.size+1+1;omega) _)
    ·exact fun k hk=>Below.heap_setCell _ _ _ k (by show _≠w.heap.size+1+1;omega)
   | false =>
    have hF:chF (aB,aC,aD) rs=out++[(aB,aC)]:=by unfold chF;rw [aW];rfl
    have HF:=hid hF;clear aW hF;go_wp2_with (at_builtin;refine WAL _ rfl _ _ 29 rfl (w.heap.size+1+1+1+1) Tryz.underlying29 HI.out rfl (by omega) _ out.length _ rfl (HX.out.own.alloc _) ⟨wr.heap.size,0,none⟩ 1 1 [.string aB,.string aC] rfl rfl (World.news_of_block (heap_alloc_new wr _)) (ZNG _ _) (by simp;omega) (wr.heap.size+1) (by simp) ?_;intro g7 aJ w7 aH aE aU cS;have aF:=OutX.push (x:=(aB,aC)) HX.out aH aE;have q7:=aF.1.cell 0 _ rfl;have r7:=aF.1.froz 0 (by simp);have l7:=aF.1.lt;have cT:=(aR.out _ aF.2.2).2.2.cell 0 _ rfl;have eC:=(aR.out _ aF.2.2).2.2.froz 0 (by simp);have bY:=hid aF;clear aH aE aU aF);have cT:w7.cell? ⟨w.heap.size+1+1,0,none⟩=some (.slice none 0 0):=(aR.out _ bY.out.2.2).2.2.cell 0 _ rfl;rw [HF.out];have e8:Value.slice (some ⟨g7,0,none⟩) (out.length+1) aJ=.slice (some ⟨g7,0,none⟩) (out++[(aB,aC)]).length aJ:=by rw [List.length_append];rfl
    have aX:=bY.out.2.1;rw [e8] at aX;refine bodyPost_ret (v:=stV (some ⟨g7,0,none⟩) (out++[(aB,aC)]).length aJ) (by simp [results,Tryz.results102,go_sem,stV,cT]) rfl (XNx aX ?_ ?_ bW.out (by omega))
    ·rw [<-e8];exact ((Below.refl _ _).setCell (p:=⟨w.heap.size+1+1,0,none⟩) (by show w.heap.size<=w.heap.size+1+1;omega) _)
    ·rw [<-e8];exact fun k hk=>Below.heap_setCell _ _ _ k (by show _≠w.heap.size+1+1;omega)
theorem qMu (a:Option Addr) (rs:List Pr) (c:Nat) (aB aC:ByteArray) (aA:Bool) (w:World) (h:Prs w a rs) (hl:rs.length<=100000) :
  Calls Tryz.prog 102 #[stV a rs.length c,.agg #[.string aB,.string aC,.bool aA]] w fun e w'=>XIH w w' e (chF (aB,aC,aA) rs):=by
 refine (J3n a rs c aB aC aA w h hl).mono ?_;rintro e w' ⟨a1,c1,h1,h2,h3,h4,h5,-⟩;exact ⟨a1,c1,h1,h2,h3,h4,h5⟩
def Qzi (w w':World) (e:Ending) (rs:List Pr) (aA:Int):Prop:=∃ a c,e=.returned (.tuple #[stV a rs.length c,.int .i64 aA])/\rs.length<=c/\OwnS w' a (qJS rs)/\(∀ g,blk a rs.length=some g->w.heap.size<=g)/\Below w.heap.size w w'
theorem xnJ {w w':World} {e:Ending} {a:Option Addr} {c:Nat} {aA:Int} (he:e=.returned (.tuple #[stV a 0 c,.int .i64 aA])) (hb:Below w.heap.size w w'):Qzi w w' e [] aA:=⟨a,c,he,Nat.zero_le _,.inl rfl,fun g h=>(by cases h),hb⟩
theorem OwnS.setA {w:World} {a:Option Addr} {cs:List Value} (h:OwnS w a cs) (p:Addr) (hp:∀ g,a=some ⟨g,0,none⟩->cs≠[]->p.block≠g) (v:Value):OwnS (w.setCell p v) a cs:=by
 by_cases h0:cs=[]
 ·exact .inl h0
 ·obtain ⟨g,rfl,hr⟩:=h.resolve_left h0
  exact .inr ⟨g,rfl,hr.other p (hp g rfl h0) v⟩
theorem OwnS.prsA {w:World} {a:Option Addr} {rs:List Pr} (h:OwnS w a (qJS rs)):Prs w a rs:=by
 rcases h with h | ⟨g,rfl,h⟩
 ·exact .inl (by have:=congrArg List.length h;rw [vzd,List.length_nil] at this;exact List.eq_nil_of_length_eq_zero (by omega))
 ·exact h.prs
theorem ZDV {rs:List Pr} (h:qJS rs≠[]):rs.length≠0:=fun e=>h (by rw [List.eq_nil_of_length_eq_zero e];rfl)
theorem zg0 (a:Option Addr) (rs:List Pr) (c:Nat) (a2:Option Addr) (b:List Ch) (c2:Nat) (w:World) (h:Prs w a rs) (hl:rs.length<=1048576) (hs:∀ x∈rs,x.1.size<=1048576/\x.2.size<=1048576) (h2:Chs w a2 b) (cY:b.length<=1048576) (dI:∀ x∈b,x.1.size<=1048576/\x.2.1.size<=1048576) :
  Calls Tryz.prog 79 #[stV a rs.length c,.slice a2 b.length c2] w fun e w'=>Qzi w w' e (apR rs b) (apC rs b):=by
 have aC:∀ o1 o2,Below w.heap.size w ((w.alloc o1).alloc o2):=fun o1 o2=>((Below.refl _ _).alloc (Nat.le_refl _) _).alloc (by simp) _
 have aL:=hid (fun w' h'=>yPv a rs c w' h' hl hs);have aS:=hid (fun w' h'=>xly a2 b c2 w' h' cY dI);unfold stV;unfold apR apC
 cases hok:z0q rs with
 | false =>
  rw [hok] at aL;simp only [Bool.false_and,Bool.false_eq_true,if_false];rw [if_neg (by omega)];go_enter Tryz.func79,Tryz.ntmps79;go_wp2_with (go_at_call 20;refine (aL.out _ (h.below (aC _ _))).mono ?_;rintro e w3 ⟨rfl,aA⟩;have q1:w3.cell? ⟨w.heap.size+1,0,none⟩=some (.slice none 0 0):=(aA.cell (p:=⟨w.heap.size+1,0,none⟩) (by simp)).trans (by go_simp);have f1:w3.frozen? ⟨w.heap.size+1,0,none⟩=false:=(aA.frozen (p:=⟨w.heap.size+1,0,none⟩) (by simp)).trans (by go_simp);have l1:w.heap.size+1<w3.heap.size:=Nat.lt_of_lt_of_le (by simp) aA.size);refine bodyPost_ret (v:=.tuple #[stV none 0 0,.int .i64 1]) (by simp [results,Tryz.results79,go_sem,stV,q1]) rfl (xnJ rfl ?_);exact ((aC _ _).trans (aA.mono (by simp;omega))).setCell (p:=⟨w.heap.size+1,0,none⟩) (by show w.heap.size<=w.heap.size+1;omega) _
 | true =>
  rw [hok] at aL;simp only [Bool.true_and]
  cases hokb:kpJ b with
  | false =>
   rw [hokb] at aS;simp only [Bool.false_eq_true,if_false];rw [if_neg (by omega)];go_enter Tryz.func79,Tryz.ntmps79
   go_wp2_with (first | (go_at_call 20;refine (aL.out _ (h.below (aC _ _))).mono ?_;rintro e w3 ⟨rfl,aA⟩;have aG:=hid aA;clear aA) | (go_at_call 92;refine (aS.out _ (h2.below ((aC _ _).trans (aG.out.mono (by simp;omega))))).mono ?_;rintro e w4 ⟨rfl,aT⟩;have aA:=aG.out;have aD:=aA.trans (aT.mono aA.size);have q1:w4.cell? ⟨w.heap.size+1,0,none⟩=some (.slice none 0 0):=(aD.cell (p:=⟨w.heap.size+1,0,none⟩) (by simp)).trans (by go_simp);have f1:w4.frozen? ⟨w.heap.size+1,0,none⟩=false:=(aD.frozen (p:=⟨w.heap.size+1,0,none⟩) (by simp)).trans (by go_simp);have l1:w.heap.size+1<w4.heap.size:=Nat.lt_of_lt_of_le (by simp) aD.size))
   refine bodyPost_ret (v:=.tuple #[stV none 0 0,.int .i64 1]) (by simp [results,Tryz.results79,go_sem,stV,q1]) rfl (xnJ rfl ?_);exact ((aC _ _).trans (aD.mono (by simp;omega))).setCell (p:=⟨w.heap.size+1,0,none⟩) (by show w.heap.size<=w.heap.size+1;omega) _
  | true =>
   rw [hokb] at aS;simp only [if_true];have dO:rs.length<=100:=(Jne hok).1;have cZ:b.length<=20:=(q4Z hokb).1.2;have bV:=hid (fun w' h'=>Znr a rs c w' h' hl);unfold XIH stV at bV;have cK:=hid (Q4i rs b);go_enter Tryz.func79,Tryz.ntmps79
   go_wp2_with (first | (go_at_call 20;refine (aL.out _ (h.below (aC _ _))).mono ?_;rintro e w3 ⟨rfl,aA⟩;have aG:=hid aA;clear aA) | (go_at_call 92;refine (aS.out _ (h2.below ((aC _ _).trans (aG.out.mono (by simp;omega))))).mono ?_;rintro e w4 ⟨rfl,aT⟩;have aI:=hid (aG.out.trans (aT.mono aG.out.size));clear aT;have q0:w4.cell? ⟨w.heap.size,0,none⟩=some (.slice a rs.length c):=(aI.out.cell (p:=⟨w.heap.size,0,none⟩) (by simp;omega)).trans (by go_simp)) | (go_at_call 69;refine (bV.out _ (h.below ((aC _ _).trans (aI.out.mono (by simp;omega))))).mono ?_;rintro e w5 ⟨a5,c5,rfl,cU,b8,bZ,bC⟩;have bU:=hid (aI.out.trans (bC.mono aI.out.size));have bW:=hid b8;have bH:=cU;have cI:=hid bZ;have aY:=hid bC.size;clear b8 bZ bC))
   have dQ:w.heap.size+1<w4.heap.size:=by have:=aI.out.size;simp at this;omega
   have dR:w4.heap.size<=w5.heap.size:=aY.out;have aH:Hid (Below w.heap.size w w5):=(aC _ _).trans (bU.out.mono (by simp;omega))
   have cL:Hid (∀ w',Below w5.heap.size w5 w'->Row w' (w.heap.size+1) [.slice none 0 0]):=fun w' hb=>((zBX (w:=w.alloc (.cells #[.slice a rs.length c] 31)) (A:=#[.slice none 0 0]) (t:=31) (g:=w.heap.size+1) (by simp)).below bU.out).below hb
   go_loopw [7] (fun i wr=>∃ k:Nat,k<=b.length/\i=.int .i64 (k:Int)/\∃ va vc,Row wr w5.heap.size [.slice va (apU rs (b.take k)).length vc]/\(apU rs (b.take k)).length<=vc/\OwnS wr va (qJS (apU rs (b.take k)))/\(∀ g,blk va (apU rs (b.take k)).length=some g->w.heap.size+1<g/\g≠w5.heap.size)/\Below w5.heap.size w5 wr) (fun i _=>b.length-(intOf i).toNat)
   case atStart=>exact ⟨0,Nat.zero_le _,rfl,a5,c5,xER w5 _ _,bH,bW.out.below ((Below.refl _ _).alloc (Nat.le_refl _) _),fun g hg=>by have h1:=cI.out g hg;have h2:=bW.out.lt rs.length (fun h e=>h (by have:=congrArg List.length e;rw [vzd,List.length_nil] at this;omega)) g hg;omega,(Below.refl _ _).alloc (Nat.le_refl _) _⟩
   case round =>
    obtain ⟨k,hk,rfl,va,vc,aP,bI,cC,bY,bG⟩:=hrel;have hN:=cK.out k;have cE:=aP.cell 0 _ rfl;have dL:=aP.froz 0 (by simp);have dN:=aP.lt;have dJ:=bG.size;have aX:=hid aP;have aR:=hid cC;have aQ:=hid bY;have aJ:=hid bG;clear aP cC bY bG
    by_cases bJ:k<b.length
    ·obtain ⟨bb,oo,s0,s1,g0,rfl,cQ,cS,cT,HS⟩:=(h2.below (aH.out.trans (aJ.out.mono aH.out.size))).at bJ
     have aF:bb<w.heap.size:=by
      rcases h2 with h | ⟨b',o',h1,h2,_⟩
      ·subst h;simp at bJ
      ·cases h1;exact h2
     have dE:(k:Int)<(b.length:Int):=by omega
     have dM:(0:Int)<=(k:Int):=by omega
     have cF:apU rs (b.take (k+1))=chF (s0,s1,g0) (apU rs (b.take k)):=by rw [k53 b k (ByteArray.empty,ByteArray.empty,false) bJ,JDX,<-HS.out]
     have aK:=hid cF;have aW:=hid (fun W (hW:Prs W va (apU rs (b.take k)))=>qMu va (apU rs (b.take k)) vc s0 s1 g0 W hW (by omega));obtain ⟨aZ,aO⟩:∃ aZ,aZ=apU rs (b.take k):=⟨_,rfl⟩;rw [<-aO] at aK aW aX aR aQ cE hN bI;clear cF aO HS;unfold stV XIH at aW
     have HT:Hid (∀ w',Below w.heap.size wr w'->w'.cell? ⟨bb,oo+k*3,none⟩=some (.string s0)/\w'.cell? ⟨bb,oo+k*3+1,none⟩=some (.string s1)/\w'.cell? ⟨bb,oo+k*3+2,none⟩=some (.bool g0)):=fun w' hb=>⟨(hb.cell (p:=⟨bb,oo+k*3,none⟩) aF).trans cQ,(hb.cell (p:=⟨bb,oo+k*3+1,none⟩) aF).trans cS,(hb.cell (p:=⟨bb,oo+k*3+2,none⟩) aF).trans cT⟩
     have cH:w.heap.size<=wr.heap.size:=by omega
     go_wp2_with fail;refine wp_region_held_drew (S:=fun w'=>w'.cell? ⟨bb,oo+k*3,none⟩=some (.string s0)/\w'.cell? ⟨bb,oo+k*3+1,none⟩=some (.string s1)/\w'.cell? ⟨bb,oo+k*3+2,none⟩=some (.bool g0)) (by kernel_rfl) (HT.out _ (Below.refl _ _).drew) (fun aN=>?_);refine TY 1 (.slice (some ⟨bb,oo,none⟩) b.length c2) rfl aN (TY 2 (.int .i64 (k:Int)) rfl aN (TY 3 (.pointer (some ⟨bb,oo+k*3,none⟩)) rfl aN (TY 4 (.agg #[.string s0,.string s1,.bool g0]) rfl aN ?_)));simp only [PS];refine RD 0 rfl (fun K hK=>?_);go_simp;refine hK.out _ _ aN (fun _=>?_);clear hK K
     try simp only [PS]
     refine RD 5 rfl (fun K hK=>?_);refine XRf (by rfl) 102 #[.agg #[.slice va aZ.length vc],.agg #[.string s0,.string s1,.bool g0]] (by go_simp) (aW.out _ ((aR.out.below (Below.refl _ _).drew).prsA)) ?_;rintro e w7 ⟨a7,c7,rfl,cV,dH,b7,cP⟩;refine ⟨_,rfl,?_⟩;have aE:Below wr.heap.size wr w7:=(Below.refl _ _).drew.trans cP;have aV:=aX.out.below aE;have q7:=aV.cell 0 _ rfl;have f7:=aV.froz 0 (by simp);have l7:=aV.lt;refine hK.out _ _ (HT.out _ (aE.mono cH)) (fun cN=>?_);clear hK K
     try simp only [PS]
     refine RD 6 rfl (fun K hK=>?_);go_simp;refine hK.out _ _ (HT.out _ ((aE.mono cH).setCell (p:=⟨w5.heap.size,0,none⟩) (by show w.heap.size<=w5.heap.size;omega) _)) (fun cO=>?_);clear hK K
     try simp only [PS]
     refine DN ?_;go_wp2;refine ⟨⟨k+1,by omega,by go_num,a7,c7,?_,?_,?_,?_,?_⟩,by simp [intOf];omega⟩
     ·rw [aK.out];exact aV.set 0 (by simp) _
     ·rw [aK.out];exact cV
     ·rw [aK.out];exact dH.setA _ (fun g hg bQ=>by have:wr.heap.size<=g:=b7 g (by subst hg;exact qdd _ _ _ (ZDV bQ));show w5.heap.size≠g;omega) _
     ·rw [aK.out];exact fun g hg=>by have:wr.heap.size<=g:=b7 g hg;omega
     ·exact (aJ.out.trans (aE.mono dJ)).setCell (p:=⟨w5.heap.size,0,none⟩) (Nat.le_refl _) _
    ·have cW:k=b.length:=by omega
     subst cW;have aU:=cL.out _ aJ.out;have q1:=aU.cell 0 _ rfl;have f1:=aU.froz 0 (by simp);have l1:=aU.lt;have dK:w.heap.size+1≠w5.heap.size:=by omega
     have cM:¬ w5.heap.size=w.heap.size+1:=by omega
     rw [List.take_length] at cE bI aX aR aQ;clear aU hN
     by_cases aB:(apU rs b).length<=100
     ·have cJ:=hid aB
      have aM:((apU rs b).length:Int)<=100:=by omega
      clear aB;go_wp2_with fail;refine bodyPost_ret (v:=.tuple #[stV va (apU rs b).length vc,.int .i64 0]) (by simp [results,Tryz.results79,go_sem,stV,q1]) rfl ⟨va,vc,rfl,bI,?_,fun g hg=>by have:=(aQ.out g hg).1;omega,?_⟩
      ·exact aR.out.setA _ (fun g hg bQ=>by have:=(aQ.out g (by subst hg;exact qdd _ _ _ (ZDV bQ))).1;show w.heap.size+1≠g;omega) _
      ·exact (aH.out.trans (aJ.out.mono aH.out.size)).setCell (p:=⟨w.heap.size+1,0,none⟩) (by show w.heap.size<=w.heap.size+1;omega) _
     ·have cJ:=hid aB
      have aM:¬ ((apU rs b).length:Int)<=100:=by omega
      clear aB;go_wp2_with fail;refine bodyPost_ret (v:=.tuple #[stV none 0 0,.int .i64 2]) (by simp [results,Tryz.results79,go_sem,stV,q1]) rfl (xnJ rfl ?_);exact (aH.out.trans (aJ.out.mono aH.out.size)).setCell (p:=⟨w.heap.size+1,0,none⟩) (by show w.heap.size<=w.heap.size+1;omega) _
def xeF (k n:Nat):List ByteArray:=(List.range n).map fun i=>jna (k+i)
def mixed (k i:Nat) (ss:List ByteArray):List Value:=(xeF k i++ss.drop i).map Value.string
end Go.Proofs.YtehbpeinnepdcaaGreatDoor
