import Derived.Deep.AppendSrc
import Derived.Test.YthdilmkbnpmdaaaPrG35
import Derived.Test.YthdilmkbnpmdaaaPrG39
import Derived.Shelf.Small.Strs
import Derived.Sort.Walk0
set_option maxHeartbeats 16000000
set_option maxRecDepth 8000
set_option linter.unusedVariables false
set_option linter.unusedSimpArgs false
namespace Go.Proofs.Ythdilmkbnpmdaaa
open Go.RowKit
theorem info_prC:(Try.prog.info? 145).map (fun i=>(i.zero,i.size,i.bytes))=some (some (.agg #[.string ByteArray.empty,.string ByteArray.empty]),2,32):=by kernel_rfl
theorem info_partsP {P:Program} {e:TypeId} {z:Value} {size bytes:Nat} (h:(P.info? e).map (fun i=>(i.zero,i.size,i.bytes))=some (some z,size,bytes)):∃ i,P.info? e=some i/\i.zero=some z/\i.size=size/\i.bytes=bytes:=by
 obtain ⟨i,hi,hh⟩:=Option.map_eq_some_iff.1 h
 simp only [Prod.mk.injEq] at hh
 exact ⟨i,hi,hh⟩
theorem nscP (n:Nat) (h:0<n):Builtin.nextslicecap n 0=n:=by
 unfold Builtin.nextslicecap
 simp
 omega
theorem copy_run {P:Program} {w:World} (t ty e:TypeId) (i:TypeInfo) (z:Value) (size bytes:Nat) (ht:P.underlying t=some (.slice e)) (hi:P.info? e=some i) (hz:i.zero=some z) (hsize:i.size=size) (hby:i.bytes=bytes)
  (base:Option Addr) (hbase:base=none\/∃ b,base=some ⟨b,0,none⟩) (v:Value) (n:Nat) (news:List Value) (hsrc:Src P size t v n news w) (hn:n<=1048576) (hbn:n*bytes<=281474976710656) :
  ∃ a' cap wx,(Builtin.append_ #[t,t] ty #[.slice base 0 0,v]).run P w=.ok (.slice a' n cap) wx/\n<=cap/\(n=0\/(a'=some ⟨w.heap.size,0,none⟩/\Row wx w.heap.size news))/\Below w.heap.size w wx:=by
 subst hsize hby
 by_cases h0:n=0
 ·subst h0
  have hnil:news=[]:=List.eq_nil_of_length_eq_zero (by have:=hsrc.newsLen;omega)
  subst hnil
  rcases hbase with rfl | ⟨b,rfl⟩
  ·refine ⟨none,0,w,?_,Nat.le_refl _,.inl rfl,Below.refl _ _⟩
   rcases hsrc.kind with ⟨e',hk⟩ | hk<;>simp [Builtin.append_,run_underlying ht,run_underlying hk,sizeOf,typeInfo,hi,hsrc.len,hsrc.cells]
  ·have hrun:=run_append_room_src (P:=P) w t t ty e i ht hi b 0 0 0 v 0 [] hsrc (by omega) (by simp) (by simp)
   exact ⟨_,_,_,hrun,Nat.le_refl _,.inl rfl,Below.refl _ _⟩
 ·have hold:(Builtin.firstCells i.size 0 (.slice base 0 0)).run P w.drew=.ok ([]:List Value).toArray w.drew:=by
   rcases hbase with rfl | ⟨b,rfl⟩
   ·simp [Builtin.firstCells,Sem.run_pure]
   ·exact run_firstCells_some w.drew i.size 0 _ 0 0 [] (by simp) (by simp)
  have hrun:=run_append_grow_src (P:=P) w t t ty e i z ht hi hz base 0 0 [] hold v n news hsrc (by omega) (by omega) (by rw [Nat.zero_add,nscP n (by omega)];exact hbn)
  refine ⟨_,_,_,by rw [hrun,Nat.zero_add],?_,.inr ⟨rfl,?_⟩,(Below.refl _ _).drew.alloc (Nat.le_refl _) _⟩
  ·have:=grownCap_ge w (0+n) 0 e
   rw [Nat.zero_add] at this
   exact this
  have hr:=row_new w.drew ((([]:List Value)++news).toArray++Builtin.zeroCells z.cells (grownCap w (0+n) 0 e-(0+n))) e
  refine ⟨by simp,fun j u hu=>?_,fun j hj=>?_⟩
  ·have:=hr.cell j u (by
    obtain ⟨hj,_⟩:=List.getElem?_eq_some_iff.1 hu
    simp [List.getElem?_append_left hj,hu])
   simpa using this
  ·have:=hr.froz j (by simp;omega)
   simpa using this
theorem wpList_append_copy {P:Program} {w:World} {ops:Array Oper} {rest:List Oper} {o:Oper} {a:Act} {Q:Exit->Act->World->Prop} (hgd:o.guard=none) (s x:Operand) (t:TypeId)
  (ho:o.op=.call { callee:=.builtin .append,args:=#[s,x],argTypes:=#[t,t] }) (e:TypeId) (i:TypeInfo) (z:Value) (size bytes:Nat) (ht:P.underlying t=some (.slice e)) (hi:P.info? e=some i) (hz:i.zero=some z) (hsize:i.size=size) (hby:i.bytes=bytes)
  (base:Option Addr) (hs:a.eval s=.slice base 0 0) (hbase:base=none\/∃ b,base=some ⟨b,0,none⟩) (v:Value) (hx:a.eval x=v) (n:Nat) (news:List Value) (hsrc:Src P size t v n news w) (hn:n<=1048576) (hbn:n*bytes<=281474976710656)
  (h:∀ a' cap wx,n<=cap->(n=0\/(a'=some ⟨w.heap.size,0,none⟩/\Row wx w.heap.size news))->Below w.heap.size w wx->wpList P ops Q rest (a.put o.dst (.slice a' n cap)) wx):wpList P ops Q (o::rest) a w:=by
 refine wpList_plain hgd fun K hK=>?_
 obtain ⟨a',cap,wx,hrun,h1,h2,h3⟩:=copy_run (P:=P) (w:=w) t o.type e i z size bytes ht hi hz hsize hby base hbase v n news hsrc hn hbn
 unfold Oper.wp
 simp [execOp,ho,resolve,invoke,builtin,hs,hx,hrun,Result.andThen]
 exact hK _ _ (h a' cap wx h1 h2 h3)
theorem src_prs {P:Program} {w:World} {a:Option Addr} {rs:List (ByteArray×ByteArray)} (h:Prs w a rs) (t e:TypeId) (ht:P.underlying t=some (.slice e)) (c:Nat):Src P 2 t (.slice a rs.length c) rs.length (prcells rs) w:=by
 rcases h with h | ⟨b,o,rfl,hb,hc⟩
 ·subst h
  cases a with
  | none=>exact Src.ofNil w ht c
  | some x=>exact Src.ofSlice w ht x 0 c [] (by simp) (by simp) (by simp)
 ·refine Src.ofSlice w ht ⟨b,o,none⟩ rs.length c _ (prcells_length rs) (fun j u hu=>?_) (fun u hu=>?_)
  ·obtain ⟨hj,e⟩:=List.getElem?_eq_some_iff.1 hu
   rw [prcells_length] at hj
   have ha:(⟨b,o,none⟩:Addr).add j=⟨b,o+j,none⟩:=by unfold Addr.add;split<;>simp_all
   obtain ⟨q,hq⟩:∃ q,j=q*2\/j=q*2+1:=⟨j / 2,by omega⟩
   have hql:q<rs.length:=by omega
   have hw:=prcells_at rs q hql
   rcases hq with rfl | rfl
   ·rw [ha,(hc q hql).1,<-hu,hw.1]
   ·rw [ha,<-Nat.add_assoc,(hc q hql).2,<-hu,hw.2]
  ·unfold prcells at hu
   obtain ⟨x,_,hx⟩:=List.mem_flatMap.1 hu
   simp at hx
   rcases hx with rfl | rfl<;>rfl
def CpPost (w w':World) (e:Ending) (rs:List (ByteArray×ByteArray)):Prop:=∃ a c,e=.returned (stV a rs.length c)/\rs.length<=c/\OwnS w' a (prcells rs)/\(∀ g,blk a rs.length=some g->w.heap.size<=g)/\Below w.heap.size w w'
theorem cp_endP {w wx:World} {a':Option Addr} {rs:List (ByteArray×ByteArray)} {H:Nat} (h:rs.length=0\/(a'=some ⟨H,0,none⟩/\Row wx H (prcells rs))) (hH:w.heap.size<=H):OwnS wx a' (prcells rs)/\(∀ g,blk a' rs.length=some g->w.heap.size<=g/\g=H):=by
 rcases h with h | ⟨rfl,hr⟩
 ·have:rs=[]:=List.eq_nil_of_length_eq_zero h
  subst this
  exact ⟨.inl rfl,fun g hg=>by cases hg⟩
 ·refine ⟨.inr ⟨H,rfl,hr⟩,fun g hg=>?_⟩
  by_cases h0:rs.length=0
  ·rw [h0] at hg;cases hg
  ·rw [blk_pos _ _ _ h0] at hg;cases hg;exact ⟨hH,rfl⟩
theorem copy_st_s (a:Option Addr) (rs:List (ByteArray×ByteArray)) (c:Nat) (w:World) (h:Prs w a rs) (hl:rs.length<=1048576) :
  Calls Try.prog 40 #[stV a rs.length c] w fun e w'=>CpPost w w' e rs:=by
 obtain ⟨i0,hi0,hz0,hz1,hz2⟩:=info_partsP info_prC
 have HI:=hid (And.intro hi0 (And.intro hz0 (And.intro hz1 hz2)))
 clear hi0 hz0 hz1 hz2
 have hb0:∀ o1 o2 o3,Below w.heap.size w (((w.alloc o1).alloc o2).alloc o3):=fun o1 o2 o3=>(((Below.refl _ _).alloc (Nat.le_refl _) _).alloc (by simp) _).alloc (by simp;omega) _
 go_enter Try.func40,Try.ntmps40
 go_wp2_with (at_builtin;refine wpList_append_copy rfl _ _ 75 rfl 145 i0 _ 2 32 Try.underlying75 HI.out.1 HI.out.2.1 HI.out.2.2.1 HI.out.2.2.2 _ rfl (.inr ⟨_,rfl⟩) _ rfl rs.length _ (src_prs (h.below (hb0 _ _ _)) _ _ Try.underlying75 c) hl (by omega) ?_;intro a' cap wx hcap hrow hbx;have c1:wx.cell? ⟨w.heap.size+1,0,none⟩=some (.slice none 0 0):=(hbx.cell (p:=⟨w.heap.size+1,0,none⟩) (by simp<;>omega)).trans (by go_simp);have f1:wx.frozen? ⟨w.heap.size+1,0,none⟩=false:=(hbx.frozen (p:=⟨w.heap.size+1,0,none⟩) (by simp<;>omega)).trans (by go_simp);have HBX:=hid ((hb0 _ _ _).trans (hbx.mono (by simp<;>omega)));have HRW:=hid (cp_endP (w:=w) hrow (by simp;omega));have hszx:w.heap.size+1<wx.heap.size:=Nat.lt_of_lt_of_le (by simp) hbx.size;clear hrow hbx)
 refine bodyPost_ret (v:=stV a' rs.length cap) (by simp [results,Try.results40,go_sem,c1]) rfl ⟨a',cap,rfl,hcap,?_,fun g hg=>(HRW.out.2 g hg).1,HBX.out.setCell (by show w.heap.size<=w.heap.size+1;omega) _⟩
 rcases HRW.out.1 with h1 | ⟨g,rfl,h1⟩
 ·exact .inl h1
 ·by_cases h0:rs.length=0
  ·exact .inl (by rw [List.eq_nil_of_length_eq_zero h0];rfl)
  ·have:=(HRW.out.2 g (blk_pos _ _ _ h0)).2
   exact .inr ⟨g,rfl,h1.other _ (by show w.heap.size+1≠g;rw [this];simp<;>omega) _⟩
abbrev OpT:=Bool×Int×ByteArray
def Ops (w:World) (a:Option Addr) (rs:List (Bool×Int×ByteArray)):Prop :=
 rs=[]\/∃ b o,a=some ⟨b,o,none⟩/\b<w.heap.size/\∀ i,i<rs.length->w.cell? ⟨b,o+i*3,none⟩=some (.bool (rs.getD i (false,0,ByteArray.empty)).1)/\w.cell? ⟨b,o+i*3+1,none⟩=some (.int .i64 (rs.getD i (false,0,ByteArray.empty)).2.1)/\w.cell? ⟨b,o+i*3+2,none⟩=some (.string (rs.getD i (false,0,ByteArray.empty)).2.2)
theorem Ops.below {w w':World} {a:Option Addr} {rs:List (Bool×Int×ByteArray)} (h:Ops w a rs) (hb:Below w.heap.size w w'):Ops w' a rs:=by
 rcases h with h | ⟨b,o,h1,h2,h3⟩
 ·exact .inl h
 ·exact .inr ⟨b,o,h1,Nat.lt_of_lt_of_le h2 hb.size,fun i hi=>⟨(hb.cell (p:=⟨b,o+i*3,none⟩) h2).trans (h3 i hi).1,(hb.cell (p:=⟨b,o+i*3+1,none⟩) h2).trans (h3 i hi).2.1,(hb.cell (p:=⟨b,o+i*3+2,none⟩) h2).trans (h3 i hi).2.2⟩⟩
theorem Ops.at {w:World} {a:Option Addr} {rs:List (Bool×Int×ByteArray)} (h:Ops w a rs) {k:Nat} (hk:k<rs.length):∃ b o g0 n1 s2,a=some ⟨b,o,none⟩/\w.cell? ⟨b,o+k*3,none⟩=some (.bool g0)/\w.cell? ⟨b,o+k*3+1,none⟩=some (.int .i64 n1)/\w.cell? ⟨b,o+k*3+2,none⟩=some (.string s2)/\Hid ((g0,n1,s2)=rs.getD k (false,0,ByteArray.empty)):=by
 rcases h with h | ⟨b,o,h1,h2,h3⟩
 ·subst h;simp at hk
 ·exact ⟨b,o,_,_,_,h1,(h3 k hk).1,(h3 k hk).2.1,(h3 k hk).2.2,hid rfl⟩
def opcells (rs:List (Bool×Int×ByteArray)):List Value:=rs.flatMap fun x=>[.bool x.1,.int .i64 x.2.1,.string x.2.2]
theorem opcells_append (a b:List (Bool×Int×ByteArray)):opcells (a++b)=opcells a++opcells b:=by simp [opcells]
theorem opcells_length (rs:List (Bool×Int×ByteArray)):(opcells rs).length=rs.length*3:=by
 induction rs with
 | nil=>rfl
 | cons x r ih=>simp [opcells] at ih ⊢;omega
theorem opcells_at:∀ (rs:List (Bool×Int×ByteArray)) (i:Nat),i<rs.length->(opcells rs)[i*3]?=some (.bool (rs.getD i (false,0,ByteArray.empty)).1)/\(opcells rs)[i*3+1]?=some (.int .i64 (rs.getD i (false,0,ByteArray.empty)).2.1)/\(opcells rs)[i*3+2]?=some (.string (rs.getD i (false,0,ByteArray.empty)).2.2)
 | x::r,0,_=>by simp [opcells]
 | x::r,i+1,h=>by
  have ih:=opcells_at r i (by simpa using h)
  have e:opcells (x::r)=.bool x.1::.int .i64 x.2.1::.string x.2.2::opcells r:=by simp [opcells]
  rw [e,show (i+1)*3=i*3+3 by omega]
  simpa using ih
theorem Row.ops {w:World} {g:Nat} {rs:List (Bool×Int×ByteArray)} (h:Row w g (opcells rs)):Ops w (some ⟨g,0,none⟩) rs :=
 .inr ⟨g,0,rfl,h.lt,fun i hi=>by
  rw [Nat.zero_add]
  exact ⟨h.cell _ _ (opcells_at rs i hi).1,h.cell _ _ (opcells_at rs i hi).2.1,h.cell _ _ (opcells_at rs i hi).2.2⟩⟩
structure Dd where
 (C W S L T H F R U O:Int)
 rs:List Pr
 ops:List OpT
def dnV (d:Dd) (a:Option Addr) (c:Nat) (b:Option Addr) (e:Nat):Value:=.agg #[.int .i64 d.C,.int .i64 d.W,.int .i64 d.S,.int .i64 d.L,.int .i64 d.T,.int .i64 d.H,.int .i64 d.F,.int .i64 d.R,.int .i64 d.U,.int .i64 d.O,.slice a d.rs.length c,.slice b d.ops.length e]
def Apart (a:Option Addr) (n:Nat) (b:Option Addr) (m:Nat):Prop:=blk a n=none\/blk b m=none\/blk a n≠blk b m
structure OwnDn (w:World) (rs:List Pr) (ops:List OpT) (a b:Option Addr):Prop where
 s:OwnS w a (prcells rs)
 p:OwnS w b (opcells ops)
 ne:Apart a rs.length b ops.length
theorem OwnDn.below {w w':World} {rs:List Pr} {ops:List OpT} {a b:Option Addr} (h:OwnDn w rs ops a b) (hb:Below w.heap.size w w'):OwnDn w' rs ops a b:=⟨h.s.below hb,h.p.below hb,h.ne⟩
theorem OwnS.prs {w:World} {a:Option Addr} {rs:List Pr} (h:OwnS w a (prcells rs)):Prs w a rs:=by
 rcases h with h | ⟨g,rfl,h⟩
 ·exact .inl (by have:=congrArg List.length h;rw [prcells_length,List.length_nil] at this;exact List.eq_nil_of_length_eq_zero (by omega))
 ·exact h.prs
theorem OwnS.ops {w:World} {a:Option Addr} {rs:List OpT} (h:OwnS w a (opcells rs)):Ops w a rs:=by
 rcases h with h | ⟨g,rfl,h⟩
 ·exact .inl (by have:=congrArg List.length h;rw [opcells_length,List.length_nil] at this;exact List.eq_nil_of_length_eq_zero (by omega))
 ·exact h.ops
theorem prcells_ne {rs:List Pr} (h:rs.length≠0):prcells rs≠[]:=fun e=>h (by have:=congrArg List.length e;rw [prcells_length,List.length_nil] at this;omega)
theorem ne_of_prcells {rs:List Pr} (h:prcells rs≠[]):rs.length≠0:=fun e=>h (by rw [List.eq_nil_of_length_eq_zero e];rfl)
theorem ne_of_opcells {rs:List OpT} (h:opcells rs≠[]):rs.length≠0:=fun e=>h (by rw [List.eq_nil_of_length_eq_zero e];rfl)
def DnPost (w w':World) (x:Ending) (d:Dd):Prop:=∃ a c b e,x=.returned (dnV d a c b e)/\d.rs.length<=c/\OwnDn w' d.rs d.ops a b/\(∀ g,blk a d.rs.length=some g->w.heap.size<=g)/\(∀ g,blk b d.ops.length=some g->w.heap.size<=g)/\Below w.heap.size w w'
def noD (C:Int):Dd:=⟨C,0,0,0,0,0,0,0,0,0,[],[]⟩
theorem OwnS.set' {w:World} {a:Option Addr} {cs:List Value} (h:OwnS w a cs) (p:Addr) (hp:∀ g,a=some ⟨g,0,none⟩->cs≠[]->p.block≠g) (v:Value):OwnS (w.setCell p v) a cs:=by
 by_cases h0:cs=[]
 ·exact .inl h0
 ·obtain ⟨g,rfl,hr⟩:=h.resolve_left h0
  exact .inr ⟨g,rfl,hr.other p (hp g rfl h0) v⟩
theorem OwnS.alloc' {w:World} {a:Option Addr} {cs:List Value} (h:OwnS w a cs) (o:Obj):OwnS (w.alloc o) a cs:=h.below ((Below.refl _ _).alloc (Nat.le_refl _) _)
theorem row_at {w:World} {A:Array Value} {t:TypeId} {g:Nat} (hg:w.heap.size=g):Row (w.alloc (.cells A t)) g A.toList:=by subst hg;exact row_new w A t
theorem dn_no {w w':World} {x:Ending} {C:Int} {a b:Option Addr} {c e:Nat} (hx:x=.returned (dnV (noD C) a c b e)) (hb:Below w.heap.size w w'):DnPost w w' x (noD C) :=
 ⟨a,c,b,e,hx,Nat.zero_le _,⟨.inl rfl,.inl rfl,.inl rfl⟩,fun g h=>(by cases h),fun g h=>(by cases h),hb⟩
end Go.Proofs.Ythdilmkbnpmdaaa
namespace Go.Proofs.Ythdilmkbnpmdaaa
open Go.Shelf
def cmpB (a b:ByteArray):Int:=Lib.compareBytes a.data.toList b.data.toList
end Go.Proofs.Ythdilmkbnpmdaaa
namespace Go.Proofs.Ythdilmkbnpmdaaa
open Go.RowKit Go.Sort
theorem u8_tri (a b:UInt8) (h1:¬ a<b) (h2:¬ b<a):a=b:=by
 apply UInt8.toNat_inj.1
 rw [UInt8.lt_iff_toNat_lt] at h1 h2
 omega
theorem cb_lt:∀ (x y:List UInt8),Lib.compareBytes x y<0<->x<y
 | [],[]=>by simp [Lib.compareBytes]
 | [],b::l2=>by simp [Lib.compareBytes]
 | a::l,[]=>by simp [Lib.compareBytes]
 | a::l,b::l2=>by
  rw [List.cons_lt_cons_iff]
  unfold Lib.compareBytes
  split
  ·rename_i h;simp [h]
  ·rename_i h
   split
   ·rename_i h2
    have hne:¬ a=b:=fun e=>by subst e;exact h h2
    simp [h,hne]
   ·rename_i h2
    have e:=u8_tri a b h h2
    subst e
    rw [cb_lt l l2]
    simp [h]
theorem cb_zero:∀ (x y:List UInt8),Lib.compareBytes x y=0<->x=y
 | [],[]=>by simp [Lib.compareBytes]
 | [],b::l2=>by simp [Lib.compareBytes]
 | a::l,[]=>by simp [Lib.compareBytes]
 | a::l,b::l2=>by
  unfold Lib.compareBytes
  split
  ·rename_i h
   have hne:¬ a=b:=fun e=>by subst e;rw [UInt8.lt_iff_toNat_lt] at h;omega
   simp [hne]
  ·rename_i h
   split
   ·rename_i h2
    have hne:¬ a=b:=fun e=>by subst e;exact h h2
    simp [hne]
   ·rename_i h2
    have e:=u8_tri a b h h2
    subst e
    rw [cb_zero l l2]
    simp
theorem cmpB_lt (a b:ByteArray):cmpB a b<0<->Op.bytesLess a.toList b.toList=true:=by
 unfold cmpB
 rw [cb_lt,bytesLess_eq,decide_eq_true_eq,ByteArray.toList_eq,ByteArray.toList_eq]
theorem cmpB_zero (a b:ByteArray):cmpB a b=0<->a=b:=by
 unfold cmpB
 rw [cb_zero]
 constructor
 ·intro h;exact ByteArray.ext (Array.ext' h)
 ·intro h;rw [h]
def kAt (rs:List (ByteArray×ByteArray)) (t:Nat):ByteArray:=(rs.getD t (ByteArray.empty,ByteArray.empty)).1
end Go.Proofs.Ythdilmkbnpmdaaa
namespace Go.Proofs.Ythdilmkbnpmdaaa
open Go.RowKit Go.Sort
theorem cmpB_trans (a b c:ByteArray) (h1:cmpB a b<0) (h2:cmpB b c<0):cmpB a c<0:=by
 unfold cmpB at *
 rw [cb_lt] at *
 exact List.lt_trans h1 h2
theorem asc_step {rs:List (ByteArray×ByteArray)} (h:stateOk rs=true) (i:Nat) (hi:i+1<rs.length):cmpB (kAt rs i) (kAt rs (i+1))<0:=by
 have:=(stateOk_of h).2 (i+1) hi
 unfold prOk klt at this
 simp only [Nat.add_sub_cancel,Bool.and_eq_true,Bool.or_eq_true,decide_eq_true_eq] at this
 rw [cmpB_lt]
 rcases this.2 with h | h
 ·omega
 ·exact h
theorem asc {rs:List (ByteArray×ByteArray)} (h:stateOk rs=true) (t:Nat):∀ d,t+d+1<rs.length->cmpB (kAt rs t) (kAt rs (t+d+1))<0
 | 0,hd=>asc_step h t hd
 | d+1,hd=>cmpB_trans _ _ _ (asc h t d (by omega)) (asc_step h (t+d+1) hd)
theorem asc' {rs:List (ByteArray×ByteArray)} (h:stateOk rs=true) {t u:Nat} (htu:t<u) (hu:u<rs.length):cmpB (kAt rs t) (kAt rs u)<0:=by
 obtain ⟨d,rfl⟩:∃ d,u=t+d+1:=⟨u-t-1,by omega⟩
 exact asc h t d hu
end Go.Proofs.Ythdilmkbnpmdaaa
namespace Go.Proofs.Ythdilmkbnpmdaaa
open Go.RowKit Go.Sort
theorem cb_anti:∀ (x y:List UInt8),0<Lib.compareBytes x y->Lib.compareBytes y x<0
 | [],[]=>by simp [Lib.compareBytes]
 | [],b::l2=>by simp [Lib.compareBytes]
 | a::l,[]=>by simp [Lib.compareBytes]
 | a::l,b::l2=>by
  unfold Lib.compareBytes
  intro h
  by_cases h1:a<b
  ·simp [h1] at h
  ·by_cases h2:b<a
   ·simp [h2]
   ·simp only [h1,h2,if_false] at h ⊢
    exact cb_anti l l2 h
theorem cmpB_anti {a b:ByteArray} (h:0<cmpB a b):klt b a=true:=by
 have:=cb_anti _ _ h
 exact (cmpB_lt b a).1 this
theorem cmpB_self (a:ByteArray):cmpB a a=0:=(cmpB_zero a a).2 rfl
theorem klt_no {a b:ByteArray} (h:cmpB a b<0):klt b a=false:=by
 cases hk:klt b a with
 | false=>rfl
 | true =>
  have h2:cmpB b a<0:=(cmpB_lt b a).2 hk
  have h3:=cmpB_trans a b a h h2
  rw [cmpB_self] at h3
  omega
theorem klt_self (a:ByteArray):klt a a=false:=by
 cases hk:klt a a with
 | false=>rfl
 | true =>
  have h2:cmpB a a<0:=(cmpB_lt a a).2 hk
  rw [cmpB_self] at h2
  omega
def stepC (key val:ByteArray) (st:Bool×List Pr) (p:Pr):Bool×List Pr :=
 if p.1=key then (if (!st.1 && klt key p.1)=true then (true,st.2++[(key,val)]) else st)
 else (if (!st.1 && klt key p.1)=true then (true,st.2++[(key,val)]++[p]) else (st.1,st.2++[p]))
def chW (c:Ch) (rs:List Pr):Bool×List Pr:=rs.foldl (stepC c.1 c.2.1) (c.2.2,[])
def chF (c:Ch) (rs:List Pr):List Pr:=if (chW c rs).1=true then (chW c rs).2 else (chW c rs).2++[(c.1,c.2.1)]
theorem chW_snoc (c:Ch) (rs:List Pr) (p:Pr):chW c (rs++[p])=stepC c.1 c.2.1 (chW c rs) p:=by unfold chW;rw [List.foldl_append];rfl
def ascP (rs:List Pr):Prop:=rs.Pairwise fun x y=>cmpB x.1 y.1<0
theorem stepA (key val:ByteArray):∀ (l:List Pr) (g:Bool) (out:List Pr),(∀ x∈l,cmpB x.1 key<0)->l.foldl (stepC key val) (g,out)=(g,out++l)
 | [],g,out,_=>by simp
 | x::l,g,out,h=>by
  have hx:=h x List.mem_cons_self
  have hne:¬ x.1=key:=fun e=>by rw [e,cmpB_self] at hx;omega
  rw [List.foldl_cons,stepC,if_neg hne,klt_no hx,Bool.and_false,if_neg (by simp)]
  rw [stepA key val l g (out++[x]) (fun y hy=>h y (List.mem_cons_of_mem _ hy)),List.append_assoc]
  rfl
theorem stepB (key val:ByteArray):∀ (l:List Pr) (out:List Pr),(∀ x∈l,0<cmpB x.1 key)->l.foldl (stepC key val) (true,out)=(true,out++l)
 | [],out,_=>by simp
 | x::l,out,h=>by
  have hx:=h x List.mem_cons_self
  have hne:¬ x.1=key:=fun e=>by rw [e,cmpB_self] at hx;omega
  rw [List.foldl_cons,stepC,if_neg hne,if_neg (by simp)]
  rw [stepB key val l (out++[x]) (fun y hy=>h y (List.mem_cons_of_mem _ hy)),List.append_assoc]
  rfl
def chAt (c:Ch) (a r:List Pr):List Pr:=a++(if c.2.2=true then [] else [(c.1,c.2.1)])++r
theorem chF_at (c:Ch) (a m r:List Pr) (ha:∀ x∈a,cmpB x.1 c.1<0) (hm:m=[]\/∃ v,m=[(c.1,v)]) (hr:∀ x∈r,0<cmpB x.1 c.1):chF c (a++m++r)=chAt c a r:=by
 obtain ⟨key,val,g⟩:=c
 have e1:chW (key,val,g) (a++m++r)=r.foldl (stepC key val) (g,a):=by
  unfold chW
  rw [List.append_assoc,List.foldl_append,stepA key val a g [] ha,List.nil_append,List.foldl_append]
  rcases hm with rfl | ⟨v,rfl⟩
  ·rfl
  ·rw [List.foldl_cons,List.foldl_nil,stepC,if_pos rfl,klt_self,Bool.and_false,if_neg (by simp)]
 unfold chF chAt
 rw [e1]
 cases g with
 | true=>rw [stepB key val r a hr];simp
 | false =>
  cases r with
  | nil=>simp
  | cons x l =>
   have hx:=hr x List.mem_cons_self
   have hne:¬ x.1=key:=fun e=>by rw [e,cmpB_self] at hx;omega
   rw [List.foldl_cons,stepC,if_neg hne]
   simp only [Bool.not_false,Bool.true_and]
   rw [cmpB_anti hx,if_pos rfl,stepB key val l _ (fun y hy=>hr y (List.mem_cons_of_mem _ hy))]
   simp
theorem chAt_asc (c:Ch) (a m r:List Pr) (h:ascP (a++m++r)) (ha:∀ x∈a,cmpB x.1 c.1<0) (hr:∀ x∈r,0<cmpB x.1 c.1):ascP (chAt c a r):=by
 unfold ascP chAt at *
 rw [List.pairwise_append,List.pairwise_append] at h
 obtain ⟨⟨h1,h2,h3⟩,h4,h5⟩:=h
 have har:∀ x∈a,∀ y∈r,cmpB x.1 y.1<0:=fun x hx y hy=>h5 x (List.mem_append_left _ hx) y hy
 have hkr:∀ y∈r,cmpB c.1 y.1<0:=fun y hy=>(cmpB_lt _ _).2 (cmpB_anti (hr y hy))
 by_cases hg:c.2.2=true
 ·rw [if_pos hg,List.append_nil,List.pairwise_append]
  exact ⟨h1,h4,har⟩
 ·rw [if_neg hg,List.pairwise_append,List.pairwise_append]
  refine ⟨⟨h1,by simp,fun x hx y hy=>?_⟩,h4,fun x hx y hy=>?_⟩
  ·simp at hy;subst hy;exact ha x hx
  ·rw [List.mem_append] at hx
   rcases hx with hx | hx
   ·exact har x hx y hy
   ·simp at hx;subst hx;exact hkr y hy
theorem getD_at {α:Type} (rs:List α) (i:Nat) (h:i<rs.length) {d:α}:rs.getD i d=rs[i]:=by simp [List.getD,h]
theorem asc_of {rs:List Pr} (h:stateOk rs=true):ascP rs:=by
 unfold ascP
 rw [List.pairwise_iff_getElem]
 intro i j hi hj hij
 have:=asc' h hij hj
 unfold kAt at this
 rwa [getD_at _ _ hi,getD_at _ _ hj] at this
def apU (rs:List Pr) (b:List Ch):List Pr:=b.foldl (fun s c=>chF c s) rs
theorem apU_snoc (rs:List Pr) (b:List Ch) (c:Ch):apU rs (b++[c])=chF c (apU rs b):=by unfold apU;rw [List.foldl_append];rfl
def apC (rs:List Pr) (b:List Ch):Int:=if (stateOk rs && batchOk b)=true then (if (apU rs b).length<=100 then 0 else 2) else 1
def apR (rs:List Pr) (b:List Ch):List Pr:=if apC rs b=0 then apU rs b else []
theorem chW_len (c:Ch):∀ (rs:List Pr) (k:Nat),k=rs.length->(chW c rs).2.length<=rs.length+(if (chW c rs).1=true/\c.2.2=false then 1 else 0)/\(c.2.2=true->(chW c rs).1=true)
 | rs,0,hk=>by rw [List.eq_nil_of_length_eq_zero hk.symm];simp [chW]
 | rs,k+1,hk=>by
  obtain ⟨b,bs,rfl⟩:∃ b bs,rs=bs++[b]:=by
   rcases List.eq_nil_or_concat rs with h | ⟨l,a,h⟩
   ·subst h;simp at hk
   ·exact ⟨a,l,by simpa using h⟩
  have ih:=chW_len c bs k (by simp at hk;omega)
  rw [chW_snoc]
  obtain ⟨key,val,g⟩:=c
  generalize chW (key,val,g) bs=st at ih ⊢
  obtain ⟨d,out⟩:=st
  unfold stepC
  rw [List.length_append,List.length_singleton]
  have hk3:=klt_self key
  cases d<;>cases hk2:klt key b.1<;>by_cases he:b.1=key<;>cases g<;>simp [he,hk2,hk3] at ih hk2 ⊢<;>omega
theorem chF_len (c:Ch) (rs:List Pr):(chF c rs).length<=rs.length+1:=by
 have:=(chW_len c rs _ rfl).1
 unfold chF
 split
 ·split at this<;>omega
 ·rename_i h
  rw [if_neg (fun e=>h e.1)] at this
  rw [List.length_append]
  simp
  omega
theorem apU_len (rs:List Pr) (b:List Ch):∀ k,(apU rs (b.take k)).length<=rs.length+k
 | 0=>by simp [apU]
 | k+1=>by
  have ih:=apU_len rs b k
  by_cases h:k<b.length
  ·rw [List.take_succ_eq_append_getElem h,apU_snoc]
   have:=chF_len b[k] (apU rs (b.take k))
   omega
  ·rw [List.take_of_length_le (by omega)] at ih ⊢
   omega
end Go.Proofs.Ythdilmkbnpmdaaa
namespace Go.Proofs.Ythdilmkbnpmdaaa
open Go.RowKit Go.Sort
theorem cmpB_rev {a b:ByteArray} (h:cmpB a b<0):0<cmpB b a:=by
 rcases Int.lt_trichotomy (cmpB b a) 0 with h1 | h1 | h1
 ·have:=cmpB_trans a b a h h1
  rw [cmpB_self] at this
  omega
 ·have:=(cmpB_zero _ _).1 h1
  subst this
  rw [cmpB_self] at h
  omega
 ·exact h1
theorem stateOk_iff (rs:List Pr):stateOk rs=true<->rs.length<=100/\(∀ x∈rs,kOk x.1=true/\vOk x.2=true)/\ascP rs:=by
 constructor
 ·intro h
  obtain ⟨h1,h2⟩:=stateOk_of h
  refine ⟨h1,fun x hx=>?_,asc_of h⟩
  obtain ⟨i,hi,rfl⟩:=List.getElem_of_mem hx
  have:=h2 i hi
  unfold prOk at this
  rw [getD_at _ _ hi] at this
  simp only [Bool.and_eq_true] at this
  exact this.1
 ·rintro ⟨h1,h2,h3⟩
  refine stateOk_yes h1 (fun k hk=>?_)
  unfold prOk
  have hm:=h2 _ (List.getElem_mem hk)
  rw [getD_at _ _ hk,hm.1,hm.2]
  by_cases h0:k=0
  ·simp [h0]
  ·have hk1:k-1<rs.length:=by omega
   rw [getD_at _ _ hk1]
   unfold ascP at h3
   rw [List.pairwise_iff_getElem] at h3
   have:=h3 (k-1) k hk1 hk (by omega)
   have h4:klt rs[k-1].1 rs[k].1=true:=(cmpB_lt _ _).1 this
   simp [h4]
theorem split_at (key:ByteArray):∀ (rs:List Pr),ascP rs->∃ a m r,rs=a++m++r/\(∀ x∈a,cmpB x.1 key<0)/\(m=[]\/∃ v,m=[(key,v)])/\(∀ x∈r,0<cmpB x.1 key)
 | [],_=>⟨[],[],[],rfl,by simp,.inl rfl,by simp⟩
 | x::l,h=>by
  unfold ascP at h
  rw [List.pairwise_cons] at h
  rcases Int.lt_trichotomy (cmpB x.1 key) 0 with h1 | h1 | h1
  ·obtain ⟨a,m,r,e,ha,hm,hr⟩:=split_at key l h.2
   refine ⟨x::a,m,r,by rw [e];rfl,fun y hy=>?_,hm,hr⟩
   rcases List.mem_cons.1 hy with rfl | hy
   ·exact h1
   ·exact ha y hy
  ·have e:=(cmpB_zero _ _).1 h1
   refine ⟨[],[x],l,rfl,by simp,.inr ⟨x.2,by rw [<-e]⟩,fun y hy=>?_⟩
   rw [<-e]
   exact cmpB_rev (h.1 y hy)
  ·refine ⟨[],[],x::l,rfl,by simp,.inl rfl,fun y hy=>?_⟩
   rcases List.mem_cons.1 hy with rfl | hy
   ·exact h1
   ·have h2:cmpB key x.1<0:=(cmpB_lt _ _).2 (cmpB_anti h1)
    exact cmpB_rev (cmpB_trans _ _ _ h2 (h.1 y hy))
theorem chF_split (c:Ch) (rs:List Pr) (h:ascP rs):∃ a m r,rs=a++m++r/\(∀ x∈a,cmpB x.1 c.1<0)/\(m=[]\/∃ v,m=[(c.1,v)])/\(∀ x∈r,0<cmpB x.1 c.1)/\chF c rs=chAt c a r:=by
 obtain ⟨a,m,r,e,ha,hm,hr⟩:=split_at c.1 rs h
 exact ⟨a,m,r,e,ha,hm,hr,by rw [e];exact chF_at c a m r ha hm hr⟩
theorem chF_asc (c:Ch) (rs:List Pr) (h:ascP rs):ascP (chF c rs):=by
 obtain ⟨a,m,r,e,ha,hm,hr,hc⟩:=chF_split c rs h
 rw [hc]
 rw [e] at h
 exact chAt_asc c a m r h ha hr
theorem chF_mem (c:Ch) (rs:List Pr) (h:ascP rs):∀ x∈chF c rs,x∈rs\/(x=(c.1,c.2.1)/\c.2.2=false):=by
 obtain ⟨a,m,r,e,ha,hm,hr,hc⟩:=chF_split c rs h
 rw [hc]
 intro x hx
 unfold chAt at hx
 rw [List.mem_append,List.mem_append] at hx
 rcases hx with (hx | hx) | hx
 ·exact .inl (by rw [e];simp [hx])
 ·split at hx
  ·simp at hx
  ·rename_i hg
   simp at hx
   exact .inr ⟨hx,by simpa using hg⟩
 ·exact .inl (by rw [e];simp [hx])
theorem apU_asc (rs:List Pr) (h:ascP rs):∀ (b:List Ch),ascP (apU rs b):=by
 intro b
 unfold apU
 induction b generalizing rs with
 | nil=>exact h
 | cons c l ih=>exact ih _ (chF_asc c rs h)
theorem apU_mem (rs:List Pr) (h:ascP rs):∀ (b:List Ch),∀ x∈apU rs b,x∈rs\/∃ c∈b,x=(c.1,c.2.1):=by
 intro b
 unfold apU
 induction b generalizing rs with
 | nil=>exact fun x hx=>.inl hx
 | cons c l ih =>
  intro x hx
  rcases ih _ (chF_asc c rs h) x hx with h1 | ⟨c',h1,h2⟩
  ·rcases chF_mem c rs h x h1 with h3 | h3
   ·exact .inl h3
   ·exact .inr ⟨c,List.mem_cons_self,h3.1⟩
  ·exact .inr ⟨c',List.mem_cons_of_mem _ h1,h2⟩
theorem chOk_parts {c:Ch} (h:chOk c=true):kOk c.1=true/\vOk c.2.1=true:=by
 unfold chOk at h
 simp only [Bool.and_eq_true] at h
 exact h.1
theorem apC_zero {rs:List Pr} {b:List Ch} (h:apC rs b=0):stateOk rs=true/\batchOk b=true/\(apU rs b).length<=100:=by
 unfold apC at h
 split at h
 ·rename_i h1
  simp only [Bool.and_eq_true] at h1
  split at h
  ·rename_i h2;exact ⟨h1.1,h1.2,h2⟩
  ·cases h
 ·cases h
theorem apU_ok {rs:List Pr} {b:List Ch} (h:apC rs b=0):stateOk (apU rs b)=true:=by
 obtain ⟨h1,h2,h3⟩:=apC_zero h
 obtain ⟨_,k2,k3⟩:=(stateOk_iff rs).1 h1
 refine (stateOk_iff _).2 ⟨h3,fun x hx=>?_,apU_asc rs k3 b⟩
 rcases apU_mem rs k3 b x hx with h4 | ⟨c,h4,rfl⟩
 ·exact k2 x h4
 ·exact chOk_parts ((batchOk_of h2).2 c h4)
end Go.Proofs.Ythdilmkbnpmdaaa
namespace Go.Proofs.Ythdilmkbnpmdaaa
open Go.RowKit
structure Grow (wS wr:World) (g0:Option Nat) (base:Nat) (e:TypeId) (size:Nat) (v:Value) (n:Nat) (xs:List Value):Prop where
 own:wr.ownsRow base e size v n xs
 gb:wS.grownBy wr g0
 at_:∀ k,v.ownBlock=some k->g0=some k\/wS.heap.size<=k
theorem Grow.start {w:World} {base:Nat} {e:TypeId} {size:Nat} {v:Value} {n:Nat} {xs:List Value} (h:w.ownsRow base e size v n xs):Grow w w v.ownBlock base e size v n xs:=⟨h,World.grownBy.refl _ _,fun k hk=>.inl hk⟩
theorem Grow.below {wS wr w':World} {g0:Option Nat} {base:Nat} {e:TypeId} {size:Nat} {v:Value} {n:Nat} {xs:List Value} (h:Grow wS wr g0 base e size v n xs) (hb:Below wr.heap.size wr w'):Grow wS w' g0 base e size v n xs :=
 ⟨owns_below h.own hb,⟨hb.os.trans h.gb.os,hb.tape.trans h.gb.tape,hb.output.trans h.gb.output,Nat.le_trans h.gb.size hb.size,fun k hk hne=>(hb.block k (Nat.lt_of_lt_of_le hk h.gb.size)).trans (h.gb.block k hk hne)⟩,h.at_⟩
theorem grown_mono {wS wr w9:World} {g0 r:Option Nat} (h:wS.grownBy wr g0) (hg:wr.grownBy w9 r) (hr:∀ k,r=some k->g0=some k\/wS.heap.size<=k):wS.grownBy w9 g0 :=
 ⟨hg.os.trans h.os,hg.tape.trans h.tape,hg.output.trans h.output,Nat.le_trans h.size hg.size,fun k hk hne=>(hg.block k (Nat.lt_of_lt_of_le hk h.size) (fun e=>by
  rcases hr k e.symm with h1 | h1
  ·exact hne h1.symm
  ·omega)).trans (h.block k hk hne)⟩
theorem Grow.push {wS wr w9:World} {g0:Option Nat} {base:Nat} {e:TypeId} {size:Nat} {v v9:Value} {n n9 H:Nat} {xs xs9:List Value} (h:Grow wS wr g0 base e size v n xs) (hown:w9.ownsRow base e size v9 n9 xs9) (hg:wr.grownBy w9 v.ownBlock) (hat:v.ownBlock=v9.ownBlock\/v9.ownBlock=some H) (hH:wr.heap.size<=H):Grow wS w9 g0 base e size v9 n9 xs9 :=
 ⟨hown,grown_mono h.gb hg h.at_,fun k hk=>by
  rcases hat with h1 | h1
  ·exact h.at_ k (h1.trans hk)
  ·rw [h1] at hk;cases hk;exact .inr (Nat.le_trans h.gb.size hH)⟩
theorem Grow.trans {wS w4 wr:World} {g0:Option Nat} {base:Nat} {e:TypeId} {size:Nat} {v v':Value} {n n':Nat} {xs xs':List Value} (h:Grow wS w4 g0 base e size v n xs) (k:Grow w4 wr v.ownBlock base e size v' n' xs'):Grow wS wr g0 base e size v' n' xs' :=
 ⟨k.own,grown_mono h.gb k.gb h.at_,fun j hj=>by
  rcases k.at_ j hj with h1 | h1
  ·exact h.at_ j h1
  ·exact .inr (Nat.le_trans h.gb.size h1)⟩
theorem below_of_grown {n:Nat} {w w':World} {r:Option Nat} (hg:w.grownBy w' r) (hn:n<=w.heap.size) (hr:∀ k,r=some k->n<=k):Below n w w' :=
 ⟨hg.os,hg.tape,hg.output,hg.size,fun k hk=>hg.block k (by omega) (fun e=>by have:=hr k e.symm;omega)⟩
theorem onePr (k v:ByteArray):∀ u∈[Value.string k,.string v],u.oneCell'=true:=by
 intro u hu
 simp only [List.mem_cons,List.not_mem_nil,or_false] at hu
 rcases hu with rfl | rfl<;>rfl
theorem prcells_snocA (o:List Pr) (c:Pr):prcells (o++[c])=prcells o++[.string c.1,.string c.2]:=by rw [prcells_append];rfl
theorem row_atA {w:World} {A:Array Value} {t:TypeId} {g:Nat} (hg:w.heap.size=g):Row (w.alloc (.cells A t)) g A.toList:=by subst hg;exact row_new w A t
theorem undrewA {w w':World} {o:Obj} {r:Option Nat} (h:(w.drew.alloc o).grownBy w' r):(w.alloc o).grownBy w' r:=⟨h.os,h.tape,h.output,h.size,h.block⟩
theorem owns_span' {w w':World} {base:Nat} {e:TypeId} {s:Nat} {v:Value} {n:Nat} {xs:List Value} (h:w.ownsRow base e s v n xs) (hk:∀ b,base<=b->b<w.heap.size->w'.heap[b]?=w.heap[b]?):w'.ownsRow base e s v n xs:=by
 refine ⟨h.1,?_⟩
 rcases h.2 with hn | ⟨g,cap,cur,rfl,hb,hgg,rest⟩
 ·exact .inl hn
 ·exact .inr ⟨g,cap,cur,rfl,hb,(hk g hb (Array.getElem?_eq_some_iff.1 hgg).1).trans hgg,rest⟩
theorem takeA_snoc {α:Type} (l:List α) (k:Nat) (d:α) (h:k<l.length):l.take (k+1)=l.take k++[l.getD k d]:=by
 rw [List.take_succ_eq_append_getElem h]
 simp [List.getD,h]
structure OutX (w wb wr:World) (v:Value) (o:List Pr):Prop where
 row:Row wr (w.heap.size+1+1+1) [v]
 own:wr.ownsRow (w.heap.size+1+1+1+1) 145 2 v o.length (prcells o)
 bel:Below (w.heap.size+1+1+1) wb wr
theorem OutX.below {w wb wr w':World} {v:Value} {o:List Pr} (h:OutX w wb wr v o) (hb:Below wr.heap.size wr w'):OutX w wb w' v o:=⟨h.row.below hb,owns_below h.own hb,h.bel.trans (hb.mono (by have:=h.row.lt;omega))⟩
theorem OutX.sl {w wb wr:World} {v:Value} {o:List Pr} (h:OutX w wb wr v o):∃ va vc,v=Value.slice va o.length vc:=by
 rcases owns_forms h.own with ⟨e1,e2⟩ | ⟨g,cap,e1,_⟩
 ·exact ⟨none,0,by rw [e1,e2]⟩
 ·exact ⟨_,cap,e1⟩
theorem OutX.push {w wb wr w9:World} {va:Option Addr} {vc g9 cap9:Nat} {out:List Pr} {x:Pr} {o:Obj} (h:OutX w wb wr (.slice va out.length vc) out)
  (hown:w9.ownsRow (w.heap.size+1+1+1+1) 145 2 (.slice (some ⟨g9,0,none⟩) (out.length+1) cap9) (out.length+1) (prcells out++[.string x.1,.string x.2])) (hg:(wr.alloc o).grownBy w9 (Value.slice va out.length vc).ownBlock) :
  Row w9 (w.heap.size+1+1+1) [.slice va out.length vc]/\OutX w wb (w9.setCell ⟨w.heap.size+1+1+1,0,none⟩ (.slice (some ⟨g9,0,none⟩) (out.length+1) cap9)) (.slice (some ⟨g9,0,none⟩) (out.length+1) cap9) (out++[x])/\Below (w.heap.size+1+1+1) wb w9:=by
 have hlt:=h.row.lt
 have hr:Row w9 (w.heap.size+1+1+1) [.slice va out.length vc]:=(h.row.alloc o).grown hg (fun e=>by have:=(h.own.lt _ e.symm).1;omega)
 have hB9:Below (w.heap.size+1+1+1) wb w9:=h.bel.trans (below_of_grown (w:=wr) ⟨hg.os,hg.tape,hg.output,Nat.le_trans (by simp) hg.size,fun k hk hne=>(hg.block k (by simp;omega) hne).trans (((Below.refl wr.heap.size wr).alloc (Nat.le_refl _) o).block k hk)⟩ (by omega) (fun k hk=>by have:=(h.own.lt k hk).1;omega))
 have hg9:=(hown.lt g9 rfl).1
 refine ⟨hr,⟨hr.set 0 (by simp) _,?_,hB9.setCell (p:=⟨w.heap.size+1+1+1,0,none⟩) (Nat.le_refl _) _⟩,hB9⟩
 have hgs:w9.grownBy (w9.setCell ⟨w.heap.size+1+1+1,0,none⟩ (.slice (some ⟨g9,0,none⟩) (out.length+1) cap9)) (some (w.heap.size+1+1+1)):=⟨rfl,rfl,rfl,by simp [World.setCell],fun k _ hk=>Below.heap_setCell _ _ _ k (fun e=>hk (by rw [e]))⟩
 have:=hown.kept hgs (.inr (by simp [Value.ownBlock];omega))
 rw [List.length_append,prcells_snocA]
 exact this
theorem cp_of {w wb wr w':World} {va:Option Addr} {vc:Nat} {out:List Pr} (h:OutX w wb wr (.slice va out.length vc) out) (hb:Below w.heap.size wr w') (hk:∀ k,w.heap.size+1+1+1+1<=k->w'.heap[k]?=wr.heap[k]?) (hwb:Below w.heap.size w wb) (hs:w.heap.size+1+1+1+1<=wb.heap.size):CpPost w w' (.returned (stV va out.length vc)) out:=by
 have hcap:out.length<=vc:=by
  rcases h.own.2 with ⟨e1,e2⟩ | ⟨g,cap,cur,e1,_,_,h3,_⟩
  ·rw [e2];omega
  ·cases e1;exact h3
 have ho:=owns_span' h.own (fun b h1 _=>hk b h1)
 refine ⟨va,vc,rfl,hcap,?_,fun g hg=>?_,hwb.trans ((h.bel.mono (by omega)).trans hb)⟩
 ·rcases owns_forms ho with ⟨_,e2⟩ | ⟨g,cap,e1,_,_,e4⟩
  ·exact .inl (by rw [List.eq_nil_of_length_eq_zero e2];rfl)
  ·cases e1;exact .inr ⟨g,rfl,e4⟩
 ·unfold blk at hg
  split at hg
  ·cases hg
  ·cases va with
   | none=>cases hg
   | some ad =>
    simp at hg
    subst hg
    have:=(h.own.lt ad.block rfl).1
    omega
theorem change_s (a:Option Addr) (rs:List Pr) (c:Nat) (key val:ByteArray) (gone:Bool) (w:World) (h:Prs w a rs) (hl:rs.length<=100000) :
  Calls Try.prog 70 #[stV a rs.length c,.agg #[.string key,.string val,.bool gone]] w fun e w'=>CpPost w w' e (chF (key,val,gone) rs):=by
 obtain ⟨i0,hi0,hz0,hz1,hz2⟩:=info_partsP info_prC
 have HI:=hid (And.intro hi0 (And.intro hz0 (And.intro hz1 hz2)))
 clear hi0 hz0 hz1 hz2
 unfold stV
 obtain ⟨wb,HWB⟩:∃ wb,wb=(((w.alloc (.cells #[.slice a rs.length c] 77)).alloc (.cells #[.string key,.string val,.bool gone] 101)).alloc (.cells #[.slice none 0 0] 77)).alloc (.cells #[.slice none 0 0] 77):=⟨_,rfl⟩
 have hwbs:wb.heap.size=w.heap.size+1+1+1+1:=by rw [HWB];simp
 have HBB:Hid (Below w.heap.size w wb):=by show Below _ _ _;rw [HWB];exact ((((Below.refl _ _).alloc (Nat.le_refl _) _).alloc (by simp) _).alloc (by simp<;>omega) _).alloc (by simp<;>omega) _
 have HRW:Hid (∀ w',Below (w.heap.size+1+1+1) wb w'->Row w' (w.heap.size) [.slice a rs.length c]/\Row w' (w.heap.size+1) [.string key,.string val,.bool gone]/\Row w' (w.heap.size+1+1) [.slice none 0 0]):=fun w' hb=>by
  have r0:Row wb (w.heap.size) [.slice a rs.length c]:=by rw [HWB];exact (((row_new w _ _).alloc _).alloc _).alloc _
  have r1:Row wb (w.heap.size+1) [.string key,.string val,.bool gone]:=by rw [HWB];exact ((row_atA (w:=w.alloc _) (by simp)).alloc _).alloc _
  have r2:Row wb (w.heap.size+1+1) [.slice none 0 0]:=by rw [HWB];exact (row_atA (w:=(w.alloc _).alloc _) (by simp)).alloc _
  have key:∀ {g:Nat} {cs:List Value},g<w.heap.size+1+1+1->Row wb g cs->Row w' g cs:=fun hg r=>⟨Nat.lt_of_lt_of_le r.lt hb.size,fun i v hv=>(hb.cell (p:=⟨_,i,none⟩) hg).trans (r.cell i v hv),fun i hi=>(hb.frozen (p:=⟨_,i,none⟩) hg).trans (r.froz i hi)⟩
  exact ⟨key (by omega) r0,key (by omega) r1,key (by omega) r2⟩
 have hrow3:Row wb (w.heap.size+1+1+1) [.slice none 0 0]:=by rw [HWB];exact row_atA (w:=((w.alloc _).alloc _).alloc _) (by simp)
 have HOW:Hid (Row wb (w.heap.size+1+1+1) [.slice none 0 0]):=hrow3
 clear hrow3
 go_enter Try.func70,Try.ntmps70
 go_wp2_with fail
 rw [<-HWB]
 clear HWB
 go_loopw [6,7] (fun d i wr=>∃ k:Nat,k<=rs.length/\i=.int .i64 (k:Int)/\d=.bool (chW (key,val,gone) (rs.take k)).1/\∃ y,OutX w wb wr y (chW (key,val,gone) (rs.take k)).2) (fun _ i _=>rs.length-(intOf i).toNat)
 case atStart=>exact ⟨0,Nat.zero_le _,rfl,by simp [chW],.slice none 0 0,⟨HOW.out,World.ownsRow_nil _ _ _ _,Below.refl _ _⟩⟩
 case round =>
  obtain ⟨k,hk,rfl,rfl,y,hx⟩:=hrel
  obtain ⟨out,hout⟩:∃ out,out=(chW (key,val,gone) (rs.take k)).2:=⟨_,rfl⟩
  obtain ⟨d,hd⟩:∃ d,d=(chW (key,val,gone) (rs.take k)).1:=⟨_,rfl⟩
  have hst:chW (key,val,gone) (rs.take k)=(d,out):=by rw [hd,hout]
  rw [<-hout] at hx
  rw [<-hd]
  have holen:out.length<=100001:=by
   have:=(chW_len (key,val,gone) (rs.take k) _ rfl).1
   rw [<-hout,List.length_take] at this
   split at this<;>omega
  clear hout hd
  obtain ⟨va,vc,rfl⟩:=hx.sl
  obtain ⟨hR0,hR1,hR2⟩:=HRW.out _ hx.bel
  have q0:=hR0.cell 0 _ rfl
  have q10:=hR1.cell 0 _ rfl
  have q11:=hR1.cell 1 _ rfl
  have q3:=hx.row.cell 0 _ rfl
  have r3:=hx.row.froz 0 (by simp)
  have l3:=hx.row.lt
  have hbw:Below w.heap.size w wr:=HBB.out.trans (hx.bel.mono (by omega))
  have HX:=hid hx
  clear hx
  by_cases hlt:k<rs.length
  ·obtain ⟨b,o,s0,s1,rfl,hc0,hc1,HS⟩:=(h.below hbw).at hlt
   have hlb:b<w.heap.size:=by
    rcases h with h | ⟨b',o',h1,h2,_⟩
    ·subst h;simp at hlt
    ·cases h1;exact h2
   have hlt':(k:Int)<(rs.length:Int):=by omega
   have hk0:(0:Int)<=(k:Int):=by omega
   have hstep:chW (key,val,gone) (rs.take (k+1))=stepC key val (d,out) (s0,s1):=by rw [takeA_snoc rs k (ByteArray.empty,ByteArray.empty) hlt,chW_snoc,<-HS.out,hst]
   have HSTEP:=hid hstep
   clear hstep hst HS hR0 hR1 hR2
   have HCS:Hid (∀ w',Below (w.heap.size+1+1+1) wr w'->w'.cell? ⟨w.heap.size,0,none⟩=some (.slice (some ⟨b,o,none⟩) rs.length c)/\w'.cell? ⟨b,o+k*2,none⟩=some (.string s0)/\w'.cell? ⟨b,o+k*2+1,none⟩=some (.string s1)/\w'.cell? ⟨w.heap.size+1,0,none⟩=some (.string key)/\w'.cell? ⟨w.heap.size+1,1,none⟩=some (.string val)):=fun w' hb=>⟨(hb.cell (p:=⟨w.heap.size,0,none⟩) (by show w.heap.size<_;omega)).trans q0,(hb.cell (p:=⟨b,o+k*2,none⟩) (by show b<_;omega)).trans hc0,(hb.cell (p:=⟨b,o+k*2+1,none⟩) (by show b<_;omega)).trans hc1,(hb.cell (p:=⟨w.heap.size+1,0,none⟩) (by show w.heap.size+1<_;omega)).trans q10,(hb.cell (p:=⟨w.heap.size+1,1,none⟩) (by show w.heap.size+1<_;omega)).trans q11⟩
   have HPB:Hid (∀ w',Below w.heap.size w w'->w'.cell? ⟨b,o+k*2,none⟩=some (.string s0)/\w'.cell? ⟨b,o+k*2+1,none⟩=some (.string s1)):=fun w' hb=>⟨(hb.cell (p:=⟨b,o+k*2,none⟩) hlb).trans ((hbw.cell (p:=⟨b,o+k*2,none⟩) hlb).symm.trans hc0),(hb.cell (p:=⟨b,o+k*2+1,none⟩) hlb).trans ((hbw.cell (p:=⟨b,o+k*2+1,none⟩) hlb).symm.trans hc1)⟩
   cases d with
   | true =>
    go_wp2_with fail
    refine wp_region_held_drew (S:=fun w'=>w'.cell? ⟨w.heap.size,0,none⟩=some (.slice (some ⟨b,o,none⟩) rs.length c)/\w'.cell? ⟨b,o+k*2,none⟩=some (.string s0)/\w'.cell? ⟨b,o+k*2+1,none⟩=some (.string s1)/\w'.cell? ⟨w.heap.size+1,0,none⟩=some (.string key)/\w'.cell? ⟨w.heap.size+1,1,none⟩=some (.string val)) (by kernel_rfl) (HCS.out _ (Below.refl _ _).drew) (fun hHe=>?_)
    refine TY 0 (.bool true) rfl hHe ?_
    simp only [PS]
    refine TY 1 (.bool false) rfl hHe ?_
    simp only [PS]
    refine TY 2 (.bool false) rfl hHe ?_
    simp only [PS]
    refine TK 3 (undef) rfl (Or.inr ⟨by kernel_rfl,rfl⟩) hHe ?_
    simp only [PS]
    refine TK 4 (undef) rfl (Or.inr ⟨by kernel_rfl,rfl⟩) hHe ?_
    simp only [PS]
    refine TK 5 (undef) rfl (Or.inr ⟨by kernel_rfl,rfl⟩) hHe ?_
    simp only [PS]
    refine TK 6 (undef) rfl (Or.inr ⟨by kernel_rfl,rfl⟩) hHe ?_
    simp only [PS]
    refine TK 7 (undef) rfl (Or.inr ⟨by kernel_rfl,rfl⟩) hHe ?_
    simp only [PS]
    refine TK 8 (undef) rfl (Or.inr ⟨by kernel_rfl,rfl⟩) hHe ?_
    simp only [PS]
    refine TK 9 (undef) rfl (Or.inr ⟨by kernel_rfl,rfl⟩) hHe ?_
    simp only [PS]
    refine TK 10 (undef) rfl (Or.inr ⟨by kernel_rfl,rfl⟩) hHe ?_
    simp only [PS]
    refine TK 11 (undef) rfl (Or.inr ⟨by kernel_rfl,rfl⟩) hHe ?_
    simp only [PS]
    refine TY 12 (.bool false) rfl hHe ?_
    simp only [PS]
    refine DN ?_
    obtain ⟨wd0,hwd0⟩:∃ wd0,wd0=wr.drew:=⟨_,rfl⟩
    have hbd0:Below wr.heap.size wr wd0:=by rw [hwd0];exact (Below.refl _ _).drew
    rw [<-hwd0]
    have HX0:=HX
    have HCS0:=HCS
    have hbw0:Below w.heap.size w wd0:=hbw.trans (hbd0.mono hbw.size)
    have HXz:=hid (HX0.out.below hbd0)
    have HCSz:Hid (∀ w',Below (w.heap.size+1+1+1) wd0 w'->w'.cell? ⟨w.heap.size,0,none⟩=some (.slice (some ⟨b,o,none⟩) rs.length c)/\w'.cell? ⟨b,o+k*2,none⟩=some (.string s0)/\w'.cell? ⟨b,o+k*2+1,none⟩=some (.string s1)/\w'.cell? ⟨w.heap.size+1,0,none⟩=some (.string key)/\w'.cell? ⟨w.heap.size+1,1,none⟩=some (.string val)):=fun w' hb=>HCS0.out w' ((hbd0.mono (Nat.le_of_lt l3)).trans hb)
    clear hwd0 HX HCS hbw q0 q10 q11 q3 r3 l3 hc0 hc1 HX0 HCS0 hbd0 hHe
    generalize wd0=wr at *
    have HX:=HXz
    have HCS:=HCSz
    clear HXz HCSz
    have q3:=HX.out.row.cell 0 _ rfl
    have r3:=HX.out.row.froz 0 (by simp)
    have l3:=HX.out.row.lt
    have q10:=(HCS.out _ (Below.refl _ _)).2.2.2.1
    have q11:=(HCS.out _ (Below.refl _ _)).2.2.2.2
    go_wp2_with fail
    by_cases he:s0=key
    ·have HE:=hid he
     clear he
     have he2:(s0.toList == key.toList)=true:=by rw [HE.out];simp
     refine wp_region_held_drew (S:=fun w'=>w'.cell? ⟨w.heap.size,0,none⟩=some (.slice (some ⟨b,o,none⟩) rs.length c)/\w'.cell? ⟨b,o+k*2,none⟩=some (.string s0)/\w'.cell? ⟨b,o+k*2+1,none⟩=some (.string s1)/\w'.cell? ⟨w.heap.size+1,0,none⟩=some (.string key)/\w'.cell? ⟨w.heap.size+1,1,none⟩=some (.string val)) (by kernel_rfl) (HCS.out _ (Below.refl _ _).drew) (fun hHe=>?_)
     refine TY 0 (.pointer (some ⟨w.heap.size,0,none⟩)) rfl hHe ?_
     simp only [PS]
     refine TY 1 (.slice (some ⟨b,o,none⟩) rs.length c) rfl hHe ?_
     simp only [PS]
     refine TY 2 (.int .i64 (k:Int)) rfl hHe ?_
     simp only [PS]
     refine TY 3 (.pointer (some ⟨b,o+k*2,none⟩)) rfl hHe ?_
     simp only [PS]
     refine TY 4 (.pointer (some ⟨b,o+k*2,none⟩)) rfl hHe ?_
     simp only [PS]
     refine TY 5 (.string s0) rfl hHe ?_
     simp only [PS]
     refine TY 6 (.pointer (some ⟨w.heap.size+1,0,none⟩)) rfl hHe ?_
     simp only [PS]
     refine TY 7 (.string key) rfl hHe ?_
     simp only [PS]
     refine TY 8 (.bool false) rfl hHe ?_
     simp only [PS]
     refine DN ?_
     go_wp2
     have he:=HE.out
     refine ⟨⟨k+1,by omega,by go_num,by rw [HSTEP.out];simp [stepC,he],.slice va out.length vc,?_⟩,by simp [intOf];omega⟩
     have hfe:(chW (key,val,gone) (rs.take (k+1))).2=out:=by rw [HSTEP.out];simp [stepC,he]
     rw [hfe]
     exact HX.out.below (Below.refl _ _).drew
    ·have HE:=hid he
     clear he
     have he2:(s0.toList == key.toList)=false:=by rw [beq_eq_false_iff_ne];intro hh;rw [ByteArray.toList_eq,ByteArray.toList_eq] at hh;exact HE.out (ByteArray.ext (Array.ext' hh))
     refine wp_region_held_drew (S:=fun w'=>w'.cell? ⟨w.heap.size,0,none⟩=some (.slice (some ⟨b,o,none⟩) rs.length c)/\w'.cell? ⟨b,o+k*2,none⟩=some (.string s0)/\w'.cell? ⟨b,o+k*2+1,none⟩=some (.string s1)/\w'.cell? ⟨w.heap.size+1,0,none⟩=some (.string key)/\w'.cell? ⟨w.heap.size+1,1,none⟩=some (.string val)) (by kernel_rfl) (HCS.out _ (Below.refl _ _).drew) (fun hHe=>?_)
     refine TY 0 (.pointer (some ⟨w.heap.size,0,none⟩)) rfl hHe ?_
     simp only [PS]
     refine TY 1 (.slice (some ⟨b,o,none⟩) rs.length c) rfl hHe ?_
     simp only [PS]
     refine TY 2 (.int .i64 (k:Int)) rfl hHe ?_
     simp only [PS]
     refine TY 3 (.pointer (some ⟨b,o+k*2,none⟩)) rfl hHe ?_
     simp only [PS]
     refine TY 4 (.pointer (some ⟨b,o+k*2,none⟩)) rfl hHe ?_
     simp only [PS]
     refine TY 5 (.string s0) rfl hHe ?_
     simp only [PS]
     refine TY 6 (.pointer (some ⟨w.heap.size+1,0,none⟩)) rfl hHe ?_
     simp only [PS]
     refine TY 7 (.string key) rfl hHe ?_
     simp only [PS]
     refine TY 8 (.bool true) rfl hHe ?_
     simp only [PS]
     refine DN ?_
     obtain ⟨wd,hwd⟩:∃ wd,wd=wr.drew:=⟨_,rfl⟩
     have hbd:Below wr.heap.size wr wd:=by rw [hwd];exact (Below.refl _ _).drew
     rw [<-hwd]
     clear hwd
     have HXd:=hid (HX.out.below hbd)
     have qd:=HXd.out.row.cell 0 _ rfl
     have rd:=HXd.out.row.froz 0 (by simp)
     have ld:=HXd.out.row.lt
     have HCSd:Hid (∀ w',Below (w.heap.size+1+1+1) wd w'->w'.cell? ⟨w.heap.size,0,none⟩=some (.slice (some ⟨b,o,none⟩) rs.length c)/\w'.cell? ⟨b,o+k*2,none⟩=some (.string s0)/\w'.cell? ⟨b,o+k*2+1,none⟩=some (.string s1)/\w'.cell? ⟨w.heap.size+1,0,none⟩=some (.string key)/\w'.cell? ⟨w.heap.size+1,1,none⟩=some (.string val)):=fun w' hb=>HCS.out w' ((hbd.mono (Nat.le_of_lt l3)).trans hb)
     clear hHe
     go_wp2_with fail
     refine wp_region_held_drew (S:=fun w'=>w'.cell? ⟨w.heap.size,0,none⟩=some (.slice (some ⟨b,o,none⟩) rs.length c)/\w'.cell? ⟨b,o+k*2,none⟩=some (.string s0)/\w'.cell? ⟨b,o+k*2+1,none⟩=some (.string s1)/\w'.cell? ⟨w.heap.size+1,0,none⟩=some (.string key)/\w'.cell? ⟨w.heap.size+1,1,none⟩=some (.string val)) (by kernel_rfl) (HCSd.out _ (Below.refl _ _).drew) (fun hHe=>?_)
     refine TY 0 (.pointer (some ⟨w.heap.size+1+1+1,0,none⟩)) rfl hHe ?_
     simp only [PS]
     refine TY 2 (.pointer (some ⟨w.heap.size,0,none⟩)) rfl hHe ?_
     simp only [PS]
     refine TY 3 (.slice (some ⟨b,o,none⟩) rs.length c) rfl hHe ?_
     simp only [PS]
     refine TY 4 (.int .i64 (k:Int)) rfl hHe ?_
     simp only [PS]
     refine TY 5 (.pointer (some ⟨b,o+k*2,none⟩)) rfl hHe ?_
     simp only [PS]
     refine TY 6 (.agg #[.string s0,.string s1]) rfl hHe ?_
     simp only [PS]
     refine wpAnyH_ready (rs:=[1,7]) (by kernel_rfl) (by simp) ?_
     refine AllReadyH.cons rfl (fun K hK=>?_) (AllReadyH.cons rfl (fun K hK=>?_) AllReadyH.nil)
     ·go_simp
      refine hK.out _ _ hHe (fun _=>?_)
      clear hK K
      try simp only [PS]
      refine RD 7 rfl (fun K hK=>?_)
      go_simp
      refine hK.out _ _ (HCSd.out _ ((Below.refl _ _).drew.alloc (Nat.le_of_lt ld) _)) (fun hHd2=>?_)
      clear hK K
      try simp only [PS]
      refine RD 8 rfl (fun K hK=>?_)
      refine step_append_lies _ (by rfl) _ _ _ (by rfl) (w.heap.size+1+1+1+1) 145 i0 (.agg #[.string ByteArray.empty,.string ByteArray.empty]) 2 32 Try.underlying75 HI.out.1 HI.out.2.1 HI.out.2.2.1 HI.out.2.2.2 rfl (by omega) (.slice va out.length vc) out.length _ (by rfl) (owns_below HXd.out.own ((Below.refl _ _).drew.alloc (Nat.le_refl _) _)) ⟨wd.heap.size,0,none⟩ 1 1 [.string s0,.string s1] (by rfl) rfl (World.news_of_block (heap_alloc_new wd.drew _)) (onePr _ _) (by omega) (by unfold maxLen;(try simp)<;>omega) (by (try simp)<;>omega) (by (try simp)<;>omega) (wd.heap.size+1) (by simp) ?_
      intro g9 cap9 w9 hown9 hgrow9 hat9 hlt9
      have hpu:=OutX.push (x:=(s0,s1)) HXd.out hown9 (undrewA hgrow9)
      have q9:=hpu.1.cell 0 _ rfl
      have r9:=hpu.1.froz 0 (by simp)
      have l9:=hpu.1.lt
      have HP9:=hid hpu
      have hb9:Below (w.heap.size+1+1+1) wd w9:=below_of_grown ⟨hgrow9.os,hgrow9.tape,hgrow9.output,Nat.le_trans (by simp) hgrow9.size,fun k hk hne=>(hgrow9.block k (by simp;omega) hne).trans (((Below.refl wd.heap.size wd).drew.alloc (Nat.le_refl _) _).block k hk)⟩ (Nat.le_of_lt ld) (fun k hk=>by have:=(HXd.out.own.lt k hk).1;omega)
      clear hown9 hgrow9 hat9 hpu
      refine hK.out _ _ (HCSd.out _ hb9) (fun hHd3=>?_)
      clear hK K
      try simp only [PS]
      refine TY 9 (.pointer (some ⟨w.heap.size+1+1+1,0,none⟩)) rfl hHd3 ?_
      simp only [PS]
      refine RD 10 rfl (fun K hK=>?_)
      go_simp
      refine hK.out _ _ (HCSd.out _ (hb9.setCell (p:=⟨w.heap.size+1+1+1,0,none⟩) (Nat.le_refl _) _)) (fun hHd4=>?_)
      clear hK K
      try simp only [PS]
      refine DN ?_
      go_wp2
      have he:=HE.out
      refine ⟨⟨k+1,by omega,by go_num,by rw [HSTEP.out];simp [stepC,he],.slice (some ⟨g9,0,none⟩) (out.length+1) cap9,?_⟩,by simp [intOf];omega⟩
      have hfe:(chW (key,val,gone) (rs.take (k+1))).2=out++[(s0,s1)]:=by rw [HSTEP.out];simp [stepC,he]
      rw [hfe]
      simpa only [List.length_append,List.length_singleton] using HP9.out.2.1
     ·go_simp
      refine hK.out _ _ (HCSd.out _ ((Below.refl _ _).drew.alloc (Nat.le_of_lt ld) _)) (fun hHd5=>?_)
      clear hK K
      try simp only [PS]
      refine RD 1 rfl (fun K hK=>?_)
      go_simp
      refine hK.out _ _ hHd5 (fun _=>?_)
      clear hK K
      try simp only [PS]
      refine RD 8 rfl (fun K hK=>?_)
      refine step_append_lies _ (by rfl) _ _ _ (by rfl) (w.heap.size+1+1+1+1) 145 i0 (.agg #[.string ByteArray.empty,.string ByteArray.empty]) 2 32 Try.underlying75 HI.out.1 HI.out.2.1 HI.out.2.2.1 HI.out.2.2.2 rfl (by omega) (.slice va out.length vc) out.length _ (by rfl) (owns_below HXd.out.own ((Below.refl _ _).drew.alloc (Nat.le_refl _) _)) ⟨wd.heap.size,0,none⟩ 1 1 [.string s0,.string s1] (by rfl) rfl (World.news_of_block (heap_alloc_new wd.drew _)) (onePr _ _) (by omega) (by unfold maxLen;(try simp)<;>omega) (by (try simp)<;>omega) (by (try simp)<;>omega) (wd.heap.size+1) (by simp) ?_
      intro g9 cap9 w9 hown9 hgrow9 hat9 hlt9
      have hpu:=OutX.push (x:=(s0,s1)) HXd.out hown9 (undrewA hgrow9)
      have q9:=hpu.1.cell 0 _ rfl
      have r9:=hpu.1.froz 0 (by simp)
      have l9:=hpu.1.lt
      have HP9:=hid hpu
      have hb9:Below (w.heap.size+1+1+1) wd w9:=below_of_grown ⟨hgrow9.os,hgrow9.tape,hgrow9.output,Nat.le_trans (by simp) hgrow9.size,fun k hk hne=>(hgrow9.block k (by simp;omega) hne).trans (((Below.refl wd.heap.size wd).drew.alloc (Nat.le_refl _) _).block k hk)⟩ (Nat.le_of_lt ld) (fun k hk=>by have:=(HXd.out.own.lt k hk).1;omega)
      clear hown9 hgrow9 hat9 hpu
      refine hK.out _ _ (HCSd.out _ hb9) (fun hHd7=>?_)
      clear hK K
      try simp only [PS]
      refine TY 9 (.pointer (some ⟨w.heap.size+1+1+1,0,none⟩)) rfl hHd7 ?_
      simp only [PS]
      refine RD 10 rfl (fun K hK=>?_)
      go_simp
      refine hK.out _ _ (HCSd.out _ (hb9.setCell (p:=⟨w.heap.size+1+1+1,0,none⟩) (Nat.le_refl _) _)) (fun hHd8=>?_)
      clear hK K
      try simp only [PS]
      refine DN ?_
      go_wp2
      have he:=HE.out
      refine ⟨⟨k+1,by omega,by go_num,by rw [HSTEP.out];simp [stepC,he],.slice (some ⟨g9,0,none⟩) (out.length+1) cap9,?_⟩,by simp [intOf];omega⟩
      have hfe:(chW (key,val,gone) (rs.take (k+1))).2=out++[(s0,s1)]:=by rw [HSTEP.out];simp [stepC,he]
      rw [hfe]
      simpa only [List.length_append,List.length_singleton] using HP9.out.2.1
   | false =>
    rcases Int.lt_trichotomy (cmpB s0 key) 0 with hcm | hcm | hcm
    ·have HDK:Hid (klt key s0=false):=klt_no hcm
     have HE:Hid (¬ s0=key):=fun e=>by rw [e,cmpB_self] at hcm;omega
     have hb1:Op.bytesLess s0.toList key.toList=true:=(cmpB_lt _ _).1 hcm
     go_wp2_with fail
     refine wp_region_held_drew (S:=fun w'=>w'.cell? ⟨w.heap.size,0,none⟩=some (.slice (some ⟨b,o,none⟩) rs.length c)/\w'.cell? ⟨b,o+k*2,none⟩=some (.string s0)/\w'.cell? ⟨b,o+k*2+1,none⟩=some (.string s1)/\w'.cell? ⟨w.heap.size+1,0,none⟩=some (.string key)/\w'.cell? ⟨w.heap.size+1,1,none⟩=some (.string val)) (by kernel_rfl) (HCS.out _ (Below.refl _ _).drew) (fun hHe=>?_)
     refine TY 0 (.bool false) rfl hHe ?_
     simp only [PS]
     refine TY 1 (.bool true) rfl hHe ?_
     simp only [PS]
     refine TY 2 (.bool true) rfl hHe ?_
     simp only [PS]
     refine TY 3 (.pointer (some ⟨w.heap.size,0,none⟩)) rfl hHe ?_
     simp only [PS]
     refine TY 4 (.slice (some ⟨b,o,none⟩) rs.length c) rfl hHe ?_
     simp only [PS]
     refine TY 5 (.int .i64 (k:Int)) rfl hHe ?_
     simp only [PS]
     refine TY 6 (.pointer (some ⟨b,o+k*2,none⟩)) rfl hHe ?_
     simp only [PS]
     refine TY 7 (.pointer (some ⟨b,o+k*2,none⟩)) rfl hHe ?_
     simp only [PS]
     refine TY 8 (.string s0) rfl hHe ?_
     simp only [PS]
     refine TY 9 (.pointer (some ⟨w.heap.size+1,0,none⟩)) rfl hHe ?_
     simp only [PS]
     refine TY 10 (.string key) rfl hHe ?_
     simp only [PS]
     refine TY 11 (.bool false) rfl hHe ?_
     simp only [PS]
     refine TY 12 (.bool false) rfl hHe ?_
     simp only [PS]
     refine DN ?_
     obtain ⟨wd0,hwd0⟩:∃ wd0,wd0=wr.drew:=⟨_,rfl⟩
     have hbd0:Below wr.heap.size wr wd0:=by rw [hwd0];exact (Below.refl _ _).drew
     rw [<-hwd0]
     have HX0:=HX
     have HCS0:=HCS
     have hbw0:Below w.heap.size w wd0:=hbw.trans (hbd0.mono hbw.size)
     have HXz:=hid (HX0.out.below hbd0)
     have HCSz:Hid (∀ w',Below (w.heap.size+1+1+1) wd0 w'->w'.cell? ⟨w.heap.size,0,none⟩=some (.slice (some ⟨b,o,none⟩) rs.length c)/\w'.cell? ⟨b,o+k*2,none⟩=some (.string s0)/\w'.cell? ⟨b,o+k*2+1,none⟩=some (.string s1)/\w'.cell? ⟨w.heap.size+1,0,none⟩=some (.string key)/\w'.cell? ⟨w.heap.size+1,1,none⟩=some (.string val)):=fun w' hb=>HCS0.out w' ((hbd0.mono (Nat.le_of_lt l3)).trans hb)
     clear hwd0 HX HCS hbw q0 q10 q11 q3 r3 l3 hc0 hc1 HX0 HCS0 hbd0 hHe
     generalize wd0=wr at *
     have HX:=HXz
     have HCS:=HCSz
     clear HXz HCSz
     have q3:=HX.out.row.cell 0 _ rfl
     have r3:=HX.out.row.froz 0 (by simp)
     have l3:=HX.out.row.lt
     have q10:=(HCS.out _ (Below.refl _ _)).2.2.2.1
     have q11:=(HCS.out _ (Below.refl _ _)).2.2.2.2
     go_wp2_with fail
     have he2:(s0.toList == key.toList)=false:=by rw [beq_eq_false_iff_ne];intro hh;rw [ByteArray.toList_eq,ByteArray.toList_eq] at hh;exact HE.out (ByteArray.ext (Array.ext' hh))
     refine wp_region_held_drew (S:=fun w'=>w'.cell? ⟨w.heap.size,0,none⟩=some (.slice (some ⟨b,o,none⟩) rs.length c)/\w'.cell? ⟨b,o+k*2,none⟩=some (.string s0)/\w'.cell? ⟨b,o+k*2+1,none⟩=some (.string s1)/\w'.cell? ⟨w.heap.size+1,0,none⟩=some (.string key)/\w'.cell? ⟨w.heap.size+1,1,none⟩=some (.string val)) (by kernel_rfl) (HCS.out _ (Below.refl _ _).drew) (fun hHe=>?_)
     refine TY 0 (.pointer (some ⟨w.heap.size,0,none⟩)) rfl hHe ?_
     simp only [PS]
     refine TY 1 (.slice (some ⟨b,o,none⟩) rs.length c) rfl hHe ?_
     simp only [PS]
     refine TY 2 (.int .i64 (k:Int)) rfl hHe ?_
     simp only [PS]
     refine TY 3 (.pointer (some ⟨b,o+k*2,none⟩)) rfl hHe ?_
     simp only [PS]
     refine TY 4 (.pointer (some ⟨b,o+k*2,none⟩)) rfl hHe ?_
     simp only [PS]
     refine TY 5 (.string s0) rfl hHe ?_
     simp only [PS]
     refine TY 6 (.pointer (some ⟨w.heap.size+1,0,none⟩)) rfl hHe ?_
     simp only [PS]
     refine TY 7 (.string key) rfl hHe ?_
     simp only [PS]
     refine TY 8 (.bool true) rfl hHe ?_
     simp only [PS]
     refine DN ?_
     obtain ⟨wd,hwd⟩:∃ wd,wd=wr.drew:=⟨_,rfl⟩
     have hbd:Below wr.heap.size wr wd:=by rw [hwd];exact (Below.refl _ _).drew
     rw [<-hwd]
     clear hwd
     have HXd:=hid (HX.out.below hbd)
     have qd:=HXd.out.row.cell 0 _ rfl
     have rd:=HXd.out.row.froz 0 (by simp)
     have ld:=HXd.out.row.lt
     have HCSd:Hid (∀ w',Below (w.heap.size+1+1+1) wd w'->w'.cell? ⟨w.heap.size,0,none⟩=some (.slice (some ⟨b,o,none⟩) rs.length c)/\w'.cell? ⟨b,o+k*2,none⟩=some (.string s0)/\w'.cell? ⟨b,o+k*2+1,none⟩=some (.string s1)/\w'.cell? ⟨w.heap.size+1,0,none⟩=some (.string key)/\w'.cell? ⟨w.heap.size+1,1,none⟩=some (.string val)):=fun w' hb=>HCS.out w' ((hbd.mono (Nat.le_of_lt l3)).trans hb)
     clear hHe
     go_wp2_with fail
     refine wp_region_held_drew (S:=fun w'=>w'.cell? ⟨w.heap.size,0,none⟩=some (.slice (some ⟨b,o,none⟩) rs.length c)/\w'.cell? ⟨b,o+k*2,none⟩=some (.string s0)/\w'.cell? ⟨b,o+k*2+1,none⟩=some (.string s1)/\w'.cell? ⟨w.heap.size+1,0,none⟩=some (.string key)/\w'.cell? ⟨w.heap.size+1,1,none⟩=some (.string val)) (by kernel_rfl) (HCSd.out _ (Below.refl _ _).drew) (fun hHe=>?_)
     refine TY 0 (.pointer (some ⟨w.heap.size+1+1+1,0,none⟩)) rfl hHe ?_
     simp only [PS]
     refine TY 2 (.pointer (some ⟨w.heap.size,0,none⟩)) rfl hHe ?_
     simp only [PS]
     refine TY 3 (.slice (some ⟨b,o,none⟩) rs.length c) rfl hHe ?_
     simp only [PS]
     refine TY 4 (.int .i64 (k:Int)) rfl hHe ?_
     simp only [PS]
     refine TY 5 (.pointer (some ⟨b,o+k*2,none⟩)) rfl hHe ?_
     simp only [PS]
     refine TY 6 (.agg #[.string s0,.string s1]) rfl hHe ?_
     simp only [PS]
     refine wpAnyH_ready (rs:=[1,7]) (by kernel_rfl) (by simp) ?_
     refine AllReadyH.cons rfl (fun K hK=>?_) (AllReadyH.cons rfl (fun K hK=>?_) AllReadyH.nil)
     ·go_simp
      refine hK.out _ _ hHe (fun _=>?_)
      clear hK K
      try simp only [PS]
      refine RD 7 rfl (fun K hK=>?_)
      go_simp
      refine hK.out _ _ (HCSd.out _ ((Below.refl _ _).drew.alloc (Nat.le_of_lt ld) _)) (fun hHd2=>?_)
      clear hK K
      try simp only [PS]
      refine RD 8 rfl (fun K hK=>?_)
      refine step_append_lies _ (by rfl) _ _ _ (by rfl) (w.heap.size+1+1+1+1) 145 i0 (.agg #[.string ByteArray.empty,.string ByteArray.empty]) 2 32 Try.underlying75 HI.out.1 HI.out.2.1 HI.out.2.2.1 HI.out.2.2.2 rfl (by omega) (.slice va out.length vc) out.length _ (by rfl) (owns_below HXd.out.own ((Below.refl _ _).drew.alloc (Nat.le_refl _) _)) ⟨wd.heap.size,0,none⟩ 1 1 [.string s0,.string s1] (by rfl) rfl (World.news_of_block (heap_alloc_new wd.drew _)) (onePr _ _) (by omega) (by unfold maxLen;(try simp)<;>omega) (by (try simp)<;>omega) (by (try simp)<;>omega) (wd.heap.size+1) (by simp) ?_
      intro g9 cap9 w9 hown9 hgrow9 hat9 hlt9
      have hpu:=OutX.push (x:=(s0,s1)) HXd.out hown9 (undrewA hgrow9)
      have q9:=hpu.1.cell 0 _ rfl
      have r9:=hpu.1.froz 0 (by simp)
      have l9:=hpu.1.lt
      have HP9:=hid hpu
      have hb9:Below (w.heap.size+1+1+1) wd w9:=below_of_grown ⟨hgrow9.os,hgrow9.tape,hgrow9.output,Nat.le_trans (by simp) hgrow9.size,fun k hk hne=>(hgrow9.block k (by simp;omega) hne).trans (((Below.refl wd.heap.size wd).drew.alloc (Nat.le_refl _) _).block k hk)⟩ (Nat.le_of_lt ld) (fun k hk=>by have:=(HXd.out.own.lt k hk).1;omega)
      clear hown9 hgrow9 hat9 hpu
      refine hK.out _ _ (HCSd.out _ hb9) (fun hHd3=>?_)
      clear hK K
      try simp only [PS]
      refine TY 9 (.pointer (some ⟨w.heap.size+1+1+1,0,none⟩)) rfl hHd3 ?_
      simp only [PS]
      refine RD 10 rfl (fun K hK=>?_)
      go_simp
      refine hK.out _ _ (HCSd.out _ (hb9.setCell (p:=⟨w.heap.size+1+1+1,0,none⟩) (Nat.le_refl _) _)) (fun hHd4=>?_)
      clear hK K
      try simp only [PS]
      refine DN ?_
      go_wp2
      have he:=HE.out
      refine ⟨⟨k+1,by omega,by go_num,by rw [HSTEP.out];simp [stepC,he,HDK.out,klt_self],.slice (some ⟨g9,0,none⟩) (out.length+1) cap9,?_⟩,by simp [intOf];omega⟩
      have hfe:(chW (key,val,gone) (rs.take (k+1))).2=out++[(s0,s1)]:=by rw [HSTEP.out];simp [stepC,he,HDK.out,klt_self]
      rw [hfe]
      simpa only [List.length_append,List.length_singleton] using HP9.out.2.1
     ·go_simp
      refine hK.out _ _ (HCSd.out _ ((Below.refl _ _).drew.alloc (Nat.le_of_lt ld) _)) (fun hHd5=>?_)
      clear hK K
      try simp only [PS]
      refine RD 1 rfl (fun K hK=>?_)
      go_simp
      refine hK.out _ _ hHd5 (fun _=>?_)
      clear hK K
      try simp only [PS]
      refine RD 8 rfl (fun K hK=>?_)
      refine step_append_lies _ (by rfl) _ _ _ (by rfl) (w.heap.size+1+1+1+1) 145 i0 (.agg #[.string ByteArray.empty,.string ByteArray.empty]) 2 32 Try.underlying75 HI.out.1 HI.out.2.1 HI.out.2.2.1 HI.out.2.2.2 rfl (by omega) (.slice va out.length vc) out.length _ (by rfl) (owns_below HXd.out.own ((Below.refl _ _).drew.alloc (Nat.le_refl _) _)) ⟨wd.heap.size,0,none⟩ 1 1 [.string s0,.string s1] (by rfl) rfl (World.news_of_block (heap_alloc_new wd.drew _)) (onePr _ _) (by omega) (by unfold maxLen;(try simp)<;>omega) (by (try simp)<;>omega) (by (try simp)<;>omega) (wd.heap.size+1) (by simp) ?_
      intro g9 cap9 w9 hown9 hgrow9 hat9 hlt9
      have hpu:=OutX.push (x:=(s0,s1)) HXd.out hown9 (undrewA hgrow9)
      have q9:=hpu.1.cell 0 _ rfl
      have r9:=hpu.1.froz 0 (by simp)
      have l9:=hpu.1.lt
      have HP9:=hid hpu
      have hb9:Below (w.heap.size+1+1+1) wd w9:=below_of_grown ⟨hgrow9.os,hgrow9.tape,hgrow9.output,Nat.le_trans (by simp) hgrow9.size,fun k hk hne=>(hgrow9.block k (by simp;omega) hne).trans (((Below.refl wd.heap.size wd).drew.alloc (Nat.le_refl _) _).block k hk)⟩ (Nat.le_of_lt ld) (fun k hk=>by have:=(HXd.out.own.lt k hk).1;omega)
      clear hown9 hgrow9 hat9 hpu
      refine hK.out _ _ (HCSd.out _ hb9) (fun hHd7=>?_)
      clear hK K
      try simp only [PS]
      refine TY 9 (.pointer (some ⟨w.heap.size+1+1+1,0,none⟩)) rfl hHd7 ?_
      simp only [PS]
      refine RD 10 rfl (fun K hK=>?_)
      go_simp
      refine hK.out _ _ (HCSd.out _ (hb9.setCell (p:=⟨w.heap.size+1+1+1,0,none⟩) (Nat.le_refl _) _)) (fun hHd8=>?_)
      clear hK K
      try simp only [PS]
      refine DN ?_
      go_wp2
      have he:=HE.out
      refine ⟨⟨k+1,by omega,by go_num,by rw [HSTEP.out];simp [stepC,he,HDK.out,klt_self],.slice (some ⟨g9,0,none⟩) (out.length+1) cap9,?_⟩,by simp [intOf];omega⟩
      have hfe:(chW (key,val,gone) (rs.take (k+1))).2=out++[(s0,s1)]:=by rw [HSTEP.out];simp [stepC,he,HDK.out,klt_self]
      rw [hfe]
      simpa only [List.length_append,List.length_singleton] using HP9.out.2.1
    ·have he:=(cmpB_zero _ _).1 hcm
     have HDK:Hid (klt key s0=false):=by show _=_;rw [he];exact klt_self _
     have HE:=hid he
     have hb1:s0.toList=key.toList:=by rw [he]
     clear he
     go_wp2_with fail
     refine wp_region_held_drew (S:=fun w'=>w'.cell? ⟨w.heap.size,0,none⟩=some (.slice (some ⟨b,o,none⟩) rs.length c)/\w'.cell? ⟨b,o+k*2,none⟩=some (.string s0)/\w'.cell? ⟨b,o+k*2+1,none⟩=some (.string s1)/\w'.cell? ⟨w.heap.size+1,0,none⟩=some (.string key)/\w'.cell? ⟨w.heap.size+1,1,none⟩=some (.string val)) (by kernel_rfl) (HCS.out _ (Below.refl _ _).drew) (fun hHe=>?_)
     refine TY 0 (.bool false) rfl hHe ?_
     simp only [PS]
     refine TY 1 (.bool true) rfl hHe ?_
     simp only [PS]
     refine TY 2 (.bool true) rfl hHe ?_
     simp only [PS]
     refine TY 3 (.pointer (some ⟨w.heap.size,0,none⟩)) rfl hHe ?_
     simp only [PS]
     refine TY 4 (.slice (some ⟨b,o,none⟩) rs.length c) rfl hHe ?_
     simp only [PS]
     refine TY 5 (.int .i64 (k:Int)) rfl hHe ?_
     simp only [PS]
     refine TY 6 (.pointer (some ⟨b,o+k*2,none⟩)) rfl hHe ?_
     simp only [PS]
     refine TY 7 (.pointer (some ⟨b,o+k*2,none⟩)) rfl hHe ?_
     simp only [PS]
     refine TY 8 (.string s0) rfl hHe ?_
     simp only [PS]
     refine TY 9 (.pointer (some ⟨w.heap.size+1,0,none⟩)) rfl hHe ?_
     simp only [PS]
     refine TY 10 (.string key) rfl hHe ?_
     simp only [PS]
     refine TY 11 (.bool false) rfl hHe ?_
     simp only [PS]
     refine TY 12 (.bool false) rfl hHe ?_
     simp only [PS]
     refine DN ?_
     obtain ⟨wd0,hwd0⟩:∃ wd0,wd0=wr.drew:=⟨_,rfl⟩
     have hbd0:Below wr.heap.size wr wd0:=by rw [hwd0];exact (Below.refl _ _).drew
     rw [<-hwd0]
     have HX0:=HX
     have HCS0:=HCS
     have hbw0:Below w.heap.size w wd0:=hbw.trans (hbd0.mono hbw.size)
     have HXz:=hid (HX0.out.below hbd0)
     have HCSz:Hid (∀ w',Below (w.heap.size+1+1+1) wd0 w'->w'.cell? ⟨w.heap.size,0,none⟩=some (.slice (some ⟨b,o,none⟩) rs.length c)/\w'.cell? ⟨b,o+k*2,none⟩=some (.string s0)/\w'.cell? ⟨b,o+k*2+1,none⟩=some (.string s1)/\w'.cell? ⟨w.heap.size+1,0,none⟩=some (.string key)/\w'.cell? ⟨w.heap.size+1,1,none⟩=some (.string val)):=fun w' hb=>HCS0.out w' ((hbd0.mono (Nat.le_of_lt l3)).trans hb)
     clear hwd0 HX HCS hbw q0 q10 q11 q3 r3 l3 hc0 hc1 HX0 HCS0 hbd0 hHe
     generalize wd0=wr at *
     have HX:=HXz
     have HCS:=HCSz
     clear HXz HCSz
     have q3:=HX.out.row.cell 0 _ rfl
     have r3:=HX.out.row.froz 0 (by simp)
     have l3:=HX.out.row.lt
     have q10:=(HCS.out _ (Below.refl _ _)).2.2.2.1
     have q11:=(HCS.out _ (Below.refl _ _)).2.2.2.2
     go_wp2_with fail
     have he2:(s0.toList == key.toList)=true:=by rw [HE.out];simp
     refine wp_region_held_drew (S:=fun w'=>w'.cell? ⟨w.heap.size,0,none⟩=some (.slice (some ⟨b,o,none⟩) rs.length c)/\w'.cell? ⟨b,o+k*2,none⟩=some (.string s0)/\w'.cell? ⟨b,o+k*2+1,none⟩=some (.string s1)/\w'.cell? ⟨w.heap.size+1,0,none⟩=some (.string key)/\w'.cell? ⟨w.heap.size+1,1,none⟩=some (.string val)) (by kernel_rfl) (HCS.out _ (Below.refl _ _).drew) (fun hHe=>?_)
     refine TY 0 (.pointer (some ⟨w.heap.size,0,none⟩)) rfl hHe ?_
     simp only [PS]
     refine TY 1 (.slice (some ⟨b,o,none⟩) rs.length c) rfl hHe ?_
     simp only [PS]
     refine TY 2 (.int .i64 (k:Int)) rfl hHe ?_
     simp only [PS]
     refine TY 3 (.pointer (some ⟨b,o+k*2,none⟩)) rfl hHe ?_
     simp only [PS]
     refine TY 4 (.pointer (some ⟨b,o+k*2,none⟩)) rfl hHe ?_
     simp only [PS]
     refine TY 5 (.string s0) rfl hHe ?_
     simp only [PS]
     refine TY 6 (.pointer (some ⟨w.heap.size+1,0,none⟩)) rfl hHe ?_
     simp only [PS]
     refine TY 7 (.string key) rfl hHe ?_
     simp only [PS]
     refine TY 8 (.bool false) rfl hHe ?_
     simp only [PS]
     refine DN ?_
     go_wp2
     have he:=HE.out
     refine ⟨⟨k+1,by omega,by go_num,by rw [HSTEP.out];simp [stepC,he,HDK.out,klt_self],.slice va out.length vc,?_⟩,by simp [intOf];omega⟩
     have hfe:(chW (key,val,gone) (rs.take (k+1))).2=out:=by rw [HSTEP.out];simp [stepC,he,HDK.out,klt_self]
     rw [hfe]
     exact HX.out.below (Below.refl _ _).drew
    ·have HDK:Hid (klt key s0=true):=cmpB_anti hcm
     have HE:Hid (¬ s0=key):=fun e=>by rw [e,cmpB_self] at hcm;omega
     have hb1:¬ (s0.toList=key.toList):=fun hh=>by rw [ByteArray.toList_eq,ByteArray.toList_eq] at hh;exact HE.out (ByteArray.ext (Array.ext' hh))
     have hb2:Op.bytesLess s0.toList key.toList=false:=by cases hq:Op.bytesLess s0.toList key.toList with | false=>rfl | true=>(have:=(cmpB_lt _ _).2 hq;omega)
     go_wp2_with fail
     refine wp_region_held_drew (S:=fun w'=>w'.cell? ⟨w.heap.size,0,none⟩=some (.slice (some ⟨b,o,none⟩) rs.length c)/\w'.cell? ⟨b,o+k*2,none⟩=some (.string s0)/\w'.cell? ⟨b,o+k*2+1,none⟩=some (.string s1)/\w'.cell? ⟨w.heap.size+1,0,none⟩=some (.string key)/\w'.cell? ⟨w.heap.size+1,1,none⟩=some (.string val)) (by kernel_rfl) (HCS.out _ (Below.refl _ _).drew) (fun hHe=>?_)
     refine TY 0 (.bool false) rfl hHe ?_
     simp only [PS]
     refine TY 1 (.bool true) rfl hHe ?_
     simp only [PS]
     refine TY 2 (.bool true) rfl hHe ?_
     simp only [PS]
     refine TY 3 (.pointer (some ⟨w.heap.size,0,none⟩)) rfl hHe ?_
     simp only [PS]
     refine TY 4 (.slice (some ⟨b,o,none⟩) rs.length c) rfl hHe ?_
     simp only [PS]
     refine TY 5 (.int .i64 (k:Int)) rfl hHe ?_
     simp only [PS]
     refine TY 6 (.pointer (some ⟨b,o+k*2,none⟩)) rfl hHe ?_
     simp only [PS]
     refine TY 7 (.pointer (some ⟨b,o+k*2,none⟩)) rfl hHe ?_
     simp only [PS]
     refine TY 8 (.string s0) rfl hHe ?_
     simp only [PS]
     refine TY 9 (.pointer (some ⟨w.heap.size+1,0,none⟩)) rfl hHe ?_
     simp only [PS]
     refine TY 10 (.string key) rfl hHe ?_
     simp only [PS]
     refine TY 11 (.bool true) rfl hHe ?_
     simp only [PS]
     refine TY 12 (.bool true) rfl hHe ?_
     simp only [PS]
     refine DN ?_
     obtain ⟨wd0,hwd0⟩:∃ wd0,wd0=wr.drew:=⟨_,rfl⟩
     have hbd0:Below wr.heap.size wr wd0:=by rw [hwd0];exact (Below.refl _ _).drew
     rw [<-hwd0]
     have HX0:=HX
     have HCS0:=HCS
     have hbw0:Below w.heap.size w wd0:=hbw.trans (hbd0.mono hbw.size)
     have HXz:=hid (HX0.out.below hbd0)
     have HCSz:Hid (∀ w',Below (w.heap.size+1+1+1) wd0 w'->w'.cell? ⟨w.heap.size,0,none⟩=some (.slice (some ⟨b,o,none⟩) rs.length c)/\w'.cell? ⟨b,o+k*2,none⟩=some (.string s0)/\w'.cell? ⟨b,o+k*2+1,none⟩=some (.string s1)/\w'.cell? ⟨w.heap.size+1,0,none⟩=some (.string key)/\w'.cell? ⟨w.heap.size+1,1,none⟩=some (.string val)):=fun w' hb=>HCS0.out w' ((hbd0.mono (Nat.le_of_lt l3)).trans hb)
     clear hwd0 HX HCS hbw q0 q10 q11 q3 r3 l3 hc0 hc1 HX0 HCS0 hbd0 hHe
     generalize wd0=wr at *
     have HX:=HXz
     have HCS:=HCSz
     clear HXz HCSz
     have q3:=HX.out.row.cell 0 _ rfl
     have r3:=HX.out.row.froz 0 (by simp)
     have l3:=HX.out.row.lt
     have q10:=(HCS.out _ (Below.refl _ _)).2.2.2.1
     have q11:=(HCS.out _ (Below.refl _ _)).2.2.2.2
     go_wp2_with (at_builtin;refine WAL _ rfl _ _ 75 rfl (w.heap.size+1+1+1+1) Try.underlying75 HI.out rfl (by omega) _ out.length _ rfl (HX.out.own.alloc _) ⟨wr.heap.size,0,none⟩ 1 1 [.string key,.string val] rfl rfl (World.news_of_block (heap_alloc_new wr _)) (onePr _ _) (by simp;omega) (wr.heap.size+1) (by simp) ?_;intro g7 cap7 w7 hown7 hgrow7 hat7 hlt7;have hpu:=OutX.push (x:=(key,val)) HX.out hown7 hgrow7;have q7:=hpu.1.cell 0 _ rfl;have r7:=hpu.1.froz 0 (by simp);have l7:=hpu.1.lt;have q72:=(HRW.out _ hpu.2.2).2.2.cell 0 _ rfl;have r72:=(HRW.out _ hpu.2.2).2.2.froz 0 (by simp);have HPU:=hid hpu;clear hown7 hgrow7 hat7 hpu)
     obtain ⟨w8,hw8⟩:∃ w8,w8=w7.setCell ⟨w.heap.size+1+1+1,0,none⟩ (.slice (some ⟨g7,0,none⟩) (out.length+1) cap7):=⟨_,rfl⟩
     have hx8:=HPU.out.2.1
     rw [<-hw8] at hx8 ⊢
     clear hw8 q7 r7 l7 q72 r72 HPU
     have e8:Value.slice (some ⟨g7,0,none⟩) (out.length+1) cap7=.slice (some ⟨g7,0,none⟩) (out++[(key,val)]).length cap7:=by rw [List.length_append];rfl
     rw [e8] at hx8
     have q8:=hx8.row.cell 0 _ rfl
     have r8:=hx8.row.froz 0 (by simp)
     have l8:=hx8.row.lt
     have HX8:=hid hx8
     have HCS8:Hid (∀ w',Below (w.heap.size+1+1+1) w8 w'->w'.cell? ⟨w.heap.size,0,none⟩=some (.slice (some ⟨b,o,none⟩) rs.length c)/\w'.cell? ⟨b,o+k*2,none⟩=some (.string s0)/\w'.cell? ⟨b,o+k*2+1,none⟩=some (.string s1)/\w'.cell? ⟨w.heap.size+1,0,none⟩=some (.string key)/\w'.cell? ⟨w.heap.size+1,1,none⟩=some (.string val)):=fun w' hb=>by
      obtain ⟨hR0,hR1,hR2⟩:=HRW.out _ (HX8.out.bel.trans hb)
      have hbx:Below w.heap.size w w':=HBB.out.trans ((HX8.out.bel.trans hb).mono (by omega))
      obtain ⟨hp0,hp1⟩:=HPB.out w' hbx
      exact ⟨hR0.cell 0 _ rfl,hp0,hp1,hR1.cell 0 _ rfl,hR1.cell 1 _ rfl⟩
     clear hx8
     have he2:(s0.toList == key.toList)=false:=by rw [beq_eq_false_iff_ne];intro hh;rw [ByteArray.toList_eq,ByteArray.toList_eq] at hh;exact HE.out (ByteArray.ext (Array.ext' hh))
     refine wp_region_held_drew (S:=fun w'=>w'.cell? ⟨w.heap.size,0,none⟩=some (.slice (some ⟨b,o,none⟩) rs.length c)/\w'.cell? ⟨b,o+k*2,none⟩=some (.string s0)/\w'.cell? ⟨b,o+k*2+1,none⟩=some (.string s1)/\w'.cell? ⟨w.heap.size+1,0,none⟩=some (.string key)/\w'.cell? ⟨w.heap.size+1,1,none⟩=some (.string val)) (by kernel_rfl) (HCS8.out _ (Below.refl _ _).drew) (fun hHe=>?_)
     refine TY 0 (.pointer (some ⟨w.heap.size,0,none⟩)) rfl hHe ?_
     simp only [PS]
     refine TY 1 (.slice (some ⟨b,o,none⟩) rs.length c) rfl hHe ?_
     simp only [PS]
     refine TY 2 (.int .i64 (k:Int)) rfl hHe ?_
     simp only [PS]
     refine TY 3 (.pointer (some ⟨b,o+k*2,none⟩)) rfl hHe ?_
     simp only [PS]
     refine TY 4 (.pointer (some ⟨b,o+k*2,none⟩)) rfl hHe ?_
     simp only [PS]
     refine TY 5 (.string s0) rfl hHe ?_
     simp only [PS]
     refine TY 6 (.pointer (some ⟨w.heap.size+1,0,none⟩)) rfl hHe ?_
     simp only [PS]
     refine TY 7 (.string key) rfl hHe ?_
     simp only [PS]
     refine TY 8 (.bool true) rfl hHe ?_
     simp only [PS]
     refine DN ?_
     obtain ⟨wd,hwd⟩:∃ wd,wd=w8.drew:=⟨_,rfl⟩
     have hbd:Below w8.heap.size w8 wd:=by rw [hwd];exact (Below.refl _ _).drew
     rw [<-hwd]
     clear hwd
     have HXd:=hid (HX8.out.below hbd)
     have qd:=HXd.out.row.cell 0 _ rfl
     have rd:=HXd.out.row.froz 0 (by simp)
     have ld:=HXd.out.row.lt
     have HCSd:Hid (∀ w',Below (w.heap.size+1+1+1) wd w'->w'.cell? ⟨w.heap.size,0,none⟩=some (.slice (some ⟨b,o,none⟩) rs.length c)/\w'.cell? ⟨b,o+k*2,none⟩=some (.string s0)/\w'.cell? ⟨b,o+k*2+1,none⟩=some (.string s1)/\w'.cell? ⟨w.heap.size+1,0,none⟩=some (.string key)/\w'.cell? ⟨w.heap.size+1,1,none⟩=some (.string val)):=fun w' hb=>HCS8.out w' ((hbd.mono (Nat.le_of_lt l8)).trans hb)
     clear hHe
     go_wp2_with fail
     refine wp_region_held_drew (S:=fun w'=>w'.cell? ⟨w.heap.size,0,none⟩=some (.slice (some ⟨b,o,none⟩) rs.length c)/\w'.cell? ⟨b,o+k*2,none⟩=some (.string s0)/\w'.cell? ⟨b,o+k*2+1,none⟩=some (.string s1)/\w'.cell? ⟨w.heap.size+1,0,none⟩=some (.string key)/\w'.cell? ⟨w.heap.size+1,1,none⟩=some (.string val)) (by kernel_rfl) (HCSd.out _ (Below.refl _ _).drew) (fun hHe=>?_)
     refine TY 0 (.pointer (some ⟨w.heap.size+1+1+1,0,none⟩)) rfl hHe ?_
     simp only [PS]
     refine TY 2 (.pointer (some ⟨w.heap.size,0,none⟩)) rfl hHe ?_
     simp only [PS]
     refine TY 3 (.slice (some ⟨b,o,none⟩) rs.length c) rfl hHe ?_
     simp only [PS]
     refine TY 4 (.int .i64 (k:Int)) rfl hHe ?_
     simp only [PS]
     refine TY 5 (.pointer (some ⟨b,o+k*2,none⟩)) rfl hHe ?_
     simp only [PS]
     refine TY 6 (.agg #[.string s0,.string s1]) rfl hHe ?_
     simp only [PS]
     refine wpAnyH_ready (rs:=[1,7]) (by kernel_rfl) (by simp) ?_
     refine AllReadyH.cons rfl (fun K hK=>?_) (AllReadyH.cons rfl (fun K hK=>?_) AllReadyH.nil)
     ·go_simp
      refine hK.out _ _ hHe (fun _=>?_)
      clear hK K
      try simp only [PS]
      refine RD 7 rfl (fun K hK=>?_)
      go_simp
      refine hK.out _ _ (HCSd.out _ ((Below.refl _ _).drew.alloc (Nat.le_of_lt ld) _)) (fun hHd2=>?_)
      clear hK K
      try simp only [PS]
      refine RD 8 rfl (fun K hK=>?_)
      refine step_append_lies _ (by rfl) _ _ _ (by rfl) (w.heap.size+1+1+1+1) 145 i0 (.agg #[.string ByteArray.empty,.string ByteArray.empty]) 2 32 Try.underlying75 HI.out.1 HI.out.2.1 HI.out.2.2.1 HI.out.2.2.2 rfl (by omega) (.slice (some ⟨g7,0,none⟩) (out++[(key,val)]).length cap7) (out++[(key,val)]).length _ (by rfl) (owns_below HXd.out.own ((Below.refl _ _).drew.alloc (Nat.le_refl _) _)) ⟨wd.heap.size,0,none⟩ 1 1 [.string s0,.string s1] (by rfl) rfl (World.news_of_block (heap_alloc_new wd.drew _)) (onePr _ _) (by omega) (by unfold maxLen;(try simp)<;>omega) (by (try simp)<;>omega) (by (try simp)<;>omega) (wd.heap.size+1) (by simp) ?_
      intro g9 cap9 w9 hown9 hgrow9 hat9 hlt9
      have hpu:=OutX.push (x:=(s0,s1)) HXd.out hown9 (undrewA hgrow9)
      have q9:=hpu.1.cell 0 _ rfl
      have r9:=hpu.1.froz 0 (by simp)
      have l9:=hpu.1.lt
      have HP9:=hid hpu
      have hb9:Below (w.heap.size+1+1+1) wd w9:=below_of_grown ⟨hgrow9.os,hgrow9.tape,hgrow9.output,Nat.le_trans (by simp) hgrow9.size,fun k hk hne=>(hgrow9.block k (by simp;omega) hne).trans (((Below.refl wd.heap.size wd).drew.alloc (Nat.le_refl _) _).block k hk)⟩ (Nat.le_of_lt ld) (fun k hk=>by have:=(HXd.out.own.lt k hk).1;omega)
      clear hown9 hgrow9 hat9 hpu
      refine hK.out _ _ (HCSd.out _ hb9) (fun hHd3=>?_)
      clear hK K
      try simp only [PS]
      refine TY 9 (.pointer (some ⟨w.heap.size+1+1+1,0,none⟩)) rfl hHd3 ?_
      simp only [PS]
      refine RD 10 rfl (fun K hK=>?_)
      go_simp
      refine hK.out _ _ (HCSd.out _ (hb9.setCell (p:=⟨w.heap.size+1+1+1,0,none⟩) (Nat.le_refl _) _)) (fun hHd4=>?_)
      clear hK K
      try simp only [PS]
      refine DN ?_
      go_wp2
      have he:=HE.out
      refine ⟨⟨k+1,by omega,by go_num,by rw [HSTEP.out];simp [stepC,he,HDK.out,klt_self],.slice (some ⟨g9,0,none⟩) ((out++[(key,val)]).length+1) cap9,?_⟩,by simp [intOf];omega⟩
      have hfe:(chW (key,val,gone) (rs.take (k+1))).2=(out++[(key,val)])++[(s0,s1)]:=by rw [HSTEP.out];simp [stepC,he,HDK.out,klt_self]
      rw [hfe]
      simpa only [List.length_append,List.length_singleton] using HP9.out.2.1
     ·go_simp
      refine hK.out _ _ (HCSd.out _ ((Below.refl _ _).drew.alloc (Nat.le_of_lt ld) _)) (fun hHd5=>?_)
      clear hK K
      try simp only [PS]
      refine RD 1 rfl (fun K hK=>?_)
      go_simp
      refine hK.out _ _ hHd5 (fun _=>?_)
      clear hK K
      try simp only [PS]
      refine RD 8 rfl (fun K hK=>?_)
      refine step_append_lies _ (by rfl) _ _ _ (by rfl) (w.heap.size+1+1+1+1) 145 i0 (.agg #[.string ByteArray.empty,.string ByteArray.empty]) 2 32 Try.underlying75 HI.out.1 HI.out.2.1 HI.out.2.2.1 HI.out.2.2.2 rfl (by omega) (.slice (some ⟨g7,0,none⟩) (out++[(key,val)]).length cap7) (out++[(key,val)]).length _ (by rfl) (owns_below HXd.out.own ((Below.refl _ _).drew.alloc (Nat.le_refl _) _)) ⟨wd.heap.size,0,none⟩ 1 1 [.string s0,.string s1] (by rfl) rfl (World.news_of_block (heap_alloc_new wd.drew _)) (onePr _ _) (by omega) (by unfold maxLen;(try simp)<;>omega) (by (try simp)<;>omega) (by (try simp)<;>omega) (wd.heap.size+1) (by simp) ?_
      intro g9 cap9 w9 hown9 hgrow9 hat9 hlt9
      have hpu:=OutX.push (x:=(s0,s1)) HXd.out hown9 (undrewA hgrow9)
      have q9:=hpu.1.cell 0 _ rfl
      have r9:=hpu.1.froz 0 (by simp)
      have l9:=hpu.1.lt
      have HP9:=hid hpu
      have hb9:Below (w.heap.size+1+1+1) wd w9:=below_of_grown ⟨hgrow9.os,hgrow9.tape,hgrow9.output,Nat.le_trans (by simp) hgrow9.size,fun k hk hne=>(hgrow9.block k (by simp;omega) hne).trans (((Below.refl wd.heap.size wd).drew.alloc (Nat.le_refl _) _).block k hk)⟩ (Nat.le_of_lt ld) (fun k hk=>by have:=(HXd.out.own.lt k hk).1;omega)
      clear hown9 hgrow9 hat9 hpu
      refine hK.out _ _ (HCSd.out _ hb9) (fun hHd7=>?_)
      clear hK K
      try simp only [PS]
      refine TY 9 (.pointer (some ⟨w.heap.size+1+1+1,0,none⟩)) rfl hHd7 ?_
      simp only [PS]
      refine RD 10 rfl (fun K hK=>?_)
      go_simp
      refine hK.out _ _ (HCSd.out _ (hb9.setCell (p:=⟨w.heap.size+1+1+1,0,none⟩) (Nat.le_refl _) _)) (fun hHd8=>?_)
      clear hK K
      try simp only [PS]
      refine DN ?_
      go_wp2
      have he:=HE.out
      refine ⟨⟨k+1,by omega,by go_num,by rw [HSTEP.out];simp [stepC,he,HDK.out,klt_self],.slice (some ⟨g9,0,none⟩) ((out++[(key,val)]).length+1) cap9,?_⟩,by simp [intOf];omega⟩
      have hfe:(chW (key,val,gone) (rs.take (k+1))).2=(out++[(key,val)])++[(s0,s1)]:=by rw [HSTEP.out];simp [stepC,he,HDK.out,klt_self]
      rw [hfe]
      simpa only [List.length_append,List.length_singleton] using HP9.out.2.1
  ·have hkl:k=rs.length:=by omega
   subst hkl
   rw [List.take_length] at hst
   have q2:=hR2.cell 0 _ rfl
   have r2:=hR2.froz 0 (by simp)
   have l2:=hR2.lt
   clear hR0 hR1 hR2
   cases d with
   | true =>
    have hF:chF (key,val,gone) rs=out:=by unfold chF;rw [hst];rfl
    have HF:=hid hF
    clear hst hF
    go_wp2_with fail
    rw [HF.out]
    refine bodyPost_ret (v:=stV va out.length vc) (by simp [results,Try.results70,go_sem,stV,q2]) rfl (cp_of HX.out ?_ ?_ HBB.out (by omega))
    ·exact ((Below.refl _ _).setCell (p:=⟨w.heap.size+1+1,0,none⟩) (by show w.heap.size<=w.heap.size+1+1;omega) _)
    ·exact fun k hk=>Below.heap_setCell _ _ _ k (by show _≠w.heap.size+1+1;omega)
   | false =>
    have hF:chF (key,val,gone) rs=out++[(key,val)]:=by unfold chF;rw [hst];rfl
    have HF:=hid hF
    clear hst hF
    go_wp2_with (at_builtin;refine WAL _ rfl _ _ 75 rfl (w.heap.size+1+1+1+1) Try.underlying75 HI.out rfl (by omega) _ out.length _ rfl (HX.out.own.alloc _) ⟨wr.heap.size,0,none⟩ 1 1 [.string key,.string val] rfl rfl (World.news_of_block (heap_alloc_new wr _)) (onePr _ _) (by simp;omega) (wr.heap.size+1) (by simp) ?_;intro g7 cap7 w7 hown7 hgrow7 hat7 hlt7;have hpu:=OutX.push (x:=(key,val)) HX.out hown7 hgrow7;have q7:=hpu.1.cell 0 _ rfl;have r7:=hpu.1.froz 0 (by simp);have l7:=hpu.1.lt;have q72:=(HRW.out _ hpu.2.2).2.2.cell 0 _ rfl;have r72:=(HRW.out _ hpu.2.2).2.2.froz 0 (by simp);have HPU:=hid hpu;clear hown7 hgrow7 hat7 hpu)
    have q72:w7.cell? ⟨w.heap.size+1+1,0,none⟩=some (.slice none 0 0):=(HRW.out _ HPU.out.2.2).2.2.cell 0 _ rfl
    rw [HF.out]
    have e8:Value.slice (some ⟨g7,0,none⟩) (out.length+1) cap7=.slice (some ⟨g7,0,none⟩) (out++[(key,val)]).length cap7:=by rw [List.length_append];rfl
    have hx8:=HPU.out.2.1
    rw [e8] at hx8
    refine bodyPost_ret (v:=stV (some ⟨g7,0,none⟩) (out++[(key,val)]).length cap7) (by simp [results,Try.results70,go_sem,stV,q72]) rfl (cp_of hx8 ?_ ?_ HBB.out (by omega))
    ·rw [<-e8];exact ((Below.refl _ _).setCell (p:=⟨w.heap.size+1+1,0,none⟩) (by show w.heap.size<=w.heap.size+1+1;omega) _)
    ·rw [<-e8];exact fun k hk=>Below.heap_setCell _ _ _ k (by show _≠w.heap.size+1+1;omega)
end Go.Proofs.Ythdilmkbnpmdaaa
