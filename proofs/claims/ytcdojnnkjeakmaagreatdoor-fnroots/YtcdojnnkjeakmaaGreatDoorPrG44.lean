import Derived.Laws.BytesArg
import Derived.WalkKit
import Derived.OrdersHeld
import Derived.Deep.RegionHeld
import Derived.WalkSpells
import Derived.WalkLawsBesides
import Derived.Outline
import Derived.Test.YtcdojnnkjeakmaaGreatDoorProg
import Derived.BigQuiet
import Derived.Deep.QuietTactic
import Derived.Deep.RegionHeld3
import Derived.Deep.MidRow
import Derived.Lib.LazyBuf
set_option maxHeartbeats 16000000
set_option maxRecDepth 8000
set_option linter.unusedVariables false
set_option linter.unusedSimpArgs false
namespace Go.Proofs.YtcdojnnkjeakmaaGreatDoor
open Go.RowKit
def sh:Nat->Int->Int
 | 0,v=>v
 | j+1,v=>sh j v / 256
theorem yQp (j:Nat) (v:Int) (h0:0<=v) (h1:v<=18446744073709551615):0<=sh j v/\sh j v<=18446744073709551615:=by
 induction j with
 | zero=>exact ⟨h0,h1⟩
 | succ j ih=>unfold sh;omega
theorem QAX (j:Nat) (v:Int) (h0:0<=v) (h1:v<=9223372036854775807):0<=sh j v/\sh j v<=9223372036854775807:=by
 induction j with
 | zero=>exact ⟨h0,h1⟩
 | succ j ih=>unfold sh;omega
def be (n:Nat) (v:Int):List Int:=(List.range n).map fun i=>sh (n-1-i) v % 256
theorem XHU (n:Nat) (v:Int):(be n v).length=n:=by simp [be]
theorem v50 (n:Nat) (v:Int):be (n+1) v=(sh n v % 256)::be n v:=by
 unfold be;rw [List.range_succ_eq_map];simp only [List.map_cons,List.map_map,List.cons.injEq];refine ⟨by simp,?_⟩
 apply List.map_congr_left
 intro i hi;simp at hi;simp only [Function.comp];rw [show n+1-1-(i+1)=n-1-i by omega]
theorem j2P (n:Nat) (v:Int) (i:Nat) (h:i<n):(be n v).getD i 0=sh (n-1-i) v % 256:=by
 simp [be,List.getD,h]
theorem zQR (a b:List Int):strOfNums (a++b)=strOfNums a++strOfNums b:=by
 apply ByteArray.ext
 simp [strOfNums]
def Zr4 (x:Int) (c:UInt8):Int:=IntKind.u64.wrap (bits BinOp.xor IntKind.u64 x (IntKind.u64.wrap (c.toNat:Int))*1099511628211)
def fnv (l:List UInt8):Int:=l.foldl Zr4 14695981039346656037
theorem kBX (x:Int):0<=IntKind.u64.wrap x/\IntKind.u64.wrap x<=18446744073709551615:=by
 simp [IntKind.wrap,IntKind.bits,IntKind.signed];omega
theorem khQ (x:Int) (h0:0<=x) (h1:x<=18446744073709551615):IntKind.u64.wrap x=x:=by
 simp [IntKind.wrap,IntKind.bits,IntKind.signed];omega
theorem xz3 (l:List UInt8) (c:UInt8):fnv (l++[c])=Zr4 (fnv l) c:=by simp [fnv]
theorem ZT7 (l:List UInt8):0<=fnv l/\fnv l<=18446744073709551615:=by
 rcases List.eq_nil_or_concat l with rfl | ⟨l',c,rfl⟩
 ·unfold fnv;simp
 ·rw [List.concat_eq_append,xz3];exact kBX _
theorem vDo (s:ByteArray) (k:Nat) (h:k<s.size):s.data.toList.take (k+1)=s.data.toList.take k++[s[k]]:=by
 rw [List.take_succ_eq_append_getElem (by simpa using h)];rfl
def xXU (s:ByteArray) (n:Nat):ByteArray:=strOfNums (be n (fnv s.data.toList))
theorem j6x (s:ByteArray) (n:Nat):(xXU s n).size=n:=by unfold xXU;rw [strOfNums_size,XHU]
theorem xXI {P:Program} {t e:TypeId} {L:Nat} (ht:P.underlying t=some (.array L e)) (hz:∀ w,(sizeOf e).run P w=.ok 1 w) (b off l:Nat) (hl:l<L) (k:IntKind) (li:Int) (aA:li=(l:Int)) (w:World) :
  (Instr.sliceAt t (.pointer (some ⟨b,off,none⟩)) (some (.int k li)) none none).run P w=.ok (.slice (some ⟨b,off+l,none⟩) (L-l) (L-l)) w:=by
 have e1:P.arrayLen t=L:=by simp [Program.arrayLen,ht]
 have e2:P.elem t=e:=by simp [Program.elem,ht]
 rw [run_sliceAt_array_l (P:=P) w t ⟨b,off,none⟩ (by rw [e1,e2];exact ht) k li (by omega) (by omega),e1,e2,hz,aA];have e3:L≠l:=by omega
 simp [slicedAt,e3,Addr.add]
theorem QTH {P:Program} {t e:TypeId} {L:Nat} (ht:P.underlying t=some (.array L e)) (hz:∀ w,(sizeOf e).run P w=.ok 1 w) (b off h:Nat) (hL:0<L) (hl:h<=L) (k:IntKind) (li:Int) (aA:li=(h:Int)) (w:World) :
  (Instr.sliceAt t (.pointer (some ⟨b,off,none⟩)) none (some (.int k li)) none).run P w=.ok (.slice (some ⟨b,off,none⟩) h L) w:=by
 have e1:P.arrayLen t=L:=by simp [Program.arrayLen,ht]
 have e2:P.elem t=e:=by simp [Program.elem,ht]
 rw [run_sliceAt_array_h (P:=P) w t ⟨b,off,none⟩ (by rw [e1,e2];exact ht) k li (by omega) (by omega),e1,e2,hz,aA];have e3:L≠0:=by omega
 simp [slicedAt,Addr.add]
theorem vOw (p:ByteArray):p.toList.isEmpty=decide (p.size=0):=by
 rw [ByteArray.toList_eq];have e:p.size=p.data.toList.length:=rfl;rw [e]
 cases p.data.toList<;>simp
def zFD (p:ByteArray):List Int:=p.data.toList.map fun c=>(c.toNat:Int)
theorem vgz (p:ByteArray):(zFD p).length=p.size:=by simp [zFD]
theorem ZXs (p:ByteArray):strOfNums (zFD p)=p:=by
 apply ByteArray.ext
 simp [strOfNums,zFD,Function.comp_def]
def QKX (k l m:Int) (p:ByteArray):List Int:=be 1 k++be 2 l++be 4 m++be 1 (p.size:Int)++zFD p
theorem QeT (k l m:Int) (p:ByteArray):(QKX k l m p).length=8+p.size:=by
 simp [QKX,XHU,vgz];omega
def Zah (k l m:Int) (p:ByteArray) (n:Nat):List Int:=QKX k l m p++List.replicate (56-n-p.size) 0
theorem kxp (k l m:Int) (p:ByteArray) (n:Nat) (h:p.size+n<=56):(Zah k l m p n).length=64-n:=by
 simp [Zah,QeT];omega
def XQs (k l m:Int) (p:ByteArray) (n:Nat):ByteArray:=xXU (strOfNums (Zah k l m p n)) n++strOfNums (Zah k l m p n)
theorem X5y (k l m:Int) (p:ByteArray) (n:Nat) (h:p.size+n<=56):(XQs k l m p n).size=64:=by
 unfold XQs;rw [ByteArray.size_append,j6x,strOfNums_size,kxp k l m p n h];omega
structure Wrote (w w':World) (b off:Nat) (xs:List Int):Prop where
 os:w'.os=w.os
 tape:w'.tape=w.tape
 output:w'.output=w.output
 size:w'.heap.size=w.heap.size
 others:∀ k,k≠b->w'.heap[k]?=w.heap[k]?
 inside:∀ i,i<xs.length->w'.cell? ⟨b,off+i,none⟩=some (.int .u8 (xs.getD i 0))
 outside:∀ o,(o<off\/off+xs.length<=o)->w'.cell? ⟨b,o,none⟩=w.cell? ⟨b,o,none⟩
 frozen:∀ a,w'.frozen? a=w.frozen? a
theorem Wrote.refl (w:World) (b off:Nat):Wrote w w b off []:=⟨rfl,rfl,rfl,rfl,fun _ _=>rfl,fun i h=>by simp at h,fun _ _=>rfl,fun _=>rfl⟩
theorem Wrote.below {w w':World} {b off:Nat} {xs:List Int} (h:Wrote w w' b off xs) {B:Nat} (hB:B<=b):Below B w w' :=
 ⟨h.os,h.tape,h.output,by rw [h.size];exact Nat.le_refl _,fun k hk=>h.others k (by omega)⟩
theorem Wrote.step {w w':World} {b off:Nat} {xs:List Int} (h:Wrote w w' b (off+1) xs) (n:Int) {u:Value} (hc:w.cell? ⟨b,off,none⟩=some u):Wrote w (w'.setCell ⟨b,off,none⟩ (.int .u8 n)) b off (n::xs):=by
 have aA:w'.cell? ⟨b,off,none⟩=some u:=(h.outside off (.inl (by omega))).trans hc;refine ⟨h.os,h.tape,h.output,?_,fun k hk=>?_,fun i hi=>?_,fun o ho=>?_,fun a=>?_⟩
 ·rw [<-h.size];simp [World.setCell]
 ·rw [Below.heap_setCell _ _ _ _ hk];exact h.others k hk
 ·cases i with
  | zero=>simpa using World.cell?_setCell_same w' ⟨b,off,none⟩ (.int .u8 n) aA
  | succ i =>
   rw [World.cell?_setCell_other (w:=w') (h:=show (⟨b,off,none⟩:Addr)≠⟨b,off+(i+1),none⟩ by simp)];have:=h.inside i (by simpa using hi);rw [show off+(i+1)=off+1+i by omega,this];simp
 ·simp only [List.length_cons] at ho
  rw [World.cell?_setCell_other (w:=w') (h:=show (⟨b,off,none⟩:Addr)≠⟨b,o,none⟩ by simp<;>omega)];exact h.outside o (by omega)
 ·rw [World.frozen?_setCell];exact h.frozen a
/-- What a put into a frame that is written out comes to. -/
theorem PS:(∀ (a:Act) (t:Nat) (v:Value),a.put (some t) v={ a with tmps:=a.tmps.setIfInBounds t v })/\(∀ (a:Act) (v:Value),a.put none v=a)/\(∀ (l:List Value) (i:Nat) (v:Value),l.toArray.setIfInBounds i v=(l.set i v).toArray)/\(∀ (x y:Value) (l:List Value),(x::l).set 0 y=y::l)/\(∀ (x y:Value) (l:List Value) (n:Nat),(x::l).set (n+1) y=x::l.set n y)/\(∀ (l:List Oper) (i:Nat) (h:i<l.toArray.size),l.toArray[i]=l[i]'(by simpa using h))/\(∀ (x:Oper) (l:List Oper) (h:0<(x::l).length),(x::l)[0]'h=x)/\(∀ (x:Oper) (l:List Oper) (i:Nat) (h:i+1<(x::l).length),(x::l)[i+1]'h=l[i]'(by simpa using h)) :=
 ⟨fun _ _ _=>rfl,fun _ _=>rfl,fun _ _ _=>by simp,fun _ _ _=>rfl,fun _ _ _ _=>rfl,fun _ _ _=>by simp,fun _ _ _=>rfl,fun _ _ _ _=>rfl⟩
/-- 'wpAnyH_take' with what the kernel reckons left to itself. -/
theorem TK {P:Program} {aB:Array Oper} {Q:Exit->Act->World->Prop} {md:Region.Mode} {S:World->Prop} (i:Nat) {oi:Oper} (v:Value) {aC:Nat} {aA:Array Bool} {a:Act} {w:World} (hi:aB[i]?=some oi) (hy:YieldsIf P aB S oi v a) (hS:S w)
  (h:wpAnyH P md aB Q S aC (aA.setIfInBounds i true) (a.put oi.dst v) w) (hs:Region.noSelect aB=true:=by kernel_rfl) (hf:Region.free md aB aA i=true:=by kernel_rfl) (hr:(Region.ready md aB aA).contains i=true:=by kernel_rfl)
  (hQ:∀ c a w,Q (.panic c) (a.put oi.dst v) w->Q (.panic c) a w:=by exact fun _ _ _ h=>h):wpAnyH P md aB Q S (aC+1) aA a w:=wpAnyH_take hi hs hf hr hQ hy hS h
theorem TY {P:Program} {aB:Array Oper} {Q:Exit->Act->World->Prop} {md:Region.Mode} {S:World->Prop} (i:Nat) {oi:Oper} (v:Value) {aC:Nat} {aA:Array Bool} {a:Act} {w:World} (hi:aB[i]?=some oi) (hS:S w)
  (h:wpAnyH P md aB Q S aC (aA.setIfInBounds i true) (a.put oi.dst v) w) (hy:YieldsIf P aB S oi v a:=by exact Or.inl ⟨by rfl,fun w hw=>by (repeat (obtain ⟨_,hw⟩:=hw));go_simp⟩) (hs:Region.noSelect aB=true:=by kernel_rfl) (hf:Region.free md aB aA i=true:=by kernel_rfl) (hr:(Region.ready md aB aA).contains i=true:=by kernel_rfl)
  (hQ:∀ c a w,Q (.panic c) (a.put oi.dst v) w->Q (.panic c) a w:=by exact fun _ _ _ h=>h):wpAnyH P md aB Q S (aC+1) aA a w:=wpAnyH_take hi hs hf hr hQ hy hS h
theorem TZ {P:Program} {aB:Array Oper} {Q:Exit->Act->World->Prop} {md:Region.Mode} {S:World->Prop} (i:Nat) {oi:Oper} (v:Value) {aC:Nat} {aA:Array Bool} {a:Act} {w:World} (hi:aB[i]?=some oi) (hS:S w)
  (h:wpAnyH P md aB Q S aC (aA.setIfInBounds i true) (a.put oi.dst v) w) (hy:YieldsIf P aB S oi v a:=by exact Or.inl ⟨by rfl,fun w hw=>by (repeat (obtain ⟨_,hw⟩:=hw));go_simp;all_goals omega⟩) (hs:Region.noSelect aB=true:=by kernel_rfl) (hf:Region.free md aB aA i=true:=by kernel_rfl) (hr:(Region.ready md aB aA).contains i=true:=by kernel_rfl)
  (hQ:∀ c a w,Q (.panic c) (a.put oi.dst v) w->Q (.panic c) a w:=by exact fun _ _ _ h=>h):wpAnyH P md aB Q S (aC+1) aA a w:=wpAnyH_take hi hs hf hr hQ hy hS h
theorem RD {P:Program} {aC:Array Oper} {Q:Exit->Act->World->Prop} {md:Region.Mode} {S:World->Prop} {aB:Nat} {aA:Array Bool} {a:Act} {w:World} (i:Nat) {o:Oper} (ho:aC[i]?=some o)
  (h:∀ K':Act->World->Prop,Shut (∀ a w,S w->(S w->wpAnyH P md aC Q S aB (aA.setIfInBounds i true) a w)->K' a w)->if Region.wanted o (yielded aC a.tmps)=true then Oper.wp P o a w K' Q else K' (a.put o.dst undef) w)
  (hr:Region.ready md aC aA=[i]:=by kernel_rfl):wpAnyH P md aC Q S (aB+1) aA a w:=wpAnyH_ready hr (by simp) (AllReadyH.cons ho h AllReadyH.nil)
theorem DN {P:Program} {aC:Array Oper} {Q:Exit->Act->World->Prop} {md:Region.Mode} {S:World->Prop} {aB:Nat} {aA:Array Bool} {a:Act} {w:World} (h:Q .normal a w) (hr:Region.ready md aC aA=[]:=by kernel_rfl):wpAnyH P md aC Q S aB aA a w:=wpAnyH_done hr h _
theorem Jdx {a b:ByteArray} (h:a=b):Ending.returned (.string a)=.returned (.string b):=by rw [h]
theorem QHv (w:World) (n:Int):(convert 22 9 (.slice (some ⟨w.heap.size,0,none⟩) 1 1)).run Tryz.prog (w.alloc (.cells #[.int .u8 n] 5))=.ok (.string (strOfNums [n])) (w.alloc (.cells #[.int .u8 n] 5)) :=
 run_convert_bytes_arg (P:=Tryz.prog) _ 22 5 Tryz.underlying22 Tryz.underlying5 w.heap.size 0 1 1 [n] rfl (fun i hi=>by
  have:i=0:=by omega
  subst this;simp) 9 Tryz.underlying9
theorem X3C (n:Int) (w:World):Calls Tryz.prog 30 #[.int .i64 n] w fun e w'=>e=.returned (.bool (decide (1<=n/\n<=8)))/\w'=w:=by
 by_cases h1:1<=n
 ·by_cases h2:n<=8
  ·go_enter Tryz.func30,Tryz.ntmps30
   go_wp2;go_ret;exact ⟨by simp [h1,h2],rfl⟩
  ·go_enter Tryz.func30,Tryz.ntmps30
   go_wp2;go_ret;exact ⟨by simp [h2],rfl⟩
 ·go_enter Tryz.func30,Tryz.ntmps30
  go_wp2;go_ret;exact ⟨by simp;omega,rfl⟩
theorem jnI (n:Int) (w:World):Calls Tryz.prog 25 #[.int .i64 n] w fun e w'=>e=.returned (.bool (decide (1<=n/\n<=8)))/\w'=w:=by
 by_cases h1:1<=n
 ·by_cases h2:n<=8
  ·go_enter Tryz.func25,Tryz.ntmps25
   go_wp2;go_ret;exact ⟨by simp [h1,h2],rfl⟩
  ·go_enter Tryz.func25,Tryz.ntmps25
   go_wp2;go_ret;exact ⟨by simp [h2],rfl⟩
 ·go_enter Tryz.func25,Tryz.ntmps25
  go_wp2;go_ret;exact ⟨by simp;omega,rfl⟩
theorem xuE (s:ByteArray) (w:World) (n:Nat) (hs:s.size<=1048576) (h1:1<=n) (h2:n<=8) :
  Calls Tryz.prog 40 #[.string s,.int .i64 (n:Int)] w fun e w'=>e=.returned (.string (xXU s n))/\Below w.heap.size w w':=by
 have aJ:=QHv;have aE:(1:Int)<=(n:Int):=by omega
 have aG:(n:Int)<=8:=by omega
 go_enter Tryz.func40,Tryz.ntmps40;go_wp2;go_loop [5,6] (fun v i=>∃ k:Nat,k<=s.size/\i=.int .i64 k/\v=.int .u64 (fnv (s.data.toList.take k))) (fun _ i=>s.size-(intOf i).toNat)
 case atStart=>exact ⟨0,Nat.zero_le _,rfl,rfl⟩
 case round =>
  obtain ⟨k,hk,rfl,rfl⟩:=hrel
  by_cases aC:k<s.size
  ·have HS:Hid (fnv (s.data.toList.take (k+1))=Zr4 (fnv (s.data.toList.take k)) s[k]):=by show _=_;rw [vDo s k aC,xz3]
   go_wp2;go_round
   case rel=>exact ⟨k+1,by omega,by go_num,by rw [HS.out];rfl⟩
   case measure=>simp [intOf];omega
  ·have aB:s.data.toList.take k=s.data.toList:=List.take_of_length_le (by simp;omega)
   have HV:Hid (fnv (s.data.toList.take k)=fnv s.data.toList):=by show _=_;rw [aB]
   clear aB;obtain ⟨x,HX⟩:∃ x,Hid (x=fnv s.data.toList):=⟨fnv s.data.toList,(rfl:fnv s.data.toList=fnv s.data.toList)⟩;rw [HV.out,<-HX.out];have hx:0<=x/\x<=18446744073709551615:=by rw [HX.out];exact ZT7 _
   go_wp2;go_loopw [5,7,8] (fun v o i wr=>∃ k:Nat,k<=n/\i=.int .i64 k/\o=.string (strOfNums (be k x))/\v=.int .u64 (sh k x)/\Below w.heap.size w wr) (fun _ _ i _=>n-(intOf i).toNat)
   case atStart=>exact ⟨0,Nat.zero_le _,rfl,rfl,rfl,Below.refl _ _⟩
   case round =>
    obtain ⟨k,hk,rfl,rfl,rfl,aA⟩:=hrel;have aH:=yQp k x hx.1 hx.2
    by_cases aC:k<n
    ·have aI:(strOfNums [sh k x % 256]).size<=1:=by rw [strOfNums_size];simp
     have aF:(strOfNums (be k x)).size<=8:=by rw [strOfNums_size,XHU];omega
     go_wp2;go_roundw
     case rel=>exact ⟨k+1,by omega,by go_num,by rw [v50,<-zQR];rfl,rfl,aA.alloc aA.size _⟩
     case measure=>simp [intOf];omega
    ·have aD:k=n:=by omega
     subst aD;go_wp2;go_ret;exact ⟨Jdx (by unfold xXU;rw [HX.out]),aA⟩
theorem yfG (b off n cap:Nat) (x:Int) (w:World) (hn:n<=64) (aD:0<=x) (aE:x<=18446744073709551615)
  (hc:∀ i,i<n->∃ u,w.cell? ⟨b,off+i,none⟩=some (.int .u8 u)) (hf:∀ i,i<n->w.frozen? ⟨b,off+i,none⟩=false) :
  Calls Tryz.prog 18 #[.slice (some ⟨b,off,none⟩) n cap,.int .u64 x] w fun e w'=>e=.returned (.tuple #[])/\Wrote w w' b off (be n x):=by
 go_enter Tryz.func18,Tryz.ntmps18;go_wp2;go_loopw [1,4] (fun v i wr=>∃ k:Nat,k<=n/\i=.int .i64 ((n:Int)-1-k)/\v=.int .u64 (sh k x)/\Wrote w wr b (off+(n-k)) (be k x)) (fun _ i _=>(intOf i+1).toNat)
 case atStart=>exact ⟨0,Nat.zero_le _,by simp,rfl,by simpa [be] using Wrote.refl w b (off+n)⟩
 case round =>
  obtain ⟨k,hk,rfl,rfl,aA⟩:=hrel;have aI:=yQp k x aD aE
  by_cases aH:k<n
  ·obtain ⟨u,hu⟩:=hc (n-1-k) (by omega)
   have aG:wr.cell? ⟨b,off+(n-1-k),none⟩=some (.int .u8 u):=(aA.outside _ (.inl (by omega))).trans hu;have aF:wr.frozen? ⟨b,off+(n-1-k),none⟩=false:=(aA.frozen _).trans (hf _ (by omega));go_wp2;go_roundw
   case rel =>
    have aC:=Wrote.step (off:=off+(n-1-k)) (xs:=be k x) (by rw [show off+(n-1-k)+1=off+(n-k) by omega];exact aA) (sh k x % 256) hu;exact ⟨k+1,by omega,by go_num,rfl,by rw [v50,show n-(k+1)=n-1-k by omega];exact aC⟩
   case measure=>simp [intOf];omega
  ·have aB:k=n:=by omega
   subst aB;go_wp2;go_end0;exact ⟨rfl,by simpa using aA⟩
theorem yEK (s:ByteArray) (w:World) (n:Nat) (hs:s.size<=1048576) (h1:1<=n) (h2:n<=8) :
  Calls Tryz.prog 56 #[.string s,.int .i64 (n:Int)] w fun e w'=>e=.returned (.string (xXU s n))/\Below w.heap.size w w':=by
 have aF:(1:Int)<=(n:Int):=by omega
 have aG:(n:Int)<=8:=by omega
 go_enter Tryz.func56,Tryz.ntmps56;go_wp2;go_loop [5,6] (fun v i=>∃ k:Nat,k<=s.size/\i=.int .i64 k/\v=.int .u64 (fnv (s.data.toList.take k))) (fun _ i=>s.size-(intOf i).toNat)
 case atStart=>exact ⟨0,Nat.zero_le _,rfl,rfl⟩
 case round =>
  obtain ⟨k,hk,rfl,rfl⟩:=hrel
  by_cases aD:k<s.size
  ·have HS:Hid (fnv (s.data.toList.take (k+1))=Zr4 (fnv (s.data.toList.take k)) s[k]):=by show _=_;rw [vDo s k aD,xz3]
   go_wp2;go_round
   case rel=>exact ⟨k+1,by omega,by go_num,by rw [HS.out];rfl⟩
   case measure=>simp [intOf];omega
  ·have aB:s.data.toList.take k=s.data.toList:=List.take_of_length_le (by simp;omega)
   have HV:Hid (fnv (s.data.toList.take k)=fnv s.data.toList):=by show _=_;rw [aB]
   clear aB;obtain ⟨x,HX⟩:∃ x,Hid (x=fnv s.data.toList):=⟨fnv s.data.toList,(rfl:fnv s.data.toList=fnv s.data.toList)⟩;rw [HV.out,<-HX.out];have hx:0<=x/\x<=18446744073709551615:=by rw [HX.out];exact ZT7 _
   go_wp2_with fail;refine (yfG w.heap.size 0 8 8 x _ (by omega) hx.1 hx.2 ?hc ?hf).mono ?_
   case hc =>
    intro i hi;have:i=0\/i=1\/i=2\/i=3\/i=4\/i=5\/i=6\/i=7:=by omega
    rcases this with rfl | rfl | rfl | rfl | rfl | rfl | rfl | rfl<;>exact ⟨0,by simp⟩
   case hf=>intro i hi;simp
   rintro e w1 ⟨rfl,aA⟩;have aE:Below w.heap.size w w1:=((Below.refl _ _).alloc (Nat.le_refl _) _).trans (aA.below (Nat.le_refl _))
   have aH:=fun cap=>run_convert_bytes_arg (P:=Tryz.prog) w1 22 5 Tryz.underlying22 Tryz.underlying5 w.heap.size (8-n) n cap (be n x) (XHU n x) (fun i hi=>by
    have h:=aA.inside (8-n+i) (by rw [XHU];omega);rw [j2P _ _ _ (by omega)] at h;rw [j2P _ _ _ (by omega),show n-1-i=8-1-(8-n+i) by omega]
    simpa using h) 9 Tryz.underlying9
   clear aA
   have aC:=fun wx=>xXI (P:=Tryz.prog) (t:=127) Tryz.underlying127 (fun _=>by kernel_rfl) w.heap.size 0 (8-n) (by omega) .i64 (8-(n:Int)) (by omega) wx
   rw [show 8-(8-n)=n by omega,Nat.zero_add] at aC;go_wp2;go_ret;exact ⟨Jdx (by unfold xXU;rw [HX.out]),aE⟩
theorem x6n {a b:Bool} (h:a=b):Ending.returned (.bool a)=.returned (.bool b):=by rw [h]
def Xhw (k l m:Int) (p:ByteArray) (n:Int):Bool:=decide (1<=n/\n<=8/\1<=k/\k<=4/\1<=l/\l<=60000/\1<=m/\m<=1000000000/\(p.size:Int)<=56-n/\(k=3->p.size=0))
@[reducible] def QAw (k l m:Int) (p:ByteArray):Value:=.agg #[.int .i64 k,.int .i64 l,.int .i64 m,.string p]
theorem kbB (v:Int) (c:Nat) (w:World) (h0:0<=v) (h1:v<=9223372036854775807) (hc:c<=8) :
  Calls Tryz.prog 21 #[.int .i64 v,.int .i64 (c:Int)] w fun e w'=>e=.returned (.string (strOfNums (be c v)))/\Below w.heap.size w w':=by
 have aG:=QHv;go_enter Tryz.func21,Tryz.ntmps21;go_wp2;go_loopw [0,5,6] (fun x o i wr=>∃ k:Nat,k<=c/\i=.int .i64 k/\o=.string (strOfNums (be k v))/\x=.int .i64 (sh k v)/\Below w.heap.size w wr) (fun _ _ i _=>c-(intOf i).toNat)
 case atStart=>exact ⟨0,Nat.zero_le _,rfl,rfl,rfl,Below.refl _ _⟩
 case round =>
  obtain ⟨k,hk,rfl,rfl,rfl,aA⟩:=hrel;have aE:=QAX k v h0 h1
  by_cases aD:k<c
  ·have aF:(strOfNums [sh k v % 256]).size<=1:=by rw [strOfNums_size];simp
   have aC:(strOfNums (be k v)).size<=8:=by rw [strOfNums_size,XHU];omega
   go_wp2;go_roundw
   case rel=>exact ⟨k+1,by omega,by go_num,by rw [v50,<-zQR];rfl,rfl,aA.alloc aA.size _⟩
   case measure=>simp [intOf];omega
  ·have aB:k=c:=by omega
   subst aB;go_wp2;go_ret;exact ⟨rfl,aA⟩
theorem XAP (n:Int) (w:World) (h1:1<=n) (h2:n<=8):Calls Tryz.prog 57 #[.int .i64 n] w fun e w'=>e=.returned (.int .i64 (64-n-8))/\w'=w:=by
 go_enter Tryz.func57,Tryz.ntmps57;go_wp2;go_ret;exact ⟨rfl,rfl⟩
theorem qHH (n:Int) (w:World) (h1:1<=n) (h2:n<=8):Calls Tryz.prog 55 #[.int .i64 n] w fun e w'=>e=.returned (.int .i64 (64-n-8))/\w'=w:=by
 go_enter Tryz.func55,Tryz.ntmps55;go_wp2;go_ret;exact ⟨rfl,rfl⟩
theorem ZTz (k l m:Int) (p:ByteArray) (n:Int) (w:World) (hp:p.size<=1048576) :
  Calls Tryz.prog 37 #[QAw k l m p,.int .i64 n] w fun e w'=>e=.returned (.bool (Xhw k l m p n))/\Below w.heap.size w w':=by
 by_cases hn:1<=n/\n<=8
 ·obtain ⟨aC,aB⟩:=hn
  go_enter Tryz.func37,Tryz.ntmps37;go_wp2
  all_goals first
   | (go_ret;refine ⟨x6n ?_,(Below.refl _ _).alloc (Nat.le_refl _) _⟩;unfold Xhw;symm;apply decide_eq_false;intro h;omega)
   | (go_ret;refine ⟨x6n ?_,(Below.refl _ _).alloc (Nat.le_refl _) _⟩;have aA:(k == 3)=true:=(by assumption);rw [vOw];unfold Xhw;simp at aA;apply decide_eq_decide.2;constructor<;>intro h<;>omega)
   | (go_quiet ((go_at_call 55;exact Calls.quiet_of_same (qHH _ _ aC aB)));go_wp2;go_ret;refine ⟨x6n ?_,below_drewN ((Below.refl _ _).alloc (Nat.le_refl _) _) _⟩;have aA:(k == 3)=false:=(by assumption);unfold Xhw;simp at aA;apply decide_eq_decide.2;constructor<;>intro h<;>omega)
 ·have hd:decide (1<=n/\n<=8)=false:=by simpa using hn
  go_enter Tryz.func37,Tryz.ntmps37;go_wp2_with (go_at_call 25;refine (jnI _ _).mono ?_;rw [hd];rintro e w' ⟨rfl,rfl⟩);go_ret;refine ⟨x6n ?_,(Below.refl _ _).alloc (Nat.le_refl _) _⟩;unfold Xhw;symm;apply decide_eq_false;intro h;omega
theorem QQH (k l m:Int) (p:ByteArray) (n:Int) (w:World) (hp:p.size<=1048576) :
  Calls Tryz.prog 39 #[QAw k l m p,.int .i64 n] w fun e w'=>e=.returned (.bool (Xhw k l m p n))/\Below w.heap.size w w':=by
 by_cases hn:1<=n/\n<=8
 ·obtain ⟨aA,aB⟩:=hn
  by_cases h1:1<=k/\k<=4/\1<=l/\l<=60000/\1<=m/\m<=1000000000
  ·obtain ⟨a1,a2,a3,a4,a5,a6⟩:=h1
   by_cases hz:(p.size:Int)<=64-n-8
   ·by_cases hk:k=3
    ·have aC:(k != 3)=false:=by simp [hk]
     have HK:Hid (k=3):=hk;clear hk;go_enter Tryz.func39,Tryz.ntmps39;go_wp2;go_quiet ((go_at_call 57;exact Calls.quiet_of_same (XAP _ _ aA aB)));go_wp2;go_ret;refine ⟨x6n ?_,below_drewN ((Below.refl _ _).alloc (Nat.le_refl _) _) _⟩;rw [vOw];unfold Xhw;have hk:=HK.out;apply decide_eq_decide.2;constructor<;>intro h<;>omega
    ·have aC:(k != 3)=true:=by simp [hk]
     go_enter Tryz.func39,Tryz.ntmps39;go_wp2;go_quiet ((go_at_call 57;exact Calls.quiet_of_same (XAP _ _ aA aB)));go_wp2;go_ret;refine ⟨x6n ?_,below_drewN ((Below.refl _ _).alloc (Nat.le_refl _) _) _⟩;unfold Xhw;symm;apply decide_eq_true;omega
   ·have aD:decide ((p.size:Int)<=64-n-8)=false:=by simpa using hz
    go_enter Tryz.func39,Tryz.ntmps39;go_wp2;go_quiet ((go_at_call 57;exact Calls.quiet_of_same (XAP _ _ aA aB)));go_wp2;go_ret;refine ⟨x6n ?_,below_drewN ((Below.refl _ _).alloc (Nat.le_refl _) _) _⟩;unfold Xhw;symm;apply decide_eq_false;intro h;omega
  ·have hf:Xhw k l m p n=false:=by unfold Xhw;apply decide_eq_false;intro h;omega
   have HF:Hid (Xhw k l m p n=false):=hf;clear hf;go_enter Tryz.func39,Tryz.ntmps39;go_wp2
   all_goals (go_ret;exact ⟨x6n HF.out.symm,(Below.refl _ _).alloc (Nat.le_refl _) _⟩)
 ·have hd:decide (1<=n/\n<=8)=false:=by simpa using hn
  go_enter Tryz.func39,Tryz.ntmps39;go_wp2_with (go_at_call 30;refine (X3C _ _).mono ?_;rw [hd];rintro e w' ⟨rfl,rfl⟩);go_ret;refine ⟨x6n ?_,(Below.refl _ _).alloc (Nat.le_refl _) _⟩;unfold Xhw;symm;apply decide_eq_false;intro h;omega
theorem vvj {p:Prop} (h:p):Hid p:=h
def JIy:Value->ByteArray
 | .string s=>s
 | _=>ByteArray.empty
theorem Q0K (k l m:Int) (p:ByteArray):strOfNums (be 1 k)++strOfNums (be 2 l)++strOfNums (be 4 m)++strOfNums (be 1 (p.size:Int))++p=strOfNums (QKX k l m p++List.replicate 0 0):=by
 rw [List.replicate_zero,List.append_nil];unfold QKX;rw [zQR,zQR,zQR,zQR,ZXs]
theorem z9O (xs:List Int) (j:Nat):strOfNums (xs++List.replicate j 0)++⟨#[0]⟩=strOfNums (xs++List.replicate (j+1) 0):=by
 rw [List.replicate_succ',<-List.append_assoc,zQR _ [0]];rfl
theorem vFv (v:Int) (c:Nat) (ci:Int) (aA:ci=(c:Int)) (w:World) (h0:0<=v) (h1:v<=9223372036854775807) (hc:c<=8) :
  Calls Tryz.prog 21 #[.int .i64 v,.int .i64 ci] w fun e w'=>e=.returned (.string (strOfNums (be c v)))/\Below w.heap.size w w':=by
 subst aA;exact kbB v c w h0 h1 hc
theorem X84 {W:World} {v0 v1 v2 v3:Value} {w w':World} (hb:Below w.heap.size w w')
  (h:W.heap.size<w.heap.size/\w.cell? ⟨W.heap.size,0,none⟩=some v0/\w.cell? ⟨W.heap.size,1,none⟩=some v1/\w.cell? ⟨W.heap.size,2,none⟩=some v2/\w.cell? ⟨W.heap.size,3,none⟩=some v3/\Below W.heap.size W w) :
  W.heap.size<w'.heap.size/\w'.cell? ⟨W.heap.size,0,none⟩=some v0/\w'.cell? ⟨W.heap.size,1,none⟩=some v1/\w'.cell? ⟨W.heap.size,2,none⟩=some v2/\w'.cell? ⟨W.heap.size,3,none⟩=some v3/\Below W.heap.size W w' :=
 ⟨Nat.lt_of_lt_of_le h.1 hb.size,(hb.cell (p:=⟨_,0,none⟩) h.1).trans h.2.1,(hb.cell (p:=⟨_,1,none⟩) h.1).trans h.2.2.1,(hb.cell (p:=⟨_,2,none⟩) h.1).trans h.2.2.2.1,(hb.cell (p:=⟨_,3,none⟩) h.1).trans h.2.2.2.2.1,
  h.2.2.2.2.2.trans (hb.mono (Nat.le_of_lt h.1))⟩
theorem qMP (k l m:Int) (p:ByteArray) (n:Nat) (w:World) (aB:Xhw k l m p n=true) :
  Calls Tryz.prog 20 #[QAw k l m p,.int .i64 (n:Int)] w fun e w'=>e=.returned (.string (XQs k l m p n))/\Below w.heap.size w w':=by
 have aA:=of_decide_eq_true (by unfold Xhw at aB;exact aB);obtain ⟨aJ,aM,aL,aV,aK,aT,aN,aO,hp,_⟩:=aA;have z1:(strOfNums (be 1 k)).size=1:=by rw [strOfNums_size,XHU]
 have z2:(strOfNums (be 2 l)).size=2:=by rw [strOfNums_size,XHU]
 have z3:(strOfNums (be 4 m)).size=4:=by rw [strOfNums_size,XHU]
 have z4:(strOfNums (be 1 (p.size:Int))).size=1:=by rw [strOfNums_size,XHU]
 have z5:¬ (9223372036854775807<8+p.size):=by omega
 go_enter Tryz.func20,Tryz.ntmps20;go_wp2_with (go_at_call 39;refine (QQH k l m p n _ (by omega)).mono ?_;rw [aB];rintro e w1 ⟨rfl,aD⟩)
 have hS:w.heap.size<w1.heap.size/\w1.cell? ⟨w.heap.size,0,none⟩=some (.int .i64 k)/\w1.cell? ⟨w.heap.size,1,none⟩=some (.int .i64 l)/\w1.cell? ⟨w.heap.size,2,none⟩=some (.int .i64 m)/\w1.cell? ⟨w.heap.size,3,none⟩=some (.string p)/\Below w.heap.size w w1 :=
  X84 (v0:=.int .i64 k) (v1:=.int .i64 l) (v2:=.int .i64 m) (v3:=.string p) aD ⟨by simp,by simp,by simp,by simp,by simp,(Below.refl _ _).alloc (Nat.le_refl _) _⟩
 have HS:=vvj hS;clear hS aD
 go_region_held3 (fun w'=>w.heap.size<w'.heap.size/\w'.cell? ⟨w.heap.size,0,none⟩=some (.int .i64 k)/\w'.cell? ⟨w.heap.size,1,none⟩=some (.int .i64 l)/\w'.cell? ⟨w.heap.size,2,none⟩=some (.int .i64 m)/\w'.cell? ⟨w.heap.size,3,none⟩=some (.string p)/\Below w.heap.size w w')
  (first | assumption | exact X84 (below_drewN (Below.refl _ _) 1) HS.out | exact X84 (by assumption) (by assumption))
  (first | (go_at_call_of 21 k;refine (vFv k 1 _ rfl _ (by omega) (by omega) (by omega)).mono ?_;rintro e w2 ⟨rfl,aH⟩) | (go_at_call_of 21 l;refine (vFv l 2 _ rfl _ (by omega) (by omega) (by omega)).mono ?_;rintro e w3 ⟨rfl,aI⟩) | (go_at_call_of 21 m;refine (vFv m 4 _ rfl _ (by omega) (by omega) (by omega)).mono ?_;rintro e w4 ⟨rfl,aP⟩) | (go_at_call_of 21 (p.size:Int);refine (vFv (p.size:Int) 1 _ rfl _ (by omega) (by omega) (by omega)).mono ?_;rintro e w5 ⟨rfl,aU⟩))
 clear HS;rename_i hSl;have aC:=hSl.2.2.2.2.2;clear hSl;go_wp2;go_loop [5] (fun b=>∃ j:Nat,j<=56-n-p.size/\b=.string (strOfNums (QKX k l m p++List.replicate j 0))) (fun b=>64-(JIy b).size)
 case atStart=>exact ⟨0,Nat.zero_le _,by rw [Q0K]⟩
 case round =>
  obtain ⟨j,hj,rfl⟩:=hrel;have aG:(strOfNums (QKX k l m p++List.replicate j 0)).size=8+p.size+j:=by rw [strOfNums_size,List.length_append,QeT,List.length_replicate]
  by_cases aS:j<56-n-p.size
  ·go_wp2
   go_round
   case rel=>exact ⟨j+1,by omega,by rw [z9O]⟩
   case measure =>
    rw [z9O];simp only [JIy,strOfNums_size,List.length_append,QeT,List.length_replicate];omega
  ·have aF:j=56-n-p.size:=by omega
   subst aF;have aR:(xXU (strOfNums (QKX k l m p++List.replicate (56-n-p.size) 0)) n).size=n:=j6x _ _;have aQ:¬ (9223372036854775807<n+(8+p.size+(56-n-p.size))):=by omega
   go_wp2_with (go_at_call 40;refine (xuE _ _ n (by rw [aG];omega) (by omega) (by omega)).mono ?_;rintro e w6 ⟨rfl,aE⟩);go_ret;exact ⟨rfl,aC.trans (aE.mono aC.size)⟩
theorem jAi (k l m:Int) (p:ByteArray) (n:Int) (w:World) (hp:p.size<=1048576) (aA:Xhw k l m p n=false) :
  Calls Tryz.prog 20 #[QAw k l m p,.int .i64 n] w fun e w'=>e=.returned (.string ByteArray.empty)/\Below w.heap.size w w':=by
 go_enter Tryz.func20,Tryz.ntmps20;go_wp2_with (go_at_call 39;refine (QQH k l m p n _ hp).mono ?_;rw [aA];rintro e w1 ⟨rfl,aB⟩);go_ret;exact ⟨rfl,((Below.refl _ _).alloc (Nat.le_refl _) _).trans (aB.mono (by simp))⟩
section
def spl (xs:List Int) (o:Nat) (ys:List Int):List Int:=xs.take o++ys++xs.drop (o+ys.length)
theorem yi3 (xs:List Int) (o:Nat) (ys:List Int) (h:o+ys.length<=xs.length):(spl xs o ys).length=xs.length:=by
 simp [spl];omega
theorem yZk (xs:List Int) (o:Nat) (ys:List Int) (h:o+ys.length<=xs.length) (i:Nat) (hi:i<ys.length):(spl xs o ys).getD (o+i) 0=ys.getD i 0:=by
 have ho:(xs.take o).length=o:=by simp;omega
 unfold spl;rw [List.getD_eq_getElem?_getD,List.append_assoc,List.getElem?_append_right (by omega),ho,show o+i-o=i by omega,List.getElem?_append_left hi,List.getD_eq_getElem?_getD]
theorem zFW (xs:List Int) (o:Nat) (ys:List Int) (h:o+ys.length<=xs.length) (i:Nat) (hi:i<o\/o+ys.length<=i):(spl xs o ys).getD i 0=xs.getD i 0:=by
 have ho:(xs.take o).length=o:=by simp;omega
 unfold spl;rcases hi with hi | hi
 ·rw [List.getD_eq_getElem?_getD,List.append_assoc,List.getElem?_append_left (by omega),List.getElem?_take_of_lt hi,List.getD_eq_getElem?_getD]
 ·rw [List.getD_eq_getElem?_getD,List.getElem?_append_right (by simp;omega),List.length_append,ho,List.getElem?_drop,show o+ys.length+(i-(o+ys.length))=i by omega,List.getD_eq_getElem?_getD]
structure Fm (w:World) (F:Nat) (xs:List Int):Prop where
 cell:∀ i,i<xs.length->w.cell? ⟨F,i,none⟩=some (.int .u8 (xs.getD i 0))
 froz:∀ i,i<xs.length->w.frozen? ⟨F,i,none⟩=false
theorem Fm.drew {w:World} {F:Nat} {xs:List Int} (h:Fm w F xs):Fm w.drew F xs:=⟨h.cell,h.froz⟩
theorem Fm.wrote {w w':World} {F o:Nat} {xs ys:List Int} (h:Fm w F xs) (hw:Wrote w w' F o ys) (hl:o+ys.length<=xs.length):Fm w' F (spl xs o ys):=by
 have aA:=yi3 xs o ys hl;refine ⟨fun i hi=>?_,fun i hi=>(hw.frozen _).trans (h.froz i (by omega))⟩
 by_cases aB:o<=i/\i<o+ys.length
 ·have:=hw.inside (i-o) (by omega)
  rw [show o+(i-o)=i by omega] at this;rw [this];have e:=yZk xs o ys hl (i-o) (by omega);rw [show o+(i-o)=i by omega] at e;rw [e]
 ·rw [hw.outside i (by omega),h.cell i (by omega),zFW xs o ys hl i (by omega)]
theorem Fm.below {w w':World} {F:Nat} {xs:List Int} (h:Fm w F xs) (hb:Below w.heap.size w w') (hF:F<w.heap.size):Fm w' F xs :=
 ⟨fun i hi=>(hb.cell (p:=⟨F,i,none⟩) hF).trans (h.cell i hi),fun i hi=>(hb.frozen (p:=⟨F,i,none⟩) hF).trans (h.froz i hi)⟩
theorem QUl (b:Nat):∀ (vs:List Value) (o:Nat) (w:World),(w.setCells b o vs).heap.size=w.heap.size
 | [],_,_=>rfl
 | v::r,o,w=>by rw [World.setCells,QUl b r];simp [World.setCell]
theorem zWW (b:Nat):∀ (vs:List Value) (o:Nat) (w:World) (k:Nat),k≠b->(w.setCells b o vs).heap[k]?=w.heap[k]?
 | [],_,_,_,_=>rfl
 | v::r,o,w,k,h=>by rw [World.setCells,zWW b r _ _ _ h,Below.heap_setCell _ _ _ _ h]
theorem zyN (b:Nat):∀ (vs:List Value) (o:Nat) (w:World),(w.setCells b o vs).os=w.os/\(w.setCells b o vs).tape=w.tape/\(w.setCells b o vs).output=w.output
 | [],_,_=>⟨rfl,rfl,rfl⟩
 | v::r,o,w=>by rw [World.setCells];exact zyN b r (o+1) _
theorem qDt (w:World) (b o:Nat) (t:ByteArray) (hc:∀ j,j<t.size->(w.cell? ⟨b,o+j,none⟩).isSome=true) :
  Wrote w (w.setCells b o (t.data.toList.map fun x=>Value.int .u8 (x.toNat:Int))) b o (zFD t):=by
 have hl:(t.data.toList.map fun x=>Value.int .u8 (x.toNat:Int)).length=t.size:=by simp
 obtain ⟨h1,h2,h3⟩:=zyN b (t.data.toList.map fun x=>Value.int .u8 (x.toNat:Int)) o w;refine ⟨h1,h2,h3,QUl _ _ _ _,fun k hk=>zWW _ _ _ _ _ hk,fun i hi=>?_,fun x hx=>?_,fun a=>World.frozen?_setCells _ _ _ _ _⟩
 ·rw [vgz] at hi
  rw [World.cell?_setCells_in b _ o w (by rw [hl];exact hc) i (by rw [hl];exact hi)];have hd:i<t.data.toList.length:=by simpa using hi
  simp [zFD,List.getD,List.getElem?_eq_getElem hd]
 ·rw [vgz] at hx
  exact World.cell?_setCells_out b _ o w ⟨b,x,none⟩ (fun _ _=>by rw [hl];simpa using hx)
theorem Fm.text {P:Program} {w:World} {F:Nat} {xs:List Int} (h:Fm w F xs) (aB e aA:TypeId) (hs:P.underlying aB=some (.slice e)) (he:P.underlying e=some (.int .u8)) (hd:P.underlying aA=some .string) (o n cap:Nat) (hl:o+n<=xs.length) :
  (convert aB aA (.slice (some ⟨F,o,none⟩) n cap)).run P w=.ok (.string (strOfNums ((xs.drop o).take n))) w :=
 run_convert_bytes_arg (P:=P) w aB e hs he F o n cap ((xs.drop o).take n) (by simp;omega) (fun i hi=>by
  rw [h.cell (o+i) (by omega)]
  simp [List.getD,List.getElem?_take_of_lt hi,List.getElem?_drop]) aA hd
theorem Fm.step {w w':World} {F o:Nat} {xs ys:List Int} (h:Fm w F xs) (hx:xs.length=64) (hw:Wrote w w' F o ys) (hl:o+ys.length<=64) :
  ∃ aA,Hid (aA=spl xs o ys)/\aA.length=64/\Fm w' F aA :=
 ⟨spl xs o ys,(rfl:spl xs o ys=spl xs o ys),by rw [yi3 _ _ _ (by omega),hx],h.wrote hw (by omega)⟩
theorem Fm.range {w:World} {F:Nat} {xs:List Int} (h:Fm w F xs):w.rangeAt F 0 (xs.map (Value.int .u8)):=fun j v hv=>by
 obtain ⟨hj,e⟩:=List.getElem?_eq_some_iff.1 hv;simp at hj;rw [Nat.zero_add,h.cell j hj];simp at e;subst e;simp [List.getD,List.getElem?_eq_getElem hj]
structure PI (W w:World) (c0 c1 c2 c3:Value):Prop where
 size:W.heap.size+3<=w.heap.size
 bel:Below W.heap.size W w
 b0:w.cell? ⟨W.heap.size,0,none⟩=some c0
 b1:w.cell? ⟨W.heap.size,1,none⟩=some c1
 b2:w.cell? ⟨W.heap.size,2,none⟩=some c2
 b3:w.cell? ⟨W.heap.size,3,none⟩=some c3
 there:w.there (W.heap.size+1) 0 64
section
variable {W w w':World} {c0 c1 c2 c3:Value}
theorem PI.drew (h:PI W w c0 c1 c2 c3):PI W w.drew c0 c1 c2 c3:=⟨h.size,h.bel.drew,h.b0,h.b1,h.b2,h.b3,h.there⟩
theorem PI.below (h:PI W w c0 c1 c2 c3) (hb:Below w.heap.size w w'):PI W w' c0 c1 c2 c3 :=
 have hs:=h.size
 ⟨Nat.le_trans hs hb.size,h.bel.trans (hb.mono (by omega)),(hb.cell (p:=⟨_,0,none⟩) (by show W.heap.size<_;omega)).trans h.b0,(hb.cell (p:=⟨_,1,none⟩) (by show W.heap.size<_;omega)).trans h.b1,
  (hb.cell (p:=⟨_,2,none⟩) (by show W.heap.size<_;omega)).trans h.b2,(hb.cell (p:=⟨_,3,none⟩) (by show W.heap.size<_;omega)).trans h.b3,
  fun j hj=>by rw [hb.cell (p:=⟨_,_,none⟩) (by show W.heap.size+1<_;omega),hb.frozen (p:=⟨_,_,none⟩) (by show W.heap.size+1<_;omega)];exact h.there j hj⟩
theorem PI.wrote {o:Nat} {ys:List Int} (h:PI W w c0 c1 c2 c3) (hw:Wrote w w' (W.heap.size+1+1) o ys):PI W w' c0 c1 c2 c3 :=
 have hs:=h.size;have hb:Below (W.heap.size+1+1) w w':=hw.below (Nat.le_refl _)
 ⟨Nat.le_trans hs hb.size,h.bel.trans (hb.mono (by omega)),(hb.cell (p:=⟨_,0,none⟩) (by show W.heap.size<_;omega)).trans h.b0,(hb.cell (p:=⟨_,1,none⟩) (by show W.heap.size<_;omega)).trans h.b1,
  (hb.cell (p:=⟨_,2,none⟩) (by show W.heap.size<_;omega)).trans h.b2,(hb.cell (p:=⟨_,3,none⟩) (by show W.heap.size<_;omega)).trans h.b3,
  fun j hj=>by rw [hb.cell (p:=⟨_,_,none⟩) (by show W.heap.size+1<_;omega),hb.frozen (p:=⟨_,_,none⟩) (by show W.heap.size+1<_;omega)];exact h.there j hj⟩
theorem PI.toS (h:PI W w c0 c1 c2 c3):w.cell? ⟨W.heap.size,0,none⟩=some c0/\w.cell? ⟨W.heap.size,1,none⟩=some c1/\w.cell? ⟨W.heap.size,2,none⟩=some c2/\w.cell? ⟨W.heap.size,3,none⟩=some c3/\PI W w c0 c1 c2 c3:=⟨h.b0,h.b1,h.b2,h.b3,h⟩
theorem PI.ofS (h:w.cell? ⟨W.heap.size,0,none⟩=some c0/\w.cell? ⟨W.heap.size,1,none⟩=some c1/\w.cell? ⟨W.heap.size,2,none⟩=some c2/\w.cell? ⟨W.heap.size,3,none⟩=some c3/\PI W w c0 c1 c2 c3):PI W w c0 c1 c2 c3:=h.2.2.2.2
end
theorem jWQ (w:World) (b o:Nat) (h:w.heap.size<=b):w.frozen? ⟨b,o,none⟩=false:=by
 have e:w.heap[b]?=none:=by simp [h]
 simp [World.frozen?,e]
theorem qxr {P:Program} {c:Code} {Q:Exit->Act->World->Prop} {a:Act} (w:World) (c0 c1 c2 c3:Value) (t1 t2 t3:TypeId) (A B:Array Value) (hA:A=Array.replicate 64 (.int .u8 0)) (hB:B=Array.replicate 64 (.int .u8 0))
  (h:∀ wa,PI w wa c0 c1 c2 c3->Fm wa (w.heap.size+1+1) (List.replicate 64 0)->c.wp P Q a wa) :
  c.wp P Q a (((w.alloc (.cells #[c0,c1,c2,c3] t1)).alloc (.cells A t2)).alloc (.cells B t3)):=by
 subst hA hB
 have aA:∀ (i:Nat) {v:Value},#[c0,c1,c2,c3][i]?=some v->(((w.alloc (.cells #[c0,c1,c2,c3] t1)).alloc (.cells (Array.replicate 64 (.int .u8 0)) t2)).alloc (.cells (Array.replicate 64 (.int .u8 0)) t3)).cell? ⟨w.heap.size,i,none⟩=some v:=fun i v hv=>by
  rw [World.cell?_alloc_past _ _ _ (by simp;omega),World.cell?_alloc_past _ _ _ (by simp),World.cell?_alloc_at _ _ _ _ rfl];exact hv
 refine h _ ⟨by simp,(((Below.refl _ _).alloc (Nat.le_refl _) _).alloc (by simp) _).alloc (by simp;omega) _,aA _ rfl,aA _ rfl,aA _ rfl,aA _ rfl,fun j hj=>?_⟩ ⟨fun i hi=>?_,fun i hi=>?_⟩
 ·rw [Nat.zero_add,World.cell?_alloc_past _ _ _ (by simp),World.cell?_alloc_at _ _ _ _ (by simp),frozen?_alloc_cells,frozen?_alloc_cells,frozen?_alloc_cells]
  simp [hj,jWQ]
 ·rw [World.cell?_alloc_at _ _ _ _ (by simp)]
  have aB:i<64:=by simpa only [List.length_replicate] using hi
  rw [Array.getElem?_replicate,if_pos aB,List.getD_eq_getElem?_getD,List.getElem?_replicate,if_pos aB];rfl
 ·rw [frozen?_alloc_cells,frozen?_alloc_cells,frozen?_alloc_cells]
  exact jWQ _ _ _ (by omega)
theorem zOi {P:Program} {fn:Func} {p:Tmp} {ty:TypeId} (h:fn.results=#[.cell p ty]) (aA:Array Value) (w:World) (b o:Nat) (hp:aA.getD p undef=.pointer (some ⟨b,o,none⟩))
  (cs:List Value) (d:TypeDesc) (hc:w.rangeAt b o cs) (hu:P.underlying ty=some d) (hd:d.isRow=true) (hi:(P.info? ty).map (·.size)=some cs.length):(results fn aA).run P w=.ok (.agg cs.toArray) w:=by
 have hl:=run_loadVar_mid (P:=P) w b o ty cs d hc hu hd hi;simp only [results,h];rw [Array.getD_eq_getD_getElem?] at hp;simp [hp,asAddr,hl]
theorem xgE (xs:List Int):∀ v∈xs.map (Value.int .u8),v.oneCell'=true:=fun v hv=>by
 obtain ⟨x,_,rfl⟩:=List.mem_map.1 hv;rfl
theorem vJk (xs ys:List Int) (n:Nat) (hn:ys.length=n):(spl xs 0 ys).drop n=xs.drop n:=by
 unfold spl;rw [List.take_zero,List.nil_append,Nat.zero_add,<-hn,List.drop_left]
theorem Fm.isSome {w:World} {F:Nat} {xs:List Int} (h:Fm w F xs) (o m:Nat) (hl:o+m<=xs.length):∀ j,j<m->(w.cell? ⟨F,o+j,none⟩).isSome=true:=fun j hj=>by
 rw [h.cell (o+j) (by omega)];rfl
theorem Fm.frozen {w:World} {F:Nat} {xs:List Int} (h:Fm w F xs) (o m:Nat) (hl:o+m<=xs.length):∀ j,j<m->w.frozen? ⟨F,o+j,none⟩=false:=fun j hj=>h.froz (o+j) (by omega)
theorem Fm.copied {w:World} {F:Nat} {xs:List Int} (h:Fm w F xs) (o:Nat) (t:ByteArray) (hl:o+t.size<=xs.length):Wrote w (w.setCells F o (t.data.toList.map fun x=>Value.int .u8 (x.toNat:Int))) F o (zFD t) :=
 qDt w F o t (h.isSome o t.size hl)
theorem yZK (A ys:List Int) (j o:Nat) (ho:A.length=o):spl (A++List.replicate j 0) o ys=A++ys++List.replicate (j-ys.length) 0:=by
 unfold spl;rw [List.take_append_of_le_length (by omega),List.take_of_length_le (by omega),<-ho,List.drop_length_add_append,List.drop_replicate]
theorem JHq (k l m:Int) (p:ByteArray) (n:Nat) (h:n<=64) {aA aF aB aE aD aC:List Int} (h0:aA=List.replicate 64 0) (h1:aF=spl aA n (be 1 k)) (h2:aB=spl aF (n+1) (be 2 l)) (h3:aE=spl aB (n+3) (be 4 m))
  (h4:aD=spl aE (n+7) (be 1 (p.size:Int))) (h5:aC=spl aD (n+8) (zFD p)):aC=List.replicate n 0++Zah k l m p n:=by
 have e0:aA=List.replicate n 0++List.replicate (64-n) 0:=by rw [h0,List.replicate_append_replicate];congr 1;omega
 rw [e0,yZK _ _ _ n (by simp)] at h1;rw [h1,yZK _ _ _ (n+1) (by simp [XHU])] at h2;rw [h2,yZK _ _ _ (n+3) (by simp [XHU])] at h3;rw [h3,yZK _ _ _ (n+7) (by simp [XHU])] at h4;rw [h4] at h5;rw [h5,yZK _ _ _ (n+8) (by simp [XHU])];unfold Zah QKX;simp only [List.append_assoc,XHU,vgz]
 congr 7
 omega
theorem Q5X (a b:ByteArray):zFD (a++b)=zFD a++zFD b:=by simp [zFD]
theorem XYX (xs:List Int) (h:∀ x∈xs,0<=x/\x<256):zFD (strOfNums xs)=xs:=by
 unfold zFD;rw [strOfNums_data,List.map_map]
 conv=>rhs;rw [<-List.map_id xs]
 apply List.map_congr_left
 intro x hx;have:=h x hx;simp only [Function.comp,id];rw [UInt8.toNat_ofNat'];omega
theorem ZWG (n:Nat) (v:Int):∀ x∈be n v,0<=x/\x<256:=fun x hx=>by
 unfold be at hx;obtain ⟨i,_,rfl⟩:=List.mem_map.1 hx;omega
theorem j1W (p:ByteArray):∀ x∈zFD p,0<=x/\x<256:=fun x hx=>by
 unfold zFD at hx;obtain ⟨c,_,rfl⟩:=List.mem_map.1 hx;have:=c.toNat_lt;omega
theorem Qgc (k l m:Int) (p:ByteArray) (n:Nat):∀ x∈Zah k l m p n,0<=x/\x<256:=fun x hx=>by
 unfold Zah QKX at hx;simp only [List.mem_append,List.mem_replicate] at hx;rcases hx with ((((h | h) | h) | h) | h) | h
 ·exact ZWG _ _ x h
 ·exact ZWG _ _ x h
 ·exact ZWG _ _ x h
 ·exact ZWG _ _ x h
 ·exact j1W _ x h
 ·omega
theorem Qy7 (k l m:Int) (p:ByteArray) (n:Nat) (h:p.size+n<=56) {aA:List Int} {bt:ByteArray} {M:Nat} (hM:M=64-n) (h5:aA=List.replicate n 0++Zah k l m p n) (hb:bt=strOfNums ((aA.drop n).take M)) :
  bt=strOfNums (Zah k l m p n)/\spl aA 0 (zFD (xXU bt n))=zFD (XQs k l m p n):=by
 have hl:=kxp k l m p n h
 have e1:bt=strOfNums (Zah k l m p n):=by
  rw [hb,h5,List.drop_left' (by simp),List.take_of_length_le (by omega)]
 refine ⟨e1,?_⟩;unfold spl XQs;rw [<-e1,Q5X,vgz,j6x,h5,List.take_zero,List.nil_append,Nat.zero_add,List.drop_left' (by simp)]
 congr 1
 rw [e1,XYX _ (Qgc k l m p n)]
theorem jOp (w:World) (A:Array Value) (t:TypeId) (n:Nat) (v:Value) (hA:A=Array.replicate n v):(w.alloc (.cells A t)).there w.heap.size 0 n:=fun j hj=>by
 subst hA;rw [Nat.zero_add,World.cell?_alloc_at _ _ _ _ rfl,frozen?_alloc_cells];exact ⟨by simp [hj],jWQ _ _ _ (Nat.le_refl _)⟩
theorem jY1 {P:Program} {aB:Array Oper} {aA:List Oper} {op:Oper} {a:Act} {w:World} {Q:Exit->Act->World->Prop} (aD:op.guard=none) (ty:TypeId) (x y:Operand) (ho:op.op=.store ty x y)
  (xs:List Int) (hx:a.eval x=.pointer (some ⟨w.heap.size,0,none⟩)) (hy:a.eval y=.agg (xs.map (Value.int .u8)).toArray) (A:Array Value) (t:TypeId) (v:Value) (hA:A=Array.replicate xs.length v)
  (hi:(P.info? ty).map (·.size)=some xs.length)
  (h:∀ wx,Fm wx w.heap.size xs->Below w.heap.size w wx->wx.heap.size=w.heap.size+1->wpList P aB Q aA (a.put op.dst undef) wx):wpList P aB Q (op::aA) a (w.alloc (.cells A t)):=by
 have aC:=jOp w A t xs.length v hA;have hz:(xs.map (Value.int .u8)).toArray.size=xs.length:=by simp
 refine wpList_store_mid aD ty x y ho w.heap.size 0 _ hx hy (by rw [hz];exact aC) (by rw [hz];exact hi) (all_oneCell_toArray (xgE xs)) ?_;have hr:=World.rangeAt_setCells_same (w.alloc (.cells A t)) w.heap.size 0 (xs.map (Value.int .u8)) (by rw [List.length_map];exact aC);refine h _ ⟨fun i hi=>?_,fun i hi=>?_⟩ (Go.below_setCells (Nat.le_refl _) _ _ _ ((Below.refl _ _).alloc (Nat.le_refl _) _)) (by rw [QUl];simp)
 ·have:=hr i (.int .u8 (xs.getD i 0)) (by simp [List.getD,List.getElem?_eq_getElem hi])
  simpa using this
 ·rw [World.frozen?_setCells,frozen?_alloc_cells];exact jWQ _ _ _ (Nat.le_refl _)
end
set_option maxRecDepth 4000 in
theorem Xue (k l m:Int) (p:ByteArray) (n:Nat) (w:World) (bZ:Xhw k l m p n=true) :
  Calls Tryz.prog 38 #[QAw k l m p,.int .i64 (n:Int)] w fun e w'=>e=.returned (.agg ((zFD (XQs k l m p n)).map (Value.int .u8)).toArray)/\Below w.heap.size w w':=by
 have bQ:=of_decide_eq_true (by unfold Xhw at bZ;exact bZ);obtain ⟨eD,dM,dI,eN,dH,eL,eG,eI,hp,_⟩:=bQ
 have cM:=fun wx=>xXI (P:=Tryz.prog) (t:=86) Tryz.underlying86 (fun _=>by kernel_rfl) (w.heap.size+1+1) 0 n (by omega) .i64 (n:Int) rfl wx
 rw [Nat.zero_add] at cM;obtain ⟨M,HM⟩:∃ M,Hid (M=64-n):=⟨64-n,vvj rfl⟩;rw [<-HM.out] at cM;have dY:(56:Int)<=(M:Int):=by have:=HM.out;omega
 have dN:(M:Int)<=63:=by have:=HM.out;omega
 have dQ:(1:Int)<=(M:Int):=by omega
 have dV:(3:Int)<=(M:Int):=by omega
 have eH:(7:Int)<=(M:Int):=by omega
 have eJ:(8:Int)<=(M:Int):=by omega
 have dL:IntKind.u64.wrap k=k:=khQ k (by omega) (by omega);have eF:IntKind.u64.wrap l=l:=khQ l (by omega) (by omega);have dU:IntKind.u64.wrap m=m:=khQ m (by omega) (by omega);have dZ:IntKind.u64.wrap (p.size:Int)=(p.size:Int):=khQ _ (by omega) (by omega);have eC:¬ (M=1):=by omega
 have eB:¬ (M=3):=by omega
 have dR:¬ (M=7):=by omega
 go_enter Tryz.func38,Tryz.ntmps38;go_wp2_with fail;refine qxr w (.int .i64 k) (.int .i64 l) (.int .i64 m) (.string p) _ _ _ _ _ rfl rfl ?_;intro wa cI bU;have aE:(List.replicate 64 (0:Int)).length=64:=by simp
 obtain ⟨cJ,bY⟩:∃ cJ,Hid (cJ=List.replicate 64 (0:Int)):=⟨_,vvj rfl⟩;rw [<-bY.out] at bU aE;have aM:=bU;have bH:=cI;clear bU cI;have cC:=vvj bH.toS;clear bH
 go_region_held3 (fun w'=>w'.cell? ⟨w.heap.size,0,none⟩=some (.int .i64 k)/\w'.cell? ⟨w.heap.size,1,none⟩=some (.int .i64 l)/\w'.cell? ⟨w.heap.size,2,none⟩=some (.int .i64 m)/\w'.cell? ⟨w.heap.size,3,none⟩=some (.string p)/\PI w w' (.int .i64 k) (.int .i64 l) (.int .i64 m) (.string p))
  (first | assumption | exact (PI.ofS cC.out).drew.toS | exact (PI.wrote (PI.ofS (by assumption)) (by assumption)).toS)
  (first | (go_at_call 18;refine (yfG (w.heap.size+1+1) n 1 M k _ (by omega) (by omega) (by omega) (fun i hi=>⟨_,aM.drew.cell (n+i) (by rw [aE];omega)⟩) (fun i hi=>aM.drew.froz (n+i) (by rw [aE];omega))).mono ?_;rintro e wb ⟨rfl,cL⟩))
 have aV:PI w wb (.int .i64 k) (.int .i64 l) (.int .i64 m) (.string p):=PI.ofS (by assumption);obtain ⟨eM,cQ,aP,aK⟩:=aM.drew.step aE cL (by rw [XHU];omega);clear cC cL aM aE;go_wp2_with fail;have cO:=vvj aV.toS;clear aV
 go_region_held3 (fun w'=>w'.cell? ⟨w.heap.size,0,none⟩=some (.int .i64 k)/\w'.cell? ⟨w.heap.size,1,none⟩=some (.int .i64 l)/\w'.cell? ⟨w.heap.size,2,none⟩=some (.int .i64 m)/\w'.cell? ⟨w.heap.size,3,none⟩=some (.string p)/\PI w w' (.int .i64 k) (.int .i64 l) (.int .i64 m) (.string p))
  (first | assumption | exact (PI.ofS cO.out).drew.toS | exact (PI.wrote (PI.ofS (by assumption)) (by assumption)).toS)
  (first | (go_at_call 18;refine (yfG (w.heap.size+1+1) (n+1) 2 (M-1) l _ (by omega) (by omega) (by omega) (fun i hi=>⟨_,aK.drew.cell (n+1+i) (by rw [aP];omega)⟩) (fun i hi=>aK.drew.froz (n+1+i) (by rw [aP];omega))).mono ?_;rintro e wc ⟨rfl,b8⟩))
 have aW:PI w wc (.int .i64 k) (.int .i64 l) (.int .i64 m) (.string p):=PI.ofS (by assumption);obtain ⟨eK,cT,aL,aI⟩:=aK.drew.step aP b8 (by rw [XHU];omega);clear cO b8 aK aP;go_wp2_with fail;have bW:=vvj aW.toS;clear aW
 go_region_held3 (fun w'=>w'.cell? ⟨w.heap.size,0,none⟩=some (.int .i64 k)/\w'.cell? ⟨w.heap.size,1,none⟩=some (.int .i64 l)/\w'.cell? ⟨w.heap.size,2,none⟩=some (.int .i64 m)/\w'.cell? ⟨w.heap.size,3,none⟩=some (.string p)/\PI w w' (.int .i64 k) (.int .i64 l) (.int .i64 m) (.string p))
  (first | assumption | exact (PI.ofS bW.out).drew.toS | exact (PI.wrote (PI.ofS (by assumption)) (by assumption)).toS)
  (first | (go_at_call 18;refine (yfG (w.heap.size+1+1) (n+3) 4 (M-3) m _ (by omega) (by omega) (by omega) (fun i hi=>⟨_,aI.drew.cell (n+3+i) (by rw [aL];omega)⟩) (fun i hi=>aI.drew.froz (n+3+i) (by rw [aL];omega))).mono ?_;rintro e wd ⟨rfl,cE⟩))
 have aZ:PI w wd (.int .i64 k) (.int .i64 l) (.int .i64 m) (.string p):=PI.ofS (by assumption);obtain ⟨dK,cS,aJ,aQ⟩:=aI.drew.step aL cE (by rw [XHU];omega);clear bW cE aI aL;go_wp2_with fail;have cK:=vvj aZ.toS;clear aZ
 go_region_held3 (fun w'=>w'.cell? ⟨w.heap.size,0,none⟩=some (.int .i64 k)/\w'.cell? ⟨w.heap.size,1,none⟩=some (.int .i64 l)/\w'.cell? ⟨w.heap.size,2,none⟩=some (.int .i64 m)/\w'.cell? ⟨w.heap.size,3,none⟩=some (.string p)/\PI w w' (.int .i64 k) (.int .i64 l) (.int .i64 m) (.string p))
  (first | assumption | exact (PI.ofS cK.out).drew.toS | exact (PI.wrote (PI.ofS (by assumption)) (by assumption)).toS)
  (first | (go_at_call 18;refine (yfG (w.heap.size+1+1) (n+7) 1 (M-7) (p.size:Int) _ (by omega) (by omega) (by omega) (fun i hi=>⟨_,aQ.drew.cell (n+7+i) (by rw [aJ];omega)⟩) (fun i hi=>aQ.drew.froz (n+7+i) (by rw [aJ];omega))).mono ?_;rintro e we ⟨rfl,cH⟩))
 have bC:PI w we (.int .i64 k) (.int .i64 l) (.int .i64 m) (.string p):=PI.ofS (by assumption);obtain ⟨dJ,cV,aC,aD⟩:=aQ.drew.step aJ cH (by rw [XHU];omega);clear cK cH aQ aJ;go_wp2_with fail;have dE:¬ (M=8):=by omega
 have cW:p.size<=M-8:=by have:=HM.out;omega
 have bI:=vvj (aD.drew.copied (n+8) p (by rw [aC];omega));have cP:=vvj (aD.drew.isSome (n+8) p.size (by rw [aC];omega));have cF:=vvj (aD.drew.frozen (n+8) p.size (by rw [aC];omega));have bJ:=vvj bC.toS;clear bC
 go_region_held3 (fun w'=>w'.cell? ⟨w.heap.size,0,none⟩=some (.int .i64 k)/\w'.cell? ⟨w.heap.size,1,none⟩=some (.int .i64 l)/\w'.cell? ⟨w.heap.size,2,none⟩=some (.int .i64 m)/\w'.cell? ⟨w.heap.size,3,none⟩=some (.string p)/\PI w w' (.int .i64 k) (.int .i64 l) (.int .i64 m) (.string p))
  (first | assumption | exact (PI.ofS bJ.out).drew.toS | exact (PI.wrote (PI.ofS bJ.out).drew bI.out).toS)
  (first | (refine step_copy_string (by rfl) _ _ _ _ (by rfl) 5 Tryz.underlying22 (fun _=>by kernel_rfl) (w.heap.size+1+1) (n+8) (M-8) (M-8) (by rfl) p (by rfl) cW cP.out cF.out ?_))
 have aH:=PI.wrote (PI.ofS bJ.out).drew bI.out;obtain ⟨aU,cY,aA,aT⟩:=aD.drew.step aC bI.out (by rw [vgz];omega);clear bJ bI cP cF aD aC;obtain ⟨wf,cN⟩:∃ wf,wf=we.drew.setCells (w.heap.size+1+1) (n+8) (List.map (fun x=>Value.int IntKind.u8 (x.toNat:Int)) p.data.toList):=⟨_,rfl⟩;rw [<-cN] at aT aH ⊢;clear cN;go_wp2_with fail
 have dO:=fun wx=>QTH (P:=Tryz.prog) (t:=86) Tryz.underlying86 (fun _=>by kernel_rfl) (w.heap.size+1+1) 0 n (by omega) (by omega) .i64 (n:Int) rfl wx
 obtain ⟨bt,HB⟩:∃ bt,Hid (bt=strOfNums ((aU.drop n).take M)):=⟨_,vvj rfl⟩;have cZ:bt.size=M:=by rw [HB.out,strOfNums_size,List.length_take,List.length_drop,aA];have:=HM.out;omega
 have hF:w.heap.size+1+1<wf.drew.heap.size:=by have:=aH.size;show _<wf.heap.size;omega
 have aY:∀ (wx:World) (xs:List Int),xs.length=64->(xs.drop n).take M=(aU.drop n).take M->Fm wx (w.heap.size+1+1) xs->PI w wx (.int .i64 k) (.int .i64 l) (.int .i64 m) (.string p) ->
   (convert 22 9 (.slice (some ⟨w.heap.size+1+1,n,none⟩) M M)).run Tryz.prog wx=.ok (.string bt) wx/\wx.there (w.heap.size+1+1) 0 64/\PI w wx (.int .i64 k) (.int .i64 l) (.int .i64 m) (.string p):=fun wx xs hx hd hf hp=>by
  refine ⟨?_,fun j hj=>⟨?_,?_⟩,hp⟩
  ·rw [hf.text 22 5 9 Tryz.underlying22 Tryz.underlying5 Tryz.underlying9 n M M (by have:=HM.out;omega),hd,HB.out]
  ·exact hf.isSome 0 64 (by omega) j hj
  ·exact hf.frozen 0 64 (by omega) j hj
 have HT:=vvj aY;have aG:=vvj aT;have aS:=vvj aH;clear aY aT aH;have aF:(xXU bt n).size=n:=j6x _ _
 go_region_held3 (fun w'=>(convert 22 9 (.slice (some ⟨w.heap.size+1+1,n,none⟩) M M)).run Tryz.prog w'=.ok (.string bt) w'/\w'.there (w.heap.size+1+1) 0 64/\PI w w' (.int .i64 k) (.int .i64 l) (.int .i64 m) (.string p))
  (first | assumption | exact HT.out _ aU aA rfl aG.out.drew aS.out.drew | exact HT.out _ aU aA rfl (aG.out.drew.below aB hF) (aS.out.drew.below aB) | exact HT.out _ _ (by rw [yi3 _ _ _ (by rw [vgz,aF];omega)];exact aA) (by rw [vJk _ _ n (by rw [vgz,aF])]) ((aG.out.drew.below aB hF).wrote ((aG.out.drew.below aB hF).copied 0 (xXU bt n) (by rw [aF];omega)) (by rw [vgz,aF];omega)) (PI.wrote (aS.out.drew.below aB) ((aG.out.drew.below aB hF).copied 0 (xXU bt n) (by rw [aF];omega))))
  (first | (go_at_call 56;refine (yEK bt _ n (by rw [cZ];omega) (by omega) (by omega)).mono ?_;rintro e wg ⟨rfl,aB⟩) | (refine step_copy_string (by rfl) _ _ _ _ (by rfl) 5 Tryz.underlying22 (fun _=>by kernel_rfl) (w.heap.size+1+1) 0 n 64 (by rfl) (xXU bt n) (by rfl) (by rw [aF];omega) (fun j hj=>((HT.out _ aU aA rfl (aG.out.drew.below aB hF) (aS.out.drew.below aB)).2.1 j (by rw [aF] at hj;omega)).1) (fun j hj=>((HT.out _ aU aA rfl (aG.out.drew.below aB hF) (aS.out.drew.below aB)).2.1 j (by rw [aF] at hj;omega)).2) ?_))
 have bV:=(aG.out.drew.below aB hF).copied 0 (xXU bt n) (by rw [aF];omega);have aO:=PI.wrote (aS.out.drew.below aB) bV;obtain ⟨aR,cU,aN,bG⟩:=(aG.out.drew.below aB hF).step aA bV (by rw [vgz,aF];omega)
 have HR:Hid (aR=zFD (XQs k l m p n)):=by
  have h5:=JHq k l m p n (by omega) bY.out cQ.out cT.out cS.out cV.out cY.out;show aR=_;rw [cU.out,(Qy7 k l m p n (by omega) HM.out h5 HB.out).2]
 clear bV aG aS HT aB hF;obtain ⟨wh,b7⟩:∃ wh,wh=wg.setCells (w.heap.size+1+1) 0 (List.map (fun x=>Value.int IntKind.u8 (x.toNat:Int)) (xXU bt n).data.toList):=⟨_,rfl⟩;rw [<-b7] at bG aO ⊢;clear b7;have aX:(aR.map (Value.int .u8)).toArray.size=64:=by simp [aN]
 go_wp2_with (first
  | (refine wpList_load_mid rfl 86 _ rfl (w.heap.size+1+1) 0 rfl (aR.map (Value.int .u8)) _ bG.range Tryz.underlying86 rfl (by rw [List.length_map,aN];kernel_rfl) ?_)
  | (refine wpList_store_mid rfl 86 _ _ rfl (w.heap.size+1) 0 (aR.map (Value.int .u8)).toArray rfl rfl (by rw [aX];exact aO.there) (by rw [aX];kernel_rfl) (all_oneCell_toArray (xgE aR)) ?_))
 refine bodyPost_ret (v:=.agg (aR.map (Value.int .u8)).toArray) (zOi (p:=4) Tryz.results38 _ _ (w.heap.size+1) 0 rfl (aR.map (Value.int .u8)) _ (World.rangeAt_setCells_same _ _ _ _ (by rw [List.length_map,aN];exact aO.there)) Tryz.underlying86 rfl (by rw [List.length_map,aN];kernel_rfl)) rfl ⟨by rw [HR.out],?_⟩;exact below_setCells (by omega) _ _ _ aO.bel
def ZQp (k l m:Int) (p:ByteArray) (n:Int):ByteArray:=if Xhw k l m p n=true then XQs k l m p n.toNat else ByteArray.empty
theorem x4N (k l m:Int) (p:ByteArray) (n:Int) (w:World) (hp:p.size<=1048576) :
  Calls Tryz.prog 20 #[QAw k l m p,.int .i64 n] w fun e w'=>e=.returned (.string (ZQp k l m p n))/\Below w.heap.size w w':=by
 unfold ZQp
 cases h:Xhw k l m p n with
 | true =>
  have hd:=of_decide_eq_true (by unfold Xhw at h;exact h);have hn:1<=n:=hd.1;obtain ⟨j,rfl⟩:∃ j:Nat,n=(j:Int):=⟨n.toNat,by omega⟩;rw [if_pos rfl,Int.toNat_natCast];exact qMP k l m p j w h
 | false=>rw [if_neg (by simp)];exact jAi k l m p n w hp h
end Go.Proofs.YtcdojnnkjeakmaaGreatDoor
