import Derived.Deep.RegionLaw
import Derived.Test.YtehbpeinnepdcaaGreatDoorPrG36
import Derived.Deep.MidRow
import Derived.Lib.LazyBuf
set_option maxHeartbeats 16000000
set_option maxRecDepth 8000
set_option linter.unusedVariables false
set_option linter.unusedSimpArgs false
namespace Go.Proofs.YtehbpeinnepdcaaGreatDoor
open Go.RowKit
theorem ZXN:(Tryz.prog.info? 9).map (fun i=>(i.zero,i.size,i.bytes))=some (some (.string ByteArray.empty),1,16):=by kernel_rfl
theorem JN8 (n m:Nat) (w:World) (h:n+m=56) (h1:1<=n) (h2:n<=8):Calls Tryz.prog 21 #[.int .i64 (n:Int)] w fun e w'=>e=.returned (.int .i64 (m:Int))/\w'=w:=by
 have hm:(64-(n:Int)-8)=(m:Int):=by omega
 go_enter Tryz.func21,Tryz.ntmps21;go_wp2;go_ret
 exact ⟨by first | rfl | exact congrArg _ (congrArg _ hm),rfl⟩
theorem Qpc {W w w1:World} {e:TypeId} {size:Nat} {v:Value} {n B:Nat} {xs:List Value} (hb:Below B W w) (own:w.ownsRow B e size v n xs) (hg:w.grownBy w1 v.ownBlock) (hB:B<=w.heap.size):Below B W w1 :=
 hb.trans ⟨hg.os,hg.tape,hg.output,hg.size,fun k hk=>hg.block k (by omega) (fun he=>by have:=(own.lt k he.symm).1;omega)⟩
theorem kWU {w:World} {B:Nat} (h:B<=w.heap.size) (o:Obj):B<=(w.alloc o).heap.size:=by simp;omega
def Qna (s:ByteArray) (m k:Nat):List ByteArray:=(List.range k).map fun i=>s.extract (i*m) (i*m+m)
theorem yWs (s:ByteArray) (m k:Nat):Qna s m (k+1)=Qna s m k++[s.extract (k*m) (k*m+m)]:=by simp [Qna,List.range_succ]
def QgM (l m:Nat):Nat:=if l=0 then 1 else (l-1) / m+1
theorem kIE (s:ByteArray) {a b c:Nat} (h:min (b-a) (s.size-a)=min (c-a) (s.size-a)):s.extract a b=s.extract a c:=by
 apply ByteArray.ext
 simp only [ByteArray.data_extract];exact Array.extract_eq_extract_right.2 h
theorem vWC (s r:ByteArray) (a m:Nat) (h:r=s.extract a s.size):r.extract m r.size=s.extract (a+m) s.size:=by
 subst h;rw [ByteArray.extract_extract]
 apply kIE
 simp only [ByteArray.size_extract];omega
theorem jRK (s r:ByteArray) (a m:Nat) (h:r=s.extract a s.size):r.extract 0 m=s.extract a (a+m):=by
 subst h;rw [ByteArray.extract_extract,Nat.add_zero]
 apply kIE
 omega
theorem j4J (s r:ByteArray) (a m:Nat) (h:r=s.extract a s.size) (hm:r.size<=m):r=s.extract a (a+m):=by
 subst h;simp only [ByteArray.size_extract] at hm
 apply kIE
 omega
theorem vyl (l m k r:Nat) (hm:0<m) (hr:k*m+r=l) (h0:k=0\/0<r) (h1:r<=m):QgM l m=k+1:=by
 unfold QgM
 by_cases hl:l=0
 ·rw [if_pos hl]
  rcases h0 with h0 | h0
  ·omega
  ·omega
 ·rw [if_neg hl]
  have:(l-1) / m=k:=by
   rw [Nat.div_eq_iff hm];rcases h0 with h0 | h0
   ·subst h0;omega
   ·omega
  omega
theorem q4g (s:ByteArray) (n m:Nat) (w:World) (hs:s.size<=1048576) (h:n+m=56) (h1:1<=n) (h2:n<=8) :
  Calls Tryz.prog 91 #[.string s,.int .i64 (n:Int)] w fun e w'=>∃ g c,e=.returned (.slice (some ⟨g,0,none⟩) (QgM s.size m) c)/\w.heap.size<=g/\Row w' g ((Qna s m (QgM s.size m)).map Value.string)/\Below w.heap.size w w':=by
 obtain ⟨i0,aJ,aK,aL,aM⟩:=info_parts ZXN;have HI:=hid (And.intro aJ (And.intro aK (And.intro aL aM)));clear aJ aK aL aM;go_enter Tryz.func91,Tryz.ntmps91;go_wp2_with (go_at_call 21;refine (JN8 n m _ h h1 h2).mono ?_;rintro e w' ⟨rfl,rfl⟩);go_loopw [0,5] (fun x y wr=>∃ (k:Nat) (r:ByteArray),x=.string r/\Hid (r=s.extract (k*m) s.size)/\k*m+r.size=s.size/\Hid (k=0\/0<r.size)/\wr.ownsRow w.heap.size 9 1 y k ((Qna s m k).map Value.string)/\Below w.heap.size w wr) (fun x _ _=>match x with | .string r=>r.size | _=>0)
 case atStart=>exact ⟨0,s,rfl,by show s=_;simp,by simp,.inl rfl,World.ownsRow_lit _ #[] 0 (Nat.le_refl _) (by simp) (by simp),(Below.refl _ _).alloc (Nat.le_refl _) _⟩
 case round =>
  obtain ⟨k,r,rfl,HR,hr,H0,aD,aC⟩:=hrel
  by_cases aP:m<r.size
  ·have aO:(m:Int)<(r.size:Int):=by omega
   have aN:k<=1048576:=by have:k*1<=k*m:=Nat.mul_le_mul_left k (by omega);omega
   have aE:w.heap.size<=wr.heap.size:=aC.size;have HB:=hid aC;have HO:=hid (aD.alloc (.cells #[.string (r.extract 0 m)] 9));clear aC aD;go_wp2_with (at_builtin;refine WAL _ rfl _ _ 23 rfl w.heap.size Tryz.underlying23 HI.out rfl (by omega) _ k _ rfl HO.out ⟨wr.heap.size,0,none⟩ 1 1 [.string (r.extract 0 m)] rfl rfl (World.news_of_block (heap_alloc_new wr _)) (by intro u hu;simp at hu;subst hu;rfl) (kWU aE _) (wr.heap.size+1) (by simp) ?_;intro g cap w3 aB aA aH aI;have aF:=hid aB;have aG:=hid (Qpc (HB.out.alloc aE _) HO.out aA (kWU aE _));clear aB aA aH);refine ⟨⟨k+1,r.extract m r.size,rfl,?_,?_,?_,?_,aG.out⟩,?_⟩
   ·show _=_
    rw [vWC s r _ m HR.out,Nat.add_mul,Nat.one_mul]
   ·rw [Nat.add_mul,Nat.one_mul];simp only [ByteArray.size_extract];omega
   ·exact .inr (by simp only [ByteArray.size_extract];omega)
   ·have e:=aF.out
    rw [jRK s r _ m HR.out] at e;rw [yWs,List.map_append];exact e
   ·simp only [ByteArray.size_extract];omega
  ·have aN:k<=1048576:=by have:k*1<=k*m:=Nat.mul_le_mul_left k (by omega);omega
   have aE:w.heap.size<=wr.heap.size:=aC.size;have HB:=hid aC;have HN:=hid (vyl s.size m k r.size (by omega) hr H0.out (by omega));have HO:=hid (aD.alloc (.cells #[.string r] 9));clear aC aD H0;go_wp2_with (at_builtin;refine WAL _ rfl _ _ 23 rfl w.heap.size Tryz.underlying23 HI.out rfl (by omega) _ k _ rfl HO.out ⟨wr.heap.size,0,none⟩ 1 1 [.string r] rfl rfl (World.news_of_block (heap_alloc_new wr _)) (by intro u hu;simp at hu;subst hu;rfl) (kWU aE _) (wr.heap.size+1) (by simp) ?_;intro g cap w3 aB aA aH aI;have aF:=hid aB;have aG:=hid (Qpc (HB.out.alloc aE _) HO.out aA (kWU aE _));clear aB aA aH);go_ret;refine ⟨g,cap,by rw [HN.out];rfl,(aF.out.lt g rfl).1,?_,aG.out⟩;have e:=kX5 aF.out;rw [HN.out,yWs,List.map_append];rw [j4J s r _ m HR.out (by omega)] at e;exact e
theorem X3C (n:Int) (w:World):Calls Tryz.prog 15 #[.int .i64 n] w fun e w'=>e=.returned (.bool (decide (1<=n/\n<=8)))/\w'=w:=by
 by_cases h1:1<=n
 ·by_cases h2:n<=8
  ·go_enter Tryz.func15,Tryz.ntmps15
   go_wp2;go_ret;exact ⟨by simp [h1,h2],rfl⟩
  ·go_enter Tryz.func15,Tryz.ntmps15
   go_wp2;go_ret;exact ⟨by simp [h2],rfl⟩
 ·go_enter Tryz.func15,Tryz.ntmps15
  go_wp2;go_ret;exact ⟨by simp;omega,rfl⟩
theorem jnI (n:Int) (w:World):Calls Tryz.prog 27 #[.int .i64 n] w fun e w'=>e=.returned (.bool (decide (1<=n/\n<=8)))/\w'=w:=by
 by_cases h1:1<=n
 ·by_cases h2:n<=8
  ·go_enter Tryz.func27,Tryz.ntmps27
   go_wp2;go_ret;exact ⟨by simp [h1,h2],rfl⟩
  ·go_enter Tryz.func27,Tryz.ntmps27
   go_wp2;go_ret;exact ⟨by simp [h2],rfl⟩
 ·go_enter Tryz.func27,Tryz.ntmps27
  go_wp2;go_ret;exact ⟨by simp;omega,rfl⟩
def JFN (l:Nat) (n:Int):Int:=if 1<=n/\n<=8 then (QgM l (56-n).toNat:Int) else 0
theorem z7U (n m:Nat) (w:World) (h:n+m=56) (h1:1<=n) (h2:n<=8):Calls Tryz.prog 58 #[.int .i64 (n:Int)] w fun e w'=>e=.returned (.int .i64 (m:Int))/\w'=w:=by
 have hm:(64-(n:Int)-8)=(m:Int):=by omega
 go_enter Tryz.func58,Tryz.ntmps58;go_wp2;go_ret
 exact ⟨by first | rfl | exact congrArg _ (congrArg _ hm),rfl⟩
theorem qLo (s:ByteArray) (n:Int) (w:World) (hs:s.size<=1048576) :
  Calls Tryz.prog 111 #[.string s,.int .i64 n] w fun e w'=>e=.returned (.int .i64 (JFN s.size n))/\Below w.heap.size w w':=by
 obtain ⟨R,HR⟩:∃ R,Hid (R=JFN s.size n):=⟨_,hid rfl⟩;rw [<-HR.out]
 by_cases hn:1<=n/\n<=8
 ·obtain ⟨m,rfl⟩:∃ m:Nat,n=(m:Int):=⟨n.toNat,by omega⟩
  obtain ⟨q,hq⟩:∃ q:Nat,m+q=56:=⟨56-m,by omega⟩;have hd:decide (1<=(m:Int)/\(m:Int)<=8)=true:=by simp;omega
  by_cases hz:s.size=0
  ·have aB:s=ByteArray.empty:=by apply ByteArray.ext;exact Array.eq_empty_of_size_eq_zero hz
   subst aB;have hR:R=1:=by rw [HR.out];unfold JFN QgM;rw [if_pos hn];simp
   clear HR;subst hR;go_enter Tryz.func111,Tryz.ntmps111
   go_wp2_with (first | (go_at_call 27;refine (jnI _ _).mono ?_;rw [hd];rintro e w' ⟨rfl,rfl⟩))
   go_ret;exact ⟨rfl,Below.refl _ _⟩
  ·obtain ⟨l,hl⟩:∃ l:Nat,s.size=l+1:=⟨s.size-1,by omega⟩
   have hR:R=((l / q:Nat):Int)+1:=by
    rw [HR.out];unfold JFN QgM;rw [if_pos hn,if_neg hz,show (56-(m:Int)).toNat=q by omega,hl];simp
   obtain ⟨d,aA⟩:∃ d:Nat,d=l / q:=⟨_,rfl⟩;have aD:d<=l:=by rw [aA];exact Nat.div_le_self _ _
   have aE:(l:Int) / (q:Int)=(d:Int):=by rw [aA];simp
   rw [<-aA] at hR;clear HR aA;subst hR;have aC:s.toList.isEmpty=false:=by rw [vOw];simp [hz]
   go_enter Tryz.func111,Tryz.ntmps111
   go_wp2_with (first | (go_at_call 27;refine (jnI _ _).mono ?_;rw [hd];rintro e w' ⟨rfl,rfl⟩) | (go_at_call 58;refine (z7U m q _ hq (by omega) (by omega)).mono ?_;rintro e w' ⟨rfl,rfl⟩))
   go_ret;exact ⟨rfl,Below.refl _ _⟩
 ·have hR:R=0:=by rw [HR.out];unfold JFN;exact if_neg hn
  clear HR;subst hR;have hd:decide (1<=n/\n<=8)=false:=by simp;omega
  go_enter Tryz.func111,Tryz.ntmps111
  go_wp2_with (first | (go_at_call 27;refine (jnI _ _).mono ?_;rw [hd];rintro e w' ⟨rfl,rfl⟩))
  go_ret;exact ⟨rfl,Below.refl _ _⟩
theorem J0I (s:ByteArray) (n:Int) (w:World) (hs:s.size<=1048576) :
  Calls Tryz.prog 66 #[.string s,.int .i64 n] w fun e w'=>e=.returned (.int .i64 (JFN s.size n))/\Below w.heap.size w w':=by
 unfold JFN
 by_cases hn:1<=n/\n<=8
 ·rw [if_pos hn]
  obtain ⟨m,rfl⟩:∃ m:Nat,n=(m:Int):=⟨n.toNat,by omega⟩;obtain ⟨q,hq⟩:∃ q:Nat,m+q=56:=⟨56-m,by omega⟩;rw [show (56-(m:Int)).toNat=q by omega];have hd:decide (1<=(m:Int)/\(m:Int)<=8)=true:=by simp;omega
  go_enter Tryz.func66,Tryz.ntmps66
  go_wp2_with (first | (go_at_call 15;refine (X3C _ _).mono ?_;rw [hd];rintro e w' ⟨rfl,rfl⟩) | (go_at_call 91;refine (q4g s m q _ hs hq (by omega) (by omega)).mono ?_;rintro e w2 ⟨g,c,rfl,hg,aA,hb⟩;clear aA))
  go_ret;exact ⟨rfl,hb⟩
 ·rw [if_neg hn]
  have hd:decide (1<=n/\n<=8)=false:=by simp;omega
  go_enter Tryz.func66,Tryz.ntmps66
  go_wp2_with (first | (go_at_call 15;refine (X3C _ _).mono ?_;rw [hd];rintro e w' ⟨rfl,rfl⟩))
  go_ret;exact ⟨rfl,Below.refl _ _⟩
section
def spl (xs:List Int) (o:Nat) (ys:List Int):List Int:=xs.take o++ys++xs.drop (o+ys.length)
theorem yi3 (xs:List Int) (o:Nat) (ys:List Int) (h:o+ys.length<=xs.length):(spl xs o ys).length=xs.length:=by
 simp [spl];omega
theorem yZk (xs:List Int) (o:Nat) (ys:List Int) (h:o+ys.length<=xs.length) (i:Nat) (hi:i<ys.length):(spl xs o ys).getD (o+i) 0=ys.getD i 0:=by
 have ho:(xs.take o).length=o:=by simp;omega
 unfold spl;rw [List.getD_eq_getElem?_getD,List.append_assoc,List.getElem?_append_right (by omega),ho,show o+i-o=i by omega,List.getElem?_append_left hi,List.getD_eq_getElem?_getD]
theorem zFW (xs:List Int) (o:Nat) (ys:List Int) (h:o+ys.length<=xs.length) (i:Nat) (hi:i<o\/o+ys.length<=i):(spl xs o ys).getD i 0=xs.getD i 0:=by
 have ho:(xs.take o).length=o:=by simp;omega
 unfold spl;rcases hi with hi | hi
 ·rw [List.getD_eq_getElem?_getD,List.append_assoc,List.getElem?_append_left (by omega),List.getElem?_take_of_lt hi,List.getD_eq_getElem?_getD]
 ·rw [List.getD_eq_getElem?_getD,List.getElem?_append_right (by simp;omega),List.length_append,ho,List.getElem?_drop,show o+ys.length+(i-(o+ys.length))=i by omega,List.getD_eq_getElem?_getD]
structure Fm (w:World) (F:Nat) (xs:List Int):Prop where
 cell:∀ i,i<xs.length->w.cell? ⟨F,i,none⟩=some (.int .u8 (xs.getD i 0))
 froz:∀ i,i<xs.length->w.frozen? ⟨F,i,none⟩=false
theorem Fm.drew {w:World} {F:Nat} {xs:List Int} (h:Fm w F xs):Fm w.drew F xs:=⟨h.cell,h.froz⟩
theorem Fm.wrote {w w':World} {F o:Nat} {xs ys:List Int} (h:Fm w F xs) (hw:Wrote w w' F o ys) (hl:o+ys.length<=xs.length):Fm w' F (spl xs o ys):=by
 have aB:=yi3 xs o ys hl;refine ⟨fun i hi=>?_,fun i hi=>(hw.frozen _).trans (h.froz i (by omega))⟩
 by_cases aA:o<=i/\i<o+ys.length
 ·have:=hw.inside (i-o) (by omega)
  rw [show o+(i-o)=i by omega] at this;rw [this];have e:=yZk xs o ys hl (i-o) (by omega);rw [show o+(i-o)=i by omega] at e;rw [e]
 ·rw [hw.outside i (by omega),h.cell i (by omega),zFW xs o ys hl i (by omega)]
theorem Fm.below {w w':World} {F:Nat} {xs:List Int} (h:Fm w F xs) (hb:Below w.heap.size w w') (hF:F<w.heap.size):Fm w' F xs :=
 ⟨fun i hi=>(hb.cell (p:=⟨F,i,none⟩) hF).trans (h.cell i hi),fun i hi=>(hb.frozen (p:=⟨F,i,none⟩) hF).trans (h.froz i hi)⟩
theorem QUl (b:Nat):∀ (vs:List Value) (o:Nat) (w:World),(w.setCells b o vs).heap.size=w.heap.size
 | [],_,_=>rfl
 | v::r,o,w=>by rw [World.setCells,QUl b r];simp [World.setCell]
theorem zWW (b:Nat):∀ (vs:List Value) (o:Nat) (w:World) (k:Nat),k≠b->(w.setCells b o vs).heap[k]?=w.heap[k]?
 | [],_,_,_,_=>rfl
 | v::r,o,w,k,h=>by rw [World.setCells,zWW b r _ _ _ h,Below.heap_setCell _ _ _ _ h]
theorem zyN (b:Nat):∀ (vs:List Value) (o:Nat) (w:World),(w.setCells b o vs).os=w.os/\(w.setCells b o vs).tape=w.tape/\(w.setCells b o vs).output=w.output
 | [],_,_=>⟨rfl,rfl,rfl⟩
 | v::r,o,w=>by rw [World.setCells];exact zyN b r (o+1) _
theorem qDt (w:World) (b o:Nat) (t:ByteArray) (hc:∀ j,j<t.size->(w.cell? ⟨b,o+j,none⟩).isSome=true) :
  Wrote w (w.setCells b o (t.data.toList.map fun x=>Value.int .u8 (x.toNat:Int))) b o (zFD t):=by
 have hl:(t.data.toList.map fun x=>Value.int .u8 (x.toNat:Int)).length=t.size:=by simp
 obtain ⟨h1,h2,h3⟩:=zyN b (t.data.toList.map fun x=>Value.int .u8 (x.toNat:Int)) o w;refine ⟨h1,h2,h3,QUl _ _ _ _,fun k hk=>zWW _ _ _ _ _ hk,fun i hi=>?_,fun x hx=>?_,fun a=>World.frozen?_setCells _ _ _ _ _⟩
 ·rw [vgz] at hi
  rw [World.cell?_setCells_in b _ o w (by rw [hl];exact hc) i (by rw [hl];exact hi)];have hd:i<t.data.toList.length:=by simpa using hi
  simp [zFD,List.getD,List.getElem?_eq_getElem hd]
 ·rw [vgz] at hx
  exact World.cell?_setCells_out b _ o w ⟨b,x,none⟩ (fun _ _=>by rw [hl];simpa using hx)
theorem Fm.text {P:Program} {w:World} {F:Nat} {xs:List Int} (h:Fm w F xs) (aB e aA:TypeId) (hs:P.underlying aB=some (.slice e)) (he:P.underlying e=some (.int .u8)) (hd:P.underlying aA=some .string) (o n cap:Nat) (hl:o+n<=xs.length) :
  (convert aB aA (.slice (some ⟨F,o,none⟩) n cap)).run P w=.ok (.string (strOfNums ((xs.drop o).take n))) w :=
 run_convert_bytes_arg (P:=P) w aB e hs he F o n cap ((xs.drop o).take n) (by simp;omega) (fun i hi=>by
  rw [h.cell (o+i) (by omega)]
  simp [List.getD,List.getElem?_take_of_lt hi,List.getElem?_drop]) aA hd
theorem Fm.step {w w':World} {F o:Nat} {xs ys:List Int} (h:Fm w F xs) (hx:xs.length=64) (hw:Wrote w w' F o ys) (hl:o+ys.length<=64) :
  ∃ aA,Hid (aA=spl xs o ys)/\aA.length=64/\Fm w' F aA :=
 ⟨spl xs o ys,(rfl:spl xs o ys=spl xs o ys),by rw [yi3 _ _ _ (by omega),hx],h.wrote hw (by omega)⟩
theorem Fm.range {w:World} {F:Nat} {xs:List Int} (h:Fm w F xs):w.rangeAt F 0 (xs.map (Value.int .u8)):=fun j v hv=>by
 obtain ⟨hj,e⟩:=List.getElem?_eq_some_iff.1 hv;simp at hj;rw [Nat.zero_add,h.cell j hj];simp at e;subst e;simp [List.getD,List.getElem?_eq_getElem hj]
structure PI (W w:World) (c0 c1 c2 c3:Value):Prop where
 size:W.heap.size+3<=w.heap.size
 bel:Below W.heap.size W w
 b0:w.cell? ⟨W.heap.size,0,none⟩=some c0
 b1:w.cell? ⟨W.heap.size,1,none⟩=some c1
 b2:w.cell? ⟨W.heap.size,2,none⟩=some c2
 b3:w.cell? ⟨W.heap.size,3,none⟩=some c3
 there:w.there (W.heap.size+1) 0 64
section
variable {W w w':World} {c0 c1 c2 c3:Value}
theorem PI.drew (h:PI W w c0 c1 c2 c3):PI W w.drew c0 c1 c2 c3:=⟨h.size,h.bel.drew,h.b0,h.b1,h.b2,h.b3,h.there⟩
theorem PI.below (h:PI W w c0 c1 c2 c3) (hb:Below w.heap.size w w'):PI W w' c0 c1 c2 c3 :=
 have hs:=h.size
 ⟨Nat.le_trans hs hb.size,h.bel.trans (hb.mono (by omega)),(hb.cell (p:=⟨_,0,none⟩) (by show W.heap.size<_;omega)).trans h.b0,(hb.cell (p:=⟨_,1,none⟩) (by show W.heap.size<_;omega)).trans h.b1,
  (hb.cell (p:=⟨_,2,none⟩) (by show W.heap.size<_;omega)).trans h.b2,(hb.cell (p:=⟨_,3,none⟩) (by show W.heap.size<_;omega)).trans h.b3,
  fun j hj=>by rw [hb.cell (p:=⟨_,_,none⟩) (by show W.heap.size+1<_;omega),hb.frozen (p:=⟨_,_,none⟩) (by show W.heap.size+1<_;omega)];exact h.there j hj⟩
theorem PI.wrote {o:Nat} {ys:List Int} (h:PI W w c0 c1 c2 c3) (hw:Wrote w w' (W.heap.size+1+1) o ys):PI W w' c0 c1 c2 c3 :=
 have hs:=h.size;have hb:Below (W.heap.size+1+1) w w':=hw.below (Nat.le_refl _)
 ⟨Nat.le_trans hs hb.size,h.bel.trans (hb.mono (by omega)),(hb.cell (p:=⟨_,0,none⟩) (by show W.heap.size<_;omega)).trans h.b0,(hb.cell (p:=⟨_,1,none⟩) (by show W.heap.size<_;omega)).trans h.b1,
  (hb.cell (p:=⟨_,2,none⟩) (by show W.heap.size<_;omega)).trans h.b2,(hb.cell (p:=⟨_,3,none⟩) (by show W.heap.size<_;omega)).trans h.b3,
  fun j hj=>by rw [hb.cell (p:=⟨_,_,none⟩) (by show W.heap.size+1<_;omega),hb.frozen (p:=⟨_,_,none⟩) (by show W.heap.size+1<_;omega)];exact h.there j hj⟩
theorem PI.toS (h:PI W w c0 c1 c2 c3):w.cell? ⟨W.heap.size,0,none⟩=some c0/\w.cell? ⟨W.heap.size,1,none⟩=some c1/\w.cell? ⟨W.heap.size,2,none⟩=some c2/\w.cell? ⟨W.heap.size,3,none⟩=some c3/\PI W w c0 c1 c2 c3:=⟨h.b0,h.b1,h.b2,h.b3,h⟩
theorem PI.ofS (h:w.cell? ⟨W.heap.size,0,none⟩=some c0/\w.cell? ⟨W.heap.size,1,none⟩=some c1/\w.cell? ⟨W.heap.size,2,none⟩=some c2/\w.cell? ⟨W.heap.size,3,none⟩=some c3/\PI W w c0 c1 c2 c3):PI W w c0 c1 c2 c3:=h.2.2.2.2
end
theorem jWQ (w:World) (b o:Nat) (h:w.heap.size<=b):w.frozen? ⟨b,o,none⟩=false:=by
 have e:w.heap[b]?=none:=by simp [h]
 simp [World.frozen?,e]
theorem qxr {P:Program} {c:Code} {Q:Exit->Act->World->Prop} {a:Act} (w:World) (c0 c1 c2 c3:Value) (t1 t2 t3:TypeId) (A B:Array Value) (hA:A=Array.replicate 64 (.int .u8 0)) (hB:B=Array.replicate 64 (.int .u8 0))
  (h:∀ wa,PI w wa c0 c1 c2 c3->Fm wa (w.heap.size+1+1) (List.replicate 64 0)->c.wp P Q a wa) :
  c.wp P Q a (((w.alloc (.cells #[c0,c1,c2,c3] t1)).alloc (.cells A t2)).alloc (.cells B t3)):=by
 subst hA hB
 have aA:∀ (i:Nat) {v:Value},#[c0,c1,c2,c3][i]?=some v->(((w.alloc (.cells #[c0,c1,c2,c3] t1)).alloc (.cells (Array.replicate 64 (.int .u8 0)) t2)).alloc (.cells (Array.replicate 64 (.int .u8 0)) t3)).cell? ⟨w.heap.size,i,none⟩=some v:=fun i v hv=>by
  rw [World.cell?_alloc_past _ _ _ (by simp;omega),World.cell?_alloc_past _ _ _ (by simp),World.cell?_alloc_at _ _ _ _ rfl];exact hv
 refine h _ ⟨by simp,(((Below.refl _ _).alloc (Nat.le_refl _) _).alloc (by simp) _).alloc (by simp;omega) _,aA _ rfl,aA _ rfl,aA _ rfl,aA _ rfl,fun j hj=>?_⟩ ⟨fun i hi=>?_,fun i hi=>?_⟩
 ·rw [Nat.zero_add,World.cell?_alloc_past _ _ _ (by simp),World.cell?_alloc_at _ _ _ _ (by simp),frozen?_alloc_cells,frozen?_alloc_cells,frozen?_alloc_cells]
  simp [hj,jWQ]
 ·rw [World.cell?_alloc_at _ _ _ _ (by simp)]
  have aB:i<64:=by simpa only [List.length_replicate] using hi
  rw [Array.getElem?_replicate,if_pos aB,List.getD_eq_getElem?_getD,List.getElem?_replicate,if_pos aB];rfl
 ·rw [frozen?_alloc_cells,frozen?_alloc_cells,frozen?_alloc_cells]
  exact jWQ _ _ _ (by omega)
theorem zOi {P:Program} {fn:Func} {p:Tmp} {ty:TypeId} (h:fn.results=#[.cell p ty]) (tmps:Array Value) (w:World) (b o:Nat) (hp:tmps.getD p undef=.pointer (some ⟨b,o,none⟩))
  (cs:List Value) (d:TypeDesc) (hc:w.rangeAt b o cs) (hu:P.underlying ty=some d) (hd:d.isRow=true) (hi:(P.info? ty).map (·.size)=some cs.length):(results fn tmps).run P w=.ok (.agg cs.toArray) w:=by
 have hl:=run_loadVar_mid (P:=P) w b o ty cs d hc hu hd hi;simp only [results,h];rw [Array.getD_eq_getD_getElem?] at hp;simp [hp,asAddr,hl]
theorem xgE (xs:List Int):∀ v∈xs.map (Value.int .u8),v.oneCell'=true:=fun v hv=>by
 obtain ⟨x,_,rfl⟩:=List.mem_map.1 hv;rfl
theorem vJk (xs ys:List Int) (n:Nat) (hn:ys.length=n):(spl xs 0 ys).drop n=xs.drop n:=by
 unfold spl;rw [List.take_zero,List.nil_append,Nat.zero_add,<-hn,List.drop_left]
theorem Fm.isSome {w:World} {F:Nat} {xs:List Int} (h:Fm w F xs) (o m:Nat) (hl:o+m<=xs.length):∀ j,j<m->(w.cell? ⟨F,o+j,none⟩).isSome=true:=fun j hj=>by
 rw [h.cell (o+j) (by omega)];rfl
theorem Fm.frozen {w:World} {F:Nat} {xs:List Int} (h:Fm w F xs) (o m:Nat) (hl:o+m<=xs.length):∀ j,j<m->w.frozen? ⟨F,o+j,none⟩=false:=fun j hj=>h.froz (o+j) (by omega)
theorem Fm.copied {w:World} {F:Nat} {xs:List Int} (h:Fm w F xs) (o:Nat) (t:ByteArray) (hl:o+t.size<=xs.length):Wrote w (w.setCells F o (t.data.toList.map fun x=>Value.int .u8 (x.toNat:Int))) F o (zFD t) :=
 qDt w F o t (h.isSome o t.size hl)
theorem yZK (A ys:List Int) (j o:Nat) (ho:A.length=o):spl (A++List.replicate j 0) o ys=A++ys++List.replicate (j-ys.length) 0:=by
 unfold spl;rw [List.take_append_of_le_length (by omega),List.take_of_length_le (by omega),<-ho,List.drop_length_add_append,List.drop_replicate]
theorem JHq (k l m:Int) (p:ByteArray) (n:Nat) (h:n<=64) {aA aB aC aD aE aF:List Int} (h0:aA=List.replicate 64 0) (h1:aB=spl aA n (be 1 k)) (h2:aC=spl aB (n+1) (be 2 l)) (h3:aD=spl aC (n+3) (be 4 m))
  (h4:aE=spl aD (n+7) (be 1 (p.size:Int))) (h5:aF=spl aE (n+8) (zFD p)):aF=List.replicate n 0++Zah k l m p n:=by
 have e0:aA=List.replicate n 0++List.replicate (64-n) 0:=by rw [h0,List.replicate_append_replicate];congr 1;omega
 rw [e0,yZK _ _ _ n (by simp)] at h1;rw [h1,yZK _ _ _ (n+1) (by simp [XHU])] at h2;rw [h2,yZK _ _ _ (n+3) (by simp [XHU])] at h3;rw [h3,yZK _ _ _ (n+7) (by simp [XHU])] at h4;rw [h4] at h5;rw [h5,yZK _ _ _ (n+8) (by simp [XHU])];unfold Zah QKX;simp only [List.append_assoc,XHU,vgz]
 congr 7
 omega
theorem Q5X (a b:ByteArray):zFD (a++b)=zFD a++zFD b:=by simp [zFD]
theorem XYX (xs:List Int) (h:∀ x∈xs,0<=x/\x<256):zFD (strOfNums xs)=xs:=by
 unfold zFD;rw [strOfNums_data,List.map_map]
 conv=>rhs;rw [<-List.map_id xs]
 apply List.map_congr_left
 intro x hx;have:=h x hx;simp only [Function.comp,id];rw [UInt8.toNat_ofNat'];omega
theorem ZWG (n:Nat) (v:Int):∀ x∈be n v,0<=x/\x<256:=fun x hx=>by
 unfold be at hx;obtain ⟨i,_,rfl⟩:=List.mem_map.1 hx;omega
theorem j1W (p:ByteArray):∀ x∈zFD p,0<=x/\x<256:=fun x hx=>by
 unfold zFD at hx;obtain ⟨c,_,rfl⟩:=List.mem_map.1 hx;have:=c.toNat_lt;omega
theorem Qgc (k l m:Int) (p:ByteArray) (n:Nat):∀ x∈Zah k l m p n,0<=x/\x<256:=fun x hx=>by
 unfold Zah QKX at hx;simp only [List.mem_append,List.mem_replicate] at hx;rcases hx with ((((h | h) | h) | h) | h) | h
 ·exact ZWG _ _ x h
 ·exact ZWG _ _ x h
 ·exact ZWG _ _ x h
 ·exact ZWG _ _ x h
 ·exact j1W _ x h
 ·omega
theorem Qy7 (k l m:Int) (p:ByteArray) (n:Nat) (h:p.size+n<=56) {aA:List Int} {bt:ByteArray} {M:Nat} (hM:M=64-n) (h5:aA=List.replicate n 0++Zah k l m p n) (hb:bt=strOfNums ((aA.drop n).take M)) :
  bt=strOfNums (Zah k l m p n)/\spl aA 0 (zFD (xXU bt n))=zFD (XQs k l m p n):=by
 have hl:=kxp k l m p n h
 have e1:bt=strOfNums (Zah k l m p n):=by
  rw [hb,h5,List.drop_left' (by simp),List.take_of_length_le (by omega)]
 refine ⟨e1,?_⟩;unfold spl XQs;rw [<-e1,Q5X,vgz,j6x,h5,List.take_zero,List.nil_append,Nat.zero_add,List.drop_left' (by simp)]
 congr 1
 rw [e1,XYX _ (Qgc k l m p n)]
theorem jOp (w:World) (A:Array Value) (t:TypeId) (n:Nat) (v:Value) (hA:A=Array.replicate n v):(w.alloc (.cells A t)).there w.heap.size 0 n:=fun j hj=>by
 subst hA;rw [Nat.zero_add,World.cell?_alloc_at _ _ _ _ rfl,frozen?_alloc_cells];exact ⟨by simp [hj],jWQ _ _ _ (Nat.le_refl _)⟩
theorem jY1 {P:Program} {aC:Array Oper} {aA:List Oper} {op:Oper} {a:Act} {w:World} {Q:Exit->Act->World->Prop} (aD:op.guard=none) (ty:TypeId) (x y:Operand) (ho:op.op=.store ty x y)
  (xs:List Int) (hx:a.eval x=.pointer (some ⟨w.heap.size,0,none⟩)) (hy:a.eval y=.agg (xs.map (Value.int .u8)).toArray) (A:Array Value) (t:TypeId) (v:Value) (hA:A=Array.replicate xs.length v)
  (hi:(P.info? ty).map (·.size)=some xs.length)
  (h:∀ wx,Fm wx w.heap.size xs->Below w.heap.size w wx->wx.heap.size=w.heap.size+1->wpList P aC Q aA (a.put op.dst undef) wx):wpList P aC Q (op::aA) a (w.alloc (.cells A t)):=by
 have aB:=jOp w A t xs.length v hA;have hz:(xs.map (Value.int .u8)).toArray.size=xs.length:=by simp
 refine wpList_store_mid aD ty x y ho w.heap.size 0 _ hx hy (by rw [hz];exact aB) (by rw [hz];exact hi) (all_oneCell_toArray (xgE xs)) ?_;have hr:=World.rangeAt_setCells_same (w.alloc (.cells A t)) w.heap.size 0 (xs.map (Value.int .u8)) (by rw [List.length_map];exact aB);refine h _ ⟨fun i hi=>?_,fun i hi=>?_⟩ (Go.below_setCells (Nat.le_refl _) _ _ _ ((Below.refl _ _).alloc (Nat.le_refl _) _)) (by rw [QUl];simp)
 ·have:=hr i (.int .u8 (xs.getD i 0)) (by simp [List.getD,List.getElem?_eq_getElem hi])
  simpa using this
 ·rw [World.frozen?_setCells,frozen?_alloc_cells];exact jWQ _ _ _ (Nat.le_refl _)
end
theorem kVP {P:Program} {aB:Array Oper} {aA:List Oper} {op:Oper} {a:Act} {w:World} {Q:Exit->Act->World->Prop} (ty:TypeId) (x:Operand) (aC:op.op=.load ty x) (h:wpList P aB Q (op::aA) a w):wpList P aB Q (op::aA) a w:=h
theorem JWC {P:Program} {aB:Array Oper} {aA:List Oper} {op:Oper} {a:Act} {w:World} {Q:Exit->Act->World->Prop} (ty:TypeId) (x y:Operand) (aC:op.op=.store ty x y) (h:wpList P aB Q (op::aA) a w):wpList P aB Q (op::aA) a w:=h
theorem kR4 (w:World) (A:Array Value) (t:TypeId) (g:Nat) (hg:g=w.heap.size):Row (w.alloc (.cells A t)) g A.toList:=by subst hg;exact xER w A t
theorem yOe {P:Program} {aB:Array Oper} {aA:List Oper} {op:Oper} {a:Act} {w:World} {Q:Exit->Act->World->Prop} (d x:Operand) (ts:Array TypeId) (aC:op.op=.call { callee:=.builtin .copy,args:=#[d,x],argTypes:=ts }) (h:wpList P aB Q (op::aA) a w):wpList P aB Q (op::aA) a w:=h
theorem Qok {P:Program} {aE:Array Oper} {aC:List Oper} {o:Oper} {a:Act} {w:World} {Q:Exit->Act->World->Prop} (aF:o.guard=none) (d x:Operand) (dT sT:TypeId)
  (aG:o.op=.call { callee:=.builtin .copy,args:=#[d,x],argTypes:=#[dT,sT] }) (aB:TypeId) (hu:P.underlying dT=some (.slice aB)) (hz:∀ w,(Go.sizeOf aB).run P w=.ok 1 w)
  (g n cap:Nat) (hd:a.eval d=.slice (some ⟨g,0,none⟩) n cap) (t:ByteArray) (hx:a.eval x=.string t) (hn:t.size=n) (cs:List Value) (aA:Row w g cs) (aH:cs.length=n)
  (h:∀ wx,Row wx g ((zFD t).map (Value.int .u8))->w.grownBy wx (some g)->wx.heap.size=w.heap.size->wpList P aE Q aC (a.put o.dst (goInt t.size)) wx):wpList P aE Q (o::aC) a w:=by
 have hc:∀ j,j<t.size->(w.cell? ⟨g,0+j,none⟩).isSome=true:=fun j hj=>by
  rw [Nat.zero_add,aA.cell j _ (List.getElem?_eq_getElem (by omega))];rfl
 have hf:∀ j,j<t.size->w.frozen? ⟨g,0+j,none⟩=false:=fun j hj=>by rw [Nat.zero_add];exact aA.froz j (by omega)
 have aD:=run_copy_string (P:=P) w dT sT o.type aB g 0 n cap t hu hz (by omega) hc hf;have hW:=qDt w g 0 t hc
 refine wpList_plain aF fun K hK=>?_
 unfold Oper.wp;simp [execOp,aG,resolve,invoke,builtin,hd,hx,aD,Result.andThen];refine hK _ _ (h _ ⟨by rw [hW.size];exact aA.lt,fun i v hv=>?_,fun i hi=>?_⟩ ⟨hW.os,hW.tape,hW.output,Nat.le_of_eq hW.size.symm,fun k _ hk=>hW.others k (fun e=>hk (by rw [e]))⟩ hW.size)
 ·obtain ⟨hj,e⟩:=List.getElem?_eq_some_iff.1 hv
  simp at hj;have:=hW.inside i (by simpa [vgz] using hj);rw [Nat.zero_add] at this;rw [this];simp at e;subst e;simp [List.getD,List.getElem?_eq_getElem hj]
 ·rw [hW.frozen];exact aA.froz i (by simp [vgz] at hi;omega)
theorem Row.range {w:World} {g:Nat} {cs:List Value} (h:Row w g cs):w.rangeAt g 0 cs:=fun j v hv=>by rw [Nat.zero_add];exact h.cell j v hv
theorem Row.there {w:World} {g n:Nat} {cs:List Value} (h:Row w g cs) (hn:n=cs.length):w.there g 0 n:=fun j hj=>by
 rw [Nat.zero_add,h.cell j _ (List.getElem?_eq_getElem (by omega))];exact ⟨rfl,h.froz j (by omega)⟩
set_option maxRecDepth 4000 in
theorem jsf (t:ByteArray) (w:World) (ht:t.size=64) :
  Calls Tryz.prog 56 #[.string t] w fun e w'=>e=.returned (.agg ((zFD t).map (Value.int .u8)).toArray)/\Below w.heap.size w w':=by
 have aC:(zFD t).length=64:=by rw [vgz,ht]
 have aA:Hid ((Tryz.prog.info? 95).map (·.size)=some ((zFD t).map (Value.int .u8)).length):=by show _=_;rw [List.length_map,aC];kernel_rfl
 have aE:((zFD t).map (Value.int .u8)).toArray.size=64:=by simp [aC]
 have HT:=hid ht;clear ht;go_enter Tryz.func56,Tryz.ntmps56
 go_wp2_with (first | (with_reducible refine yOe _ _ _ rfl ?_;refine Qok rfl _ _ _ _ rfl 5 Tryz.underlying22 (fun _=>by kernel_rfl) (w.heap.size+1) 64 64 rfl t rfl HT.out _ (by exact kR4 _ _ _ _ (by simp)) (by kernel_rfl) ?_;intro wx aD aB aF;have hR:=(((xER w _ _).alloc _).grown aB (by simp));have HB:=hid ((((Below.refl _ _).alloc (Nat.le_refl _) _).alloc (by simp) _).trans (jJX aB (by simp;omega) (fun g hg=>by cases hg;omega)));clear aB aF) | (with_reducible refine kVP 95 _ rfl ?_;refine wpList_load_mid rfl 95 _ rfl (w.heap.size+1) 0 rfl ((zFD t).map (Value.int .u8)) _ aD.range Tryz.underlying95 rfl aA.out ?_) | (with_reducible refine JWC 95 _ _ rfl ?_;refine wpList_store_mid rfl 95 _ _ rfl w.heap.size 0 ((zFD t).map (Value.int .u8)).toArray rfl rfl (by rw [aE];exact hR.there (by kernel_rfl)) (by rw [aE];kernel_rfl) (all_oneCell_toArray (xgE (zFD t))) ?_))
 refine bodyPost_ret (v:=.agg ((zFD t).map (Value.int .u8)).toArray) (zOi (p:=2) Tryz.results56 _ _ w.heap.size 0 rfl ((zFD t).map (Value.int .u8)) _ (World.rangeAt_setCells_same _ _ _ _ (by rw [List.length_map,aC];exact hR.there (by kernel_rfl))) Tryz.underlying95 rfl aA.out) rfl ⟨rfl,?_⟩;exact Go.below_setCells (Nat.le_refl _) _ _ _ HB.out
theorem xuE (s:ByteArray) (w:World) (n:Nat) (hs:s.size<=1048576) (h1:1<=n) (h2:n<=8) :
  Calls Tryz.prog 41 #[.string s,.int .i64 (n:Int)] w fun e w'=>e=.returned (.string (xXU s n))/\Below w.heap.size w w':=by
 have aG:=QHv;have aE:(1:Int)<=(n:Int):=by omega
 have aF:(n:Int)<=8:=by omega
 go_enter Tryz.func41,Tryz.ntmps41;go_wp2;go_loop [5,6] (fun v i=>∃ k:Nat,k<=s.size/\i=.int .i64 k/\v=.int .u64 (fnv (s.data.toList.take k))) (fun _ i=>s.size-(intOf i).toNat)
 case atStart=>exact ⟨0,Nat.zero_le _,rfl,rfl⟩
 case round =>
  obtain ⟨k,hk,rfl,rfl⟩:=hrel
  by_cases aC:k<s.size
  ·have HS:Hid (fnv (s.data.toList.take (k+1))=Zr4 (fnv (s.data.toList.take k)) s[k]):=by show _=_;rw [vDo s k aC,xz3]
   go_wp2;go_round
   case rel=>exact ⟨k+1,by omega,by go_num,by rw [HS.out];rfl⟩
   case measure=>simp [intOf];omega
  ·have aB:s.data.toList.take k=s.data.toList:=List.take_of_length_le (by simp;omega)
   have HV:Hid (fnv (s.data.toList.take k)=fnv s.data.toList):=by show _=_;rw [aB]
   clear aB;obtain ⟨x,HX⟩:∃ x,Hid (x=fnv s.data.toList):=⟨fnv s.data.toList,(rfl:fnv s.data.toList=fnv s.data.toList)⟩;rw [HV.out,<-HX.out];have hx:0<=x/\x<=18446744073709551615:=by rw [HX.out];exact ZT7 _
   go_wp2;go_loopw [5,7,8] (fun v o i wr=>∃ k:Nat,k<=n/\i=.int .i64 k/\o=.string (strOfNums (be k x))/\v=.int .u64 (sh k x)/\Below w.heap.size w wr) (fun _ _ i _=>n-(intOf i).toNat)
   case atStart=>exact ⟨0,Nat.zero_le _,rfl,rfl,rfl,Below.refl _ _⟩
   case round =>
    obtain ⟨k,hk,rfl,rfl,rfl,aA⟩:=hrel;have aH:=yQp k x hx.1 hx.2
    by_cases aC:k<n
    ·have aI:(strOfNums [sh k x % 256]).size<=1:=by rw [strOfNums_size];simp
     have aJ:(strOfNums (be k x)).size<=8:=by rw [strOfNums_size,XHU];omega
     go_wp2;go_roundw
     case rel=>exact ⟨k+1,by omega,by go_num,by rw [v50,<-zQR];rfl,rfl,aA.alloc aA.size _⟩
     case measure=>simp [intOf];omega
    ·have aD:k=n:=by omega
     subst aD;go_wp2;go_ret;exact ⟨Jdx (by unfold xXU;rw [HX.out]),aA⟩
theorem yfG (b off n cap:Nat) (x:Int) (w:World) (hn:n<=64) (aD:0<=x) (aE:x<=18446744073709551615)
  (hc:∀ i,i<n->∃ u,w.cell? ⟨b,off+i,none⟩=some (.int .u8 u)) (hf:∀ i,i<n->w.frozen? ⟨b,off+i,none⟩=false) :
  Calls Tryz.prog 86 #[.slice (some ⟨b,off,none⟩) n cap,.int .u64 x] w fun e w'=>e=.returned (.tuple #[])/\Wrote w w' b off (be n x):=by
 go_enter Tryz.func86,Tryz.ntmps86;go_wp2;go_loopw [1,4] (fun v i wr=>∃ k:Nat,k<=n/\i=.int .i64 ((n:Int)-1-k)/\v=.int .u64 (sh k x)/\Wrote w wr b (off+(n-k)) (be k x)) (fun _ i _=>(intOf i+1).toNat)
 case atStart=>exact ⟨0,Nat.zero_le _,by simp,rfl,by simpa [be] using Wrote.refl w b (off+n)⟩
 case round =>
  obtain ⟨k,hk,rfl,rfl,aA⟩:=hrel;have aH:=yQp k x aD aE
  by_cases aG:k<n
  ·obtain ⟨u,hu⟩:=hc (n-1-k) (by omega)
   have aI:wr.cell? ⟨b,off+(n-1-k),none⟩=some (.int .u8 u):=(aA.outside _ (.inl (by omega))).trans hu;have aF:wr.frozen? ⟨b,off+(n-1-k),none⟩=false:=(aA.frozen _).trans (hf _ (by omega));go_wp2;go_roundw
   case rel =>
    have aC:=Wrote.step (off:=off+(n-1-k)) (xs:=be k x) (by rw [show off+(n-1-k)+1=off+(n-k) by omega];exact aA) (sh k x % 256) hu;exact ⟨k+1,by omega,by go_num,rfl,by rw [v50,show n-(k+1)=n-1-k by omega];exact aC⟩
   case measure=>simp [intOf];omega
  ·have aB:k=n:=by omega
   subst aB;go_wp2;go_end0;exact ⟨rfl,by simpa using aA⟩
theorem yEK (s:ByteArray) (w:World) (n:Nat) (hs:s.size<=1048576) (h1:1<=n) (h2:n<=8) :
  Calls Tryz.prog 87 #[.string s,.int .i64 (n:Int)] w fun e w'=>e=.returned (.string (xXU s n))/\Below w.heap.size w w':=by
 have aF:(1:Int)<=(n:Int):=by omega
 have aG:(n:Int)<=8:=by omega
 go_enter Tryz.func87,Tryz.ntmps87;go_wp2;go_loop [5,6] (fun v i=>∃ k:Nat,k<=s.size/\i=.int .i64 k/\v=.int .u64 (fnv (s.data.toList.take k))) (fun _ i=>s.size-(intOf i).toNat)
 case atStart=>exact ⟨0,Nat.zero_le _,rfl,rfl⟩
 case round =>
  obtain ⟨k,hk,rfl,rfl⟩:=hrel
  by_cases aD:k<s.size
  ·have HS:Hid (fnv (s.data.toList.take (k+1))=Zr4 (fnv (s.data.toList.take k)) s[k]):=by show _=_;rw [vDo s k aD,xz3]
   go_wp2;go_round
   case rel=>exact ⟨k+1,by omega,by go_num,by rw [HS.out];rfl⟩
   case measure=>simp [intOf];omega
  ·have aB:s.data.toList.take k=s.data.toList:=List.take_of_length_le (by simp;omega)
   have HV:Hid (fnv (s.data.toList.take k)=fnv s.data.toList):=by show _=_;rw [aB]
   clear aB;obtain ⟨x,HX⟩:∃ x,Hid (x=fnv s.data.toList):=⟨fnv s.data.toList,(rfl:fnv s.data.toList=fnv s.data.toList)⟩;rw [HV.out,<-HX.out];have hx:0<=x/\x<=18446744073709551615:=by rw [HX.out];exact ZT7 _
   go_wp2_with fail;refine (yfG w.heap.size 0 8 8 x _ (by omega) hx.1 hx.2 ?hc ?hf).mono ?_
   case hc =>
    intro i hi;have:i=0\/i=1\/i=2\/i=3\/i=4\/i=5\/i=6\/i=7:=by omega
    rcases this with rfl | rfl | rfl | rfl | rfl | rfl | rfl | rfl<;>exact ⟨0,by simp⟩
   case hf=>intro i hi;simp
   rintro e w1 ⟨rfl,aA⟩;have aC:Below w.heap.size w w1:=((Below.refl _ _).alloc (Nat.le_refl _) _).trans (aA.below (Nat.le_refl _))
   have aH:=fun cap=>run_convert_bytes_arg (P:=Tryz.prog) w1 22 5 Tryz.underlying22 Tryz.underlying5 w.heap.size (8-n) n cap (be n x) (XHU n x) (fun i hi=>by
    have h:=aA.inside (8-n+i) (by rw [XHU];omega);rw [j2P _ _ _ (by omega)] at h;rw [j2P _ _ _ (by omega),show n-1-i=8-1-(8-n+i) by omega]
    simpa using h) 9 Tryz.underlying9
   clear aA
   have aE:=fun wx=>xXI (P:=Tryz.prog) (t:=166) Tryz.underlying166 (fun _=>by kernel_rfl) w.heap.size 0 (8-n) (by omega) .i64 (8-(n:Int)) (by omega) wx
   rw [show 8-(8-n)=n by omega,Nat.zero_add] at aE;go_wp2;go_ret;exact ⟨Jdx (by unfold xXU;rw [HX.out]),aC⟩
theorem x6n {a b:Bool} (h:a=b):Ending.returned (.bool a)=.returned (.bool b):=by rw [h]
def Xhw (k l m:Int) (p:ByteArray) (n:Int):Bool:=decide (1<=n/\n<=8/\1<=k/\k<=4/\1<=l/\l<=60000/\1<=m/\m<=1000000000/\(p.size:Int)<=56-n/\(k=3->p.size=0))
@[reducible] def QAw (k l m:Int) (p:ByteArray):Value:=.agg #[.int .i64 k,.int .i64 l,.int .i64 m,.string p]
theorem kbB (v:Int) (c:Nat) (w:World) (h0:0<=v) (h1:v<=9223372036854775807) (hc:c<=8) :
  Calls Tryz.prog 40 #[.int .i64 v,.int .i64 (c:Int)] w fun e w'=>e=.returned (.string (strOfNums (be c v)))/\Below w.heap.size w w':=by
 have aC:=QHv;go_enter Tryz.func40,Tryz.ntmps40;go_wp2;go_loopw [0,5,6] (fun x o i wr=>∃ k:Nat,k<=c/\i=.int .i64 k/\o=.string (strOfNums (be k v))/\x=.int .i64 (sh k v)/\Below w.heap.size w wr) (fun _ _ i _=>c-(intOf i).toNat)
 case atStart=>exact ⟨0,Nat.zero_le _,rfl,rfl,rfl,Below.refl _ _⟩
 case round =>
  obtain ⟨k,hk,rfl,rfl,rfl,aA⟩:=hrel;have aE:=QAX k v h0 h1
  by_cases aD:k<c
  ·have aF:(strOfNums [sh k v % 256]).size<=1:=by rw [strOfNums_size];simp
   have aG:(strOfNums (be k v)).size<=8:=by rw [strOfNums_size,XHU];omega
   go_wp2;go_roundw
   case rel=>exact ⟨k+1,by omega,by go_num,by rw [v50,<-zQR];rfl,rfl,aA.alloc aA.size _⟩
   case measure=>simp [intOf];omega
  ·have aB:k=c:=by omega
   subst aB;go_wp2;go_ret;exact ⟨rfl,aA⟩
theorem XAP (n:Int) (w:World) (h1:1<=n) (h2:n<=8):Calls Tryz.prog 21 #[.int .i64 n] w fun e w'=>e=.returned (.int .i64 (64-n-8))/\w'=w:=by
 go_enter Tryz.func21,Tryz.ntmps21;go_wp2;go_ret;exact ⟨rfl,rfl⟩
theorem qHH (n:Int) (w:World) (h1:1<=n) (h2:n<=8):Calls Tryz.prog 58 #[.int .i64 n] w fun e w'=>e=.returned (.int .i64 (64-n-8))/\w'=w:=by
 go_enter Tryz.func58,Tryz.ntmps58;go_wp2;go_ret;exact ⟨rfl,rfl⟩
theorem ZTz (k l m:Int) (p:ByteArray) (n:Int) (w:World) (hp:p.size<=1048576) :
  Calls Tryz.prog 59 #[QAw k l m p,.int .i64 n] w fun e w'=>e=.returned (.bool (Xhw k l m p n))/\Below w.heap.size w w':=by
 by_cases hn:1<=n/\n<=8
 ·obtain ⟨aB,aC⟩:=hn
  go_enter Tryz.func59,Tryz.ntmps59;go_wp2
  all_goals first
   | (go_ret;refine ⟨x6n ?_,(Below.refl _ _).alloc (Nat.le_refl _) _⟩;unfold Xhw;symm;apply decide_eq_false;intro h;omega)
   | (go_ret;refine ⟨x6n ?_,(Below.refl _ _).alloc (Nat.le_refl _) _⟩;have aA:(k == 3)=true:=(by assumption);rw [vOw];unfold Xhw;simp at aA;apply decide_eq_decide.2;constructor<;>intro h<;>omega)
   | (go_quiet ((go_at_call 58;exact Calls.quiet_of_same (qHH _ _ aB aC)));go_wp2;go_ret;refine ⟨x6n ?_,below_drewN ((Below.refl _ _).alloc (Nat.le_refl _) _) _⟩;have aA:(k == 3)=false:=(by assumption);unfold Xhw;simp at aA;apply decide_eq_decide.2;constructor<;>intro h<;>omega)
 ·have hd:decide (1<=n/\n<=8)=false:=by simpa using hn
  go_enter Tryz.func59,Tryz.ntmps59;go_wp2_with (go_at_call 27;refine (jnI _ _).mono ?_;rw [hd];rintro e w' ⟨rfl,rfl⟩);go_ret;refine ⟨x6n ?_,(Below.refl _ _).alloc (Nat.le_refl _) _⟩;unfold Xhw;symm;apply decide_eq_false;intro h;omega
theorem QQH (k l m:Int) (p:ByteArray) (n:Int) (w:World) (hp:p.size<=1048576) :
  Calls Tryz.prog 39 #[QAw k l m p,.int .i64 n] w fun e w'=>e=.returned (.bool (Xhw k l m p n))/\Below w.heap.size w w':=by
 by_cases hn:1<=n/\n<=8
 ·obtain ⟨aA,aB⟩:=hn
  by_cases h1:1<=k/\k<=4/\1<=l/\l<=60000/\1<=m/\m<=1000000000
  ·obtain ⟨a1,a2,a3,a4,a5,a6⟩:=h1
   by_cases hz:(p.size:Int)<=64-n-8
   ·by_cases hk:k=3
    ·have aC:(k != 3)=false:=by simp [hk]
     have HK:Hid (k=3):=hk;clear hk;go_enter Tryz.func39,Tryz.ntmps39;go_wp2;go_quiet ((go_at_call 21;exact Calls.quiet_of_same (XAP _ _ aA aB)));go_wp2;go_ret;refine ⟨x6n ?_,below_drewN ((Below.refl _ _).alloc (Nat.le_refl _) _) _⟩;rw [vOw];unfold Xhw;have hk:=HK.out;apply decide_eq_decide.2;constructor<;>intro h<;>omega
    ·have aC:(k != 3)=true:=by simp [hk]
     go_enter Tryz.func39,Tryz.ntmps39;go_wp2;go_quiet ((go_at_call 21;exact Calls.quiet_of_same (XAP _ _ aA aB)));go_wp2;go_ret;refine ⟨x6n ?_,below_drewN ((Below.refl _ _).alloc (Nat.le_refl _) _) _⟩;unfold Xhw;symm;apply decide_eq_true;omega
   ·have aD:decide ((p.size:Int)<=64-n-8)=false:=by simpa using hz
    go_enter Tryz.func39,Tryz.ntmps39;go_wp2;go_quiet ((go_at_call 21;exact Calls.quiet_of_same (XAP _ _ aA aB)));go_wp2;go_ret;refine ⟨x6n ?_,below_drewN ((Below.refl _ _).alloc (Nat.le_refl _) _) _⟩;unfold Xhw;symm;apply decide_eq_false;intro h;omega
  ·have hf:Xhw k l m p n=false:=by unfold Xhw;apply decide_eq_false;intro h;omega
   have HF:Hid (Xhw k l m p n=false):=hf;clear hf;go_enter Tryz.func39,Tryz.ntmps39;go_wp2
   all_goals (go_ret;exact ⟨x6n HF.out.symm,(Below.refl _ _).alloc (Nat.le_refl _) _⟩)
 ·have hd:decide (1<=n/\n<=8)=false:=by simpa using hn
  go_enter Tryz.func39,Tryz.ntmps39;go_wp2_with (go_at_call 15;refine (X3C _ _).mono ?_;rw [hd];rintro e w' ⟨rfl,rfl⟩);go_ret;refine ⟨x6n ?_,(Below.refl _ _).alloc (Nat.le_refl _) _⟩;unfold Xhw;symm;apply decide_eq_false;intro h;omega
theorem vvj {p:Prop} (h:p):Hid p:=h
def JIy:Value->ByteArray
 | .string s=>s
 | _=>ByteArray.empty
theorem Q0K (k l m:Int) (p:ByteArray):strOfNums (be 1 k)++strOfNums (be 2 l)++strOfNums (be 4 m)++strOfNums (be 1 (p.size:Int))++p=strOfNums (QKX k l m p++List.replicate 0 0):=by
 rw [List.replicate_zero,List.append_nil];unfold QKX;rw [zQR,zQR,zQR,zQR,ZXs]
theorem z9O (xs:List Int) (j:Nat):strOfNums (xs++List.replicate j 0)++⟨#[0]⟩=strOfNums (xs++List.replicate (j+1) 0):=by
 rw [List.replicate_succ',<-List.append_assoc,zQR _ [0]];rfl
theorem vFv (v:Int) (c:Nat) (ci:Int) (aA:ci=(c:Int)) (w:World) (h0:0<=v) (h1:v<=9223372036854775807) (hc:c<=8) :
  Calls Tryz.prog 40 #[.int .i64 v,.int .i64 ci] w fun e w'=>e=.returned (.string (strOfNums (be c v)))/\Below w.heap.size w w':=by
 subst aA;exact kbB v c w h0 h1 hc
theorem X84 {W:World} {v0 v1 v2 v3:Value} {w w':World} (hb:Below w.heap.size w w')
  (h:W.heap.size<w.heap.size/\w.cell? ⟨W.heap.size,0,none⟩=some v0/\w.cell? ⟨W.heap.size,1,none⟩=some v1/\w.cell? ⟨W.heap.size,2,none⟩=some v2/\w.cell? ⟨W.heap.size,3,none⟩=some v3/\Below W.heap.size W w) :
  W.heap.size<w'.heap.size/\w'.cell? ⟨W.heap.size,0,none⟩=some v0/\w'.cell? ⟨W.heap.size,1,none⟩=some v1/\w'.cell? ⟨W.heap.size,2,none⟩=some v2/\w'.cell? ⟨W.heap.size,3,none⟩=some v3/\Below W.heap.size W w' :=
 ⟨Nat.lt_of_lt_of_le h.1 hb.size,(hb.cell (p:=⟨_,0,none⟩) h.1).trans h.2.1,(hb.cell (p:=⟨_,1,none⟩) h.1).trans h.2.2.1,(hb.cell (p:=⟨_,2,none⟩) h.1).trans h.2.2.2.1,(hb.cell (p:=⟨_,3,none⟩) h.1).trans h.2.2.2.2.1,
  h.2.2.2.2.2.trans (hb.mono (Nat.le_of_lt h.1))⟩
theorem qMP (k l m:Int) (p:ByteArray) (n:Nat) (w:World) (aA:Xhw k l m p n=true) :
  Calls Tryz.prog 23 #[QAw k l m p,.int .i64 (n:Int)] w fun e w'=>e=.returned (.string (XQs k l m p n))/\Below w.heap.size w w':=by
 have aB:=of_decide_eq_true (by unfold Xhw at aA;exact aA);obtain ⟨aS,aT,aL,aM,aN,aO,aQ,aR,hp,_⟩:=aB;have z1:(strOfNums (be 1 k)).size=1:=by rw [strOfNums_size,XHU]
 have z2:(strOfNums (be 2 l)).size=2:=by rw [strOfNums_size,XHU]
 have z3:(strOfNums (be 4 m)).size=4:=by rw [strOfNums_size,XHU]
 have z4:(strOfNums (be 1 (p.size:Int))).size=1:=by rw [strOfNums_size,XHU]
 have z5:¬ (9223372036854775807<8+p.size):=by omega
 go_enter Tryz.func23,Tryz.ntmps23;go_wp2_with (go_at_call 39;refine (QQH k l m p n _ (by omega)).mono ?_;rw [aA];rintro e w1 ⟨rfl,aC⟩)
 have hS:w.heap.size<w1.heap.size/\w1.cell? ⟨w.heap.size,0,none⟩=some (.int .i64 k)/\w1.cell? ⟨w.heap.size,1,none⟩=some (.int .i64 l)/\w1.cell? ⟨w.heap.size,2,none⟩=some (.int .i64 m)/\w1.cell? ⟨w.heap.size,3,none⟩=some (.string p)/\Below w.heap.size w w1 :=
  X84 (v0:=.int .i64 k) (v1:=.int .i64 l) (v2:=.int .i64 m) (v3:=.string p) aC ⟨by simp,by simp,by simp,by simp,by simp,(Below.refl _ _).alloc (Nat.le_refl _) _⟩
 have HS:=vvj hS;clear hS aC
 go_region_held3 (fun w'=>w.heap.size<w'.heap.size/\w'.cell? ⟨w.heap.size,0,none⟩=some (.int .i64 k)/\w'.cell? ⟨w.heap.size,1,none⟩=some (.int .i64 l)/\w'.cell? ⟨w.heap.size,2,none⟩=some (.int .i64 m)/\w'.cell? ⟨w.heap.size,3,none⟩=some (.string p)/\Below w.heap.size w w')
  (first | assumption | exact X84 (below_drewN (Below.refl _ _) 1) HS.out | exact X84 (by assumption) (by assumption))
  (first | (go_at_call_of 40 k;refine (vFv k 1 _ rfl _ (by omega) (by omega) (by omega)).mono ?_;rintro e w2 ⟨rfl,aH⟩) | (go_at_call_of 40 l;refine (vFv l 2 _ rfl _ (by omega) (by omega) (by omega)).mono ?_;rintro e w3 ⟨rfl,aI⟩) | (go_at_call_of 40 m;refine (vFv m 4 _ rfl _ (by omega) (by omega) (by omega)).mono ?_;rintro e w4 ⟨rfl,aJ⟩) | (go_at_call_of 40 (p.size:Int);refine (vFv (p.size:Int) 1 _ rfl _ (by omega) (by omega) (by omega)).mono ?_;rintro e w5 ⟨rfl,aK⟩))
 clear HS;rename_i hSl;have aD:=hSl.2.2.2.2.2;clear hSl;go_wp2;go_loop [5] (fun b=>∃ j:Nat,j<=56-n-p.size/\b=.string (strOfNums (QKX k l m p++List.replicate j 0))) (fun b=>64-(JIy b).size)
 case atStart=>exact ⟨0,Nat.zero_le _,by rw [Q0K]⟩
 case round =>
  obtain ⟨j,hj,rfl⟩:=hrel;have aG:(strOfNums (QKX k l m p++List.replicate j 0)).size=8+p.size+j:=by rw [strOfNums_size,List.length_append,QeT,List.length_replicate]
  by_cases aP:j<56-n-p.size
  ·go_wp2
   go_round
   case rel=>exact ⟨j+1,by omega,by rw [z9O]⟩
   case measure =>
    rw [z9O];simp only [JIy,strOfNums_size,List.length_append,QeT,List.length_replicate];omega
  ·have aF:j=56-n-p.size:=by omega
   subst aF;have aU:(xXU (strOfNums (QKX k l m p++List.replicate (56-n-p.size) 0)) n).size=n:=j6x _ _;have aV:¬ (9223372036854775807<n+(8+p.size+(56-n-p.size))):=by omega
   go_wp2_with (go_at_call 41;refine (xuE _ _ n (by rw [aG];omega) (by omega) (by omega)).mono ?_;rintro e w6 ⟨rfl,aE⟩);go_ret;exact ⟨rfl,aD.trans (aE.mono aD.size)⟩
theorem jAi (k l m:Int) (p:ByteArray) (n:Int) (w:World) (hp:p.size<=1048576) (aB:Xhw k l m p n=false) :
  Calls Tryz.prog 23 #[QAw k l m p,.int .i64 n] w fun e w'=>e=.returned (.string ByteArray.empty)/\Below w.heap.size w w':=by
 go_enter Tryz.func23,Tryz.ntmps23;go_wp2_with (go_at_call 39;refine (QQH k l m p n _ hp).mono ?_;rw [aB];rintro e w1 ⟨rfl,aA⟩);go_ret;exact ⟨rfl,((Below.refl _ _).alloc (Nat.le_refl _) _).trans (aA.mono (by simp))⟩
set_option maxRecDepth 4000 in
theorem Xue (k l m:Int) (p:ByteArray) (n:Nat) (w:World) (cI:Xhw k l m p n=true) :
  Calls Tryz.prog 60 #[QAw k l m p,.int .i64 (n:Int)] w fun e w'=>e=.returned (.agg ((zFD (XQs k l m p n)).map (Value.int .u8)).toArray)/\Below w.heap.size w w':=by
 have bU:=of_decide_eq_true (by unfold Xhw at cI;exact cI);obtain ⟨eC,eD,dR,dU,dV,dY,dZ,eB,hp,_⟩:=bU
 have cK:=fun wx=>xXI (P:=Tryz.prog) (t:=95) Tryz.underlying95 (fun _=>by kernel_rfl) (w.heap.size+1+1) 0 n (by omega) .i64 (n:Int) rfl wx
 rw [Nat.zero_add] at cK;obtain ⟨M,HM⟩:∃ M,Hid (M=64-n):=⟨64-n,vvj rfl⟩;rw [<-HM.out] at cK;have dE:(56:Int)<=(M:Int):=by have:=HM.out;omega
 have dH:(M:Int)<=63:=by have:=HM.out;omega
 have dJ:(1:Int)<=(M:Int):=by omega
 have dK:(3:Int)<=(M:Int):=by omega
 have dL:(7:Int)<=(M:Int):=by omega
 have dM:(8:Int)<=(M:Int):=by omega
 have eG:IntKind.u64.wrap k=k:=khQ k (by omega) (by omega);have eH:IntKind.u64.wrap l=l:=khQ l (by omega) (by omega);have eI:IntKind.u64.wrap m=m:=khQ m (by omega) (by omega);have eJ:IntKind.u64.wrap (p.size:Int)=(p.size:Int):=khQ _ (by omega) (by omega);have dN:¬ (M=1):=by omega
 have dO:¬ (M=3):=by omega
 have dQ:¬ (M=7):=by omega
 go_enter Tryz.func60,Tryz.ntmps60;go_wp2_with fail;refine qxr w (.int .i64 k) (.int .i64 l) (.int .i64 m) (.string p) _ _ _ _ _ rfl rfl ?_;intro wa cJ bQ;have aD:(List.replicate 64 (0:Int)).length=64:=by simp
 obtain ⟨cP,cH⟩:∃ cP,Hid (cP=List.replicate 64 (0:Int)):=⟨_,vvj rfl⟩;rw [<-cH.out] at bQ aD;have aH:=bQ;have aW:=cJ;clear bQ cJ;have bZ:=vvj aW.toS;clear aW
 go_region_held3 (fun w'=>w'.cell? ⟨w.heap.size,0,none⟩=some (.int .i64 k)/\w'.cell? ⟨w.heap.size,1,none⟩=some (.int .i64 l)/\w'.cell? ⟨w.heap.size,2,none⟩=some (.int .i64 m)/\w'.cell? ⟨w.heap.size,3,none⟩=some (.string p)/\PI w w' (.int .i64 k) (.int .i64 l) (.int .i64 m) (.string p))
  (first | assumption | exact (PI.ofS bZ.out).drew.toS | exact (PI.wrote (PI.ofS (by assumption)) (by assumption)).toS)
  (first | (go_at_call 86;refine (yfG (w.heap.size+1+1) n 1 M k _ (by omega) (by omega) (by omega) (fun i hi=>⟨_,aH.drew.cell (n+i) (by rw [aD];omega)⟩) (fun i hi=>aH.drew.froz (n+i) (by rw [aD];omega))).mono ?_;rintro e wb ⟨rfl,cL⟩))
 have aX:PI w wb (.int .i64 k) (.int .i64 l) (.int .i64 m) (.string p):=PI.ofS (by assumption);obtain ⟨eK,cQ,aL,aI⟩:=aH.drew.step aD cL (by rw [XHU];omega);clear bZ cL aH aD;go_wp2_with fail;have b7:=vvj aX.toS;clear aX
 go_region_held3 (fun w'=>w'.cell? ⟨w.heap.size,0,none⟩=some (.int .i64 k)/\w'.cell? ⟨w.heap.size,1,none⟩=some (.int .i64 l)/\w'.cell? ⟨w.heap.size,2,none⟩=some (.int .i64 m)/\w'.cell? ⟨w.heap.size,3,none⟩=some (.string p)/\PI w w' (.int .i64 k) (.int .i64 l) (.int .i64 m) (.string p))
  (first | assumption | exact (PI.ofS b7.out).drew.toS | exact (PI.wrote (PI.ofS (by assumption)) (by assumption)).toS)
  (first | (go_at_call 86;refine (yfG (w.heap.size+1+1) (n+1) 2 (M-1) l _ (by omega) (by omega) (by omega) (fun i hi=>⟨_,aI.drew.cell (n+1+i) (by rw [aL];omega)⟩) (fun i hi=>aI.drew.froz (n+1+i) (by rw [aL];omega))).mono ?_;rintro e wc ⟨rfl,cM⟩))
 have aY:PI w wc (.int .i64 k) (.int .i64 l) (.int .i64 m) (.string p):=PI.ofS (by assumption);obtain ⟨eL,cS,aM,aJ⟩:=aI.drew.step aL cM (by rw [XHU];omega);clear b7 cM aI aL;go_wp2_with fail;have b8:=vvj aY.toS;clear aY
 go_region_held3 (fun w'=>w'.cell? ⟨w.heap.size,0,none⟩=some (.int .i64 k)/\w'.cell? ⟨w.heap.size,1,none⟩=some (.int .i64 l)/\w'.cell? ⟨w.heap.size,2,none⟩=some (.int .i64 m)/\w'.cell? ⟨w.heap.size,3,none⟩=some (.string p)/\PI w w' (.int .i64 k) (.int .i64 l) (.int .i64 m) (.string p))
  (first | assumption | exact (PI.ofS b8.out).drew.toS | exact (PI.wrote (PI.ofS (by assumption)) (by assumption)).toS)
  (first | (go_at_call 86;refine (yfG (w.heap.size+1+1) (n+3) 4 (M-3) m _ (by omega) (by omega) (by omega) (fun i hi=>⟨_,aJ.drew.cell (n+3+i) (by rw [aM];omega)⟩) (fun i hi=>aJ.drew.froz (n+3+i) (by rw [aM];omega))).mono ?_;rintro e wd ⟨rfl,cN⟩))
 have aZ:PI w wd (.int .i64 k) (.int .i64 l) (.int .i64 m) (.string p):=PI.ofS (by assumption);obtain ⟨eM,cT,aN,aK⟩:=aJ.drew.step aM cN (by rw [XHU];omega);clear b8 cN aJ aM;go_wp2_with fail;have cC:=vvj aZ.toS;clear aZ
 go_region_held3 (fun w'=>w'.cell? ⟨w.heap.size,0,none⟩=some (.int .i64 k)/\w'.cell? ⟨w.heap.size,1,none⟩=some (.int .i64 l)/\w'.cell? ⟨w.heap.size,2,none⟩=some (.int .i64 m)/\w'.cell? ⟨w.heap.size,3,none⟩=some (.string p)/\PI w w' (.int .i64 k) (.int .i64 l) (.int .i64 m) (.string p))
  (first | assumption | exact (PI.ofS cC.out).drew.toS | exact (PI.wrote (PI.ofS (by assumption)) (by assumption)).toS)
  (first | (go_at_call 86;refine (yfG (w.heap.size+1+1) (n+7) 1 (M-7) (p.size:Int) _ (by omega) (by omega) (by omega) (fun i hi=>⟨_,aK.drew.cell (n+7+i) (by rw [aN];omega)⟩) (fun i hi=>aK.drew.froz (n+7+i) (by rw [aN];omega))).mono ?_;rintro e we ⟨rfl,cO⟩))
 have bC:PI w we (.int .i64 k) (.int .i64 l) (.int .i64 m) (.string p):=PI.ofS (by assumption);obtain ⟨eN,cU,aE,aC⟩:=aK.drew.step aN cO (by rw [XHU];omega);clear cC cO aK aN;go_wp2_with fail;have dI:¬ (M=8):=by omega
 have cZ:p.size<=M-8:=by have:=HM.out;omega
 have bJ:=vvj (aC.drew.copied (n+8) p (by rw [aE];omega));have bW:=vvj (aC.drew.isSome (n+8) p.size (by rw [aE];omega));have bY:=vvj (aC.drew.frozen (n+8) p.size (by rw [aE];omega));have bI:=vvj bC.toS;clear bC
 go_region_held3 (fun w'=>w'.cell? ⟨w.heap.size,0,none⟩=some (.int .i64 k)/\w'.cell? ⟨w.heap.size,1,none⟩=some (.int .i64 l)/\w'.cell? ⟨w.heap.size,2,none⟩=some (.int .i64 m)/\w'.cell? ⟨w.heap.size,3,none⟩=some (.string p)/\PI w w' (.int .i64 k) (.int .i64 l) (.int .i64 m) (.string p))
  (first | assumption | exact (PI.ofS bI.out).drew.toS | exact (PI.wrote (PI.ofS bI.out).drew bJ.out).toS)
  (first | (refine step_copy_string (by rfl) _ _ _ _ (by rfl) 5 Tryz.underlying22 (fun _=>by kernel_rfl) (w.heap.size+1+1) (n+8) (M-8) (M-8) (by rfl) p (by rfl) cZ bW.out bY.out ?_))
 have aP:=PI.wrote (PI.ofS bI.out).drew bJ.out;obtain ⟨aU,cV,aA,aT⟩:=aC.drew.step aE bJ.out (by rw [vgz];omega);clear bI bJ bW bY aC aE;obtain ⟨wf,cE⟩:∃ wf,wf=we.drew.setCells (w.heap.size+1+1) (n+8) (List.map (fun x=>Value.int IntKind.u8 (x.toNat:Int)) p.data.toList):=⟨_,rfl⟩;rw [<-cE] at aT aP ⊢;clear cE;go_wp2_with fail
 have eF:=fun wx=>QTH (P:=Tryz.prog) (t:=95) Tryz.underlying95 (fun _=>by kernel_rfl) (w.heap.size+1+1) 0 n (by omega) (by omega) .i64 (n:Int) rfl wx
 obtain ⟨bt,HB⟩:∃ bt,Hid (bt=strOfNums ((aU.drop n).take M)):=⟨_,vvj rfl⟩;have cY:bt.size=M:=by rw [HB.out,strOfNums_size,List.length_take,List.length_drop,aA];have:=HM.out;omega
 have hF:w.heap.size+1+1<wf.drew.heap.size:=by have:=aP.size;show _<wf.heap.size;omega
 have bH:∀ (wx:World) (xs:List Int),xs.length=64->(xs.drop n).take M=(aU.drop n).take M->Fm wx (w.heap.size+1+1) xs->PI w wx (.int .i64 k) (.int .i64 l) (.int .i64 m) (.string p) ->
   (convert 22 9 (.slice (some ⟨w.heap.size+1+1,n,none⟩) M M)).run Tryz.prog wx=.ok (.string bt) wx/\wx.there (w.heap.size+1+1) 0 64/\PI w wx (.int .i64 k) (.int .i64 l) (.int .i64 m) (.string p):=fun wx xs hx hd hf hp=>by
  refine ⟨?_,fun j hj=>⟨?_,?_⟩,hp⟩
  ·rw [hf.text 22 5 9 Tryz.underlying22 Tryz.underlying5 Tryz.underlying9 n M M (by have:=HM.out;omega),hd,HB.out]
  ·exact hf.isSome 0 64 (by omega) j hj
  ·exact hf.frozen 0 64 (by omega) j hj
 have HT:=vvj bH;have aF:=vvj aT;have aS:=vvj aP;clear bH aT aP;have aG:(xXU bt n).size=n:=j6x _ _
 go_region_held3 (fun w'=>(convert 22 9 (.slice (some ⟨w.heap.size+1+1,n,none⟩) M M)).run Tryz.prog w'=.ok (.string bt) w'/\w'.there (w.heap.size+1+1) 0 64/\PI w w' (.int .i64 k) (.int .i64 l) (.int .i64 m) (.string p))
  (first | assumption | exact HT.out _ aU aA rfl aF.out.drew aS.out.drew | exact HT.out _ aU aA rfl (aF.out.drew.below aB hF) (aS.out.drew.below aB) | exact HT.out _ _ (by rw [yi3 _ _ _ (by rw [vgz,aG];omega)];exact aA) (by rw [vJk _ _ n (by rw [vgz,aG])]) ((aF.out.drew.below aB hF).wrote ((aF.out.drew.below aB hF).copied 0 (xXU bt n) (by rw [aG];omega)) (by rw [vgz,aG];omega)) (PI.wrote (aS.out.drew.below aB) ((aF.out.drew.below aB hF).copied 0 (xXU bt n) (by rw [aG];omega))))
  (first | (go_at_call 87;refine (yEK bt _ n (by rw [cY];omega) (by omega) (by omega)).mono ?_;rintro e wg ⟨rfl,aB⟩) | (refine step_copy_string (by rfl) _ _ _ _ (by rfl) 5 Tryz.underlying22 (fun _=>by kernel_rfl) (w.heap.size+1+1) 0 n 64 (by rfl) (xXU bt n) (by rfl) (by rw [aG];omega) (fun j hj=>((HT.out _ aU aA rfl (aF.out.drew.below aB hF) (aS.out.drew.below aB)).2.1 j (by rw [aG] at hj;omega)).1) (fun j hj=>((HT.out _ aU aA rfl (aF.out.drew.below aB hF) (aS.out.drew.below aB)).2.1 j (by rw [aG] at hj;omega)).2) ?_))
 have bV:=(aF.out.drew.below aB hF).copied 0 (xXU bt n) (by rw [aG];omega);have aQ:=PI.wrote (aS.out.drew.below aB) bV;obtain ⟨aR,cW,aO,aV⟩:=(aF.out.drew.below aB hF).step aA bV (by rw [vgz,aG];omega)
 have HR:Hid (aR=zFD (XQs k l m p n)):=by
  have h5:=JHq k l m p n (by omega) cH.out cQ.out cS.out cT.out cU.out cV.out;show aR=_;rw [cW.out,(Qy7 k l m p n (by omega) HM.out h5 HB.out).2]
 clear bV aF aS HT aB hF;obtain ⟨wh,cF⟩:∃ wh,wh=wg.setCells (w.heap.size+1+1) 0 (List.map (fun x=>Value.int IntKind.u8 (x.toNat:Int)) (xXU bt n).data.toList):=⟨_,rfl⟩;rw [<-cF] at aV aQ ⊢;clear cF;have bG:(aR.map (Value.int .u8)).toArray.size=64:=by simp [aO]
 go_wp2_with (first
  | (refine wpList_load_mid rfl 95 _ rfl (w.heap.size+1+1) 0 rfl (aR.map (Value.int .u8)) _ aV.range Tryz.underlying95 rfl (by rw [List.length_map,aO];kernel_rfl) ?_)
  | (refine wpList_store_mid rfl 95 _ _ rfl (w.heap.size+1) 0 (aR.map (Value.int .u8)).toArray rfl rfl (by rw [bG];exact aQ.there) (by rw [bG];kernel_rfl) (all_oneCell_toArray (xgE aR)) ?_))
 refine bodyPost_ret (v:=.agg (aR.map (Value.int .u8)).toArray) (zOi (p:=4) Tryz.results60 _ _ (w.heap.size+1) 0 rfl (aR.map (Value.int .u8)) _ (World.rangeAt_setCells_same _ _ _ _ (by rw [List.length_map,aO];exact aQ.there)) Tryz.underlying95 rfl (by rw [List.length_map,aO];kernel_rfl)) rfl ⟨by rw [HR.out],?_⟩;exact below_setCells (by omega) _ _ _ aQ.bel
def ZQp (k l m:Int) (p:ByteArray) (n:Int):ByteArray:=if Xhw k l m p n=true then XQs k l m p n.toNat else ByteArray.empty
theorem x4N (k l m:Int) (p:ByteArray) (n:Int) (w:World) (hp:p.size<=1048576) :
  Calls Tryz.prog 23 #[QAw k l m p,.int .i64 n] w fun e w'=>e=.returned (.string (ZQp k l m p n))/\Below w.heap.size w w':=by
 unfold ZQp
 cases h:Xhw k l m p n with
 | true =>
  have hd:=of_decide_eq_true (by unfold Xhw at h;exact h);have hn:1<=n:=hd.1;obtain ⟨j,rfl⟩:∃ j:Nat,n=(j:Int):=⟨n.toNat,by omega⟩;rw [if_pos rfl,Int.toNat_natCast];exact qMP k l m p j w h
 | false=>rw [if_neg (by simp)];exact jAi k l m p n w hp h
def kPX (s:ByteArray) (l f:Int) (n m N i:Nat):ByteArray:=ZQp (if i+1=N then 2 else 1) l (f+(i:Int)) (s.extract (i*m) (i*m+m)) (n:Int)
def Jw4 (l f:Int) (N:Nat):Bool:=decide (1<=l/\l<=60000/\1<=f/\f+(N:Int)<=1000000001)
def kkL (s:ByteArray) (l f:Int) (n m N k:Nat):List ByteArray:=(List.range k).map (kPX s l f n m N)
theorem Xu3 (s:ByteArray) (l f:Int) (n m N k:Nat):kkL s l f n m N (k+1)=kkL s l f n m N k++[kPX s l f n m N k]:=by simp [kkL,List.range_succ]
theorem xpG (s:ByteArray) (l f:Int) (n m N k:Nat):(kkL s l f n m N k).length=k:=by simp [kkL]
def zhI (s:ByteArray) (l f:Int) (n m:Nat):List ByteArray:=if Jw4 l f (QgM s.size m)=true then kkL s l f n m (QgM s.size m) (QgM s.size m) else []
theorem Xml (l m:Nat):QgM l m<=l+1:=by
 unfold QgM
 split
 ·omega
 ·have:=Nat.div_le_self (l-1) m;omega
theorem ksj (l m:Nat):0<QgM l m:=by
 unfold QgM
 split
 ·omega
 ·exact Nat.succ_pos _
theorem kjP (s:ByteArray) (a m:Nat):(s.extract a (a+m)).size<=m:=by simp only [ByteArray.size_extract];omega
theorem yE2 {s:ByteArray} {l f:Int} {n m N:Nat} (hN:N=QgM s.size m) (h:1<=l/\l<=60000/\1<=f/\f+(N:Int)<=1000000001):zhI s l f n m=kkL s l f n m N N:=by
 unfold zhI Jw4;rw [<-hN,if_pos (by simpa using h)]
theorem yIG {s:ByteArray} {l f:Int} {n m N:Nat} (hN:N=QgM s.size m) (h:¬ (1<=l/\l<=60000/\1<=f/\f+(N:Int)<=1000000001)):zhI s l f n m=[]:=by
 unfold zhI Jw4;rw [<-hN,if_neg (by simpa using h)]
def ynS (w w':World) (e:Ending) (ss:List ByteArray):Prop:=∃ a c,e=.returned (.slice a ss.length c)/\OwnS w' a (ss.map Value.string)/\(∀ g,blk a ss.length=some g->w.heap.size<=g)/\Below w.heap.size w w'
theorem ZIV {w w':World} {v:Value} {a:Option Addr} {c:Nat} (hv:v=.slice a 0 c) (hb:Below w.heap.size w w'):ynS w w' (.returned v) []:=⟨a,c,by rw [hv];rfl,.inl rfl,fun g h=>(by cases h),hb⟩
theorem XR6 {w w':World} {v:Value} {k:Nat} {e:TypeId} {ss:List ByteArray} (h:w'.ownsRow w.heap.size e 1 v k (ss.map Value.string)) (hk:k=ss.length) (hb:Below w.heap.size w w'):ynS w w' (.returned v) ss:=by
 rcases yUO h with ⟨h1,h2⟩ | ⟨g,cap,h1,h2,_,h3⟩
 ·have:ss=[]:=List.eq_nil_of_length_eq_zero (by omega)
  subst this;exact ZIV h1 hb
 ·subst hk
  refine ⟨_,cap,by rw [h1],.inr ⟨g,rfl,h3⟩,fun g' aA=>?_,hb⟩
  by_cases h0:ss.length=0
  ·rw [h0] at aA;cases aA
  ·rw [qdd g 0 _ h0] at aA;cases aA;exact h2
set_option maxRecDepth 4000 in
theorem yBz (s:ByteArray) (l f:Int) (n m:Nat) (w:World) (hs:s.size<=1048576) (hm:n+m=56) (h1:1<=n) (h2:n<=8) :
  Calls Tryz.prog 94 #[.string s,.int .i64 l,.int .i64 f,.int .i64 (n:Int)] w fun e w'=>ynS w w' e (zhI s l f n m):=by
 have hd:decide (1<=(n:Int)/\(n:Int)<=8)=true:=by simp;omega
 have aJ:∀ o,Below w.heap.size w (w.alloc o):=fun o=>(Below.refl _ _).alloc (Nat.le_refl _) _
 obtain ⟨N,HN⟩:∃ N,Hid (N=QgM s.size m):=⟨_,hid rfl⟩;have bZ:N<=1048577:=by have:=Xml s.size m;rw [HN.out];omega
 have bY:0<N:=by rw [HN.out];exact ksj _ _
 obtain ⟨R,HR⟩:∃ R,Hid (R=zhI s l f n m):=⟨_,hid rfl⟩;rw [<-HR.out]
 by_cases b8:1<=l
 ·by_cases cC:l<=60000
  ·by_cases cE:1<=f
   ·by_cases cF:f<=1000000000
    ·by_cases b7:(N:Int)<=1000000000-f+1
     ·have aE:Hid (R=kkL s l f n m N N):=by show _=_;rw [HR.out];exact yE2 HN.out (by omega)
      clear HR;obtain ⟨i0,aW,bC,bG,bH⟩:=info_parts ZXN;have HI:=hid (And.intro aW (And.intro bC (And.intro bG bH)));clear aW bC bG bH;go_enter Tryz.func94,Tryz.ntmps94
      go_wp2_with (first | (go_at_call 15;refine (X3C _ _).mono ?_;rw [hd];rintro e w2 ⟨rfl,rfl⟩) | (go_at_call 91;refine (q4g s n m _ hs hm h1 h2).mono ?_;rw [<-HN.out];rintro e w2 ⟨g,c,rfl,hg,aB,hb⟩;have aR:=hid aB;clear aB))
      simp only [World.size_alloc] at hg;have bJ:Below w.heap.size w w2:=(aJ _).trans (hb.mono (by simp));have aN:w2.ownsRow w.heap.size 9 1 (.slice (some ⟨w.heap.size,0,none⟩) 0 0) 0 []:=jcb (World.ownsRow_lit w #[] 0 (Nat.le_refl _) (by simp) (by simp)) hb;clear hb;go_loopw [9,11,12] (fun y i _ wr=>∃ k:Nat,k<=N/\i=.int .i64 k/\wr.ownsRow w.heap.size 9 1 y k ((kkL s l f n m N k).map Value.string)/\y.ownBlock≠some g/\Row wr g ((Qna s m N).map Value.string)/\Below w.heap.size w wr) (fun _ i _ _=>N-(intOf i).toNat)
      case atStart=>exact ⟨0,Nat.zero_le _,rfl,aN,by simp [Value.ownBlock];omega,aR.out,bJ⟩
      case round =>
       obtain ⟨k,hk,rfl,aH,aX,aB,aG⟩:=hrel
       by_cases bU:k<N
       ·have hc:=aB.cell k (.string (s.extract (k*m) (k*m+m))) (by simp [Qna,bU])
        obtain ⟨p,HP⟩:∃ p,Hid (p=s.extract (k*m) (k*m+m)):=⟨_,hid rfl⟩;rw [<-HP.out] at hc;have aY:p.size<=1048576:=by rw [HP.out];have:=kjP s (k*m) m;omega
        have bW:w.heap.size<=wr.heap.size:=aG.size;have bQ:=aB.lt;have HB:=hid aG;have bI:=hid aB;have aI:=hid aH;clear aG aB aH;obtain ⟨F,HF⟩:∃ F,Hid (F=kPX s l f n m N k):=⟨_,hid rfl⟩;obtain ⟨kd,aM⟩:∃ kd:Int,kd=if k+1=N then 2 else 1:=⟨_,rfl⟩;have aT:Hid (ZQp kd l (f+(k:Int)) p (n:Int)=F):=by show _=_;rw [HF.out,HP.out,aM];rfl
        have aU:∀ (w5:World),Below wr.heap.size wr w5->∀ (w7:World) (g' cap:Nat),w7.ownsRow w.heap.size 9 1 (.slice (some ⟨g',0,none⟩) (k+1) cap) (k+1) ((kkL s l f n m N k).map Value.string++[.string F])->(w5.alloc (.cells #[.string F] 9)).grownBy w7 u9.ownBlock->(u9.ownBlock=some g'\/g'=w5.heap.size+1)->(∃ k':Nat,k'<=N/\Value.int .i64 ((k:Int)+1)=.int .i64 k'/\w7.ownsRow w.heap.size 9 1 (.slice (some ⟨g',0,none⟩) (k+1) cap) k' ((kkL s l f n m N k').map Value.string)/\(Value.slice (some ⟨g',0,none⟩) (k+1) cap).ownBlock≠some g/\Row w7 g ((Qna s m N).map Value.string)/\Below w.heap.size w w7):=fun w5 aD w7 g' cap bV aV aO=>by
         have aZ:=aD.size;refine ⟨k+1,by omega,by go_num,?_,?_,?_,?_⟩
         ·rw [Xu3,List.map_append,<-HF.out];exact bV
         ·rcases aO with aO | aO
          ·intro he;exact aX (aO.trans (by simpa [Value.ownBlock] using he))
          ·simp [Value.ownBlock];omega
         ·exact ((bI.out.below aD).alloc _).grown aV (fun he=>aX he.symm)
         ·exact Qpc ((HB.out.trans (aD.mono bW)).alloc (by omega) _) ((jcb aI.out aD).alloc _) aV (by simp;omega)
        have aK:=hid aU;clear aU
        by_cases aL:k+1=N
        ·have hq:((k:Int) == (N:Int)-1)=true:=by simp;omega
         rw [if_pos aL] at aM;subst aM;clear aL
         go_wp2_with (first | (go_at_call 23;refine (x4N 2 l (f+(k:Int)) p (n:Int) _ aY).mono ?_;rw [aT.out];rintro e w5 ⟨rfl,aD⟩;have aZ:=aD.size;have aQ:=hid ((jcb aI.out aD).alloc (.cells #[.string F] 9))) | (at_builtin;refine WAL _ rfl _ _ 23 rfl w.heap.size Tryz.underlying23 HI.out rfl (by omega) _ k _ rfl aQ.out ⟨w5.heap.size,0,none⟩ 1 1 [.string F] rfl rfl (World.news_of_block (heap_alloc_new w5 _)) (by intro u hu;simp at hu;subst hu;rfl) (by simp;omega) (w5.heap.size+1) (by simp) ?_;intro g' cap w7 aC aA aF aS;have aP:=hid (aK.out w5 aD w7 g' cap aC aA aF);clear aC aA aF))
         exact ⟨aP.out,by simp [intOf];omega⟩
        ·have hq:((k:Int) == (N:Int)-1)=false:=by simp;omega
         rw [if_neg aL] at aM;subst aM
         go_wp2_with (first | (go_at_call 23;refine (x4N 1 l (f+(k:Int)) p (n:Int) _ aY).mono ?_;rw [aT.out];rintro e w5 ⟨rfl,aD⟩;have aZ:=aD.size;have aQ:=hid ((jcb aI.out aD).alloc (.cells #[.string F] 9))) | (at_builtin;refine WAL _ rfl _ _ 23 rfl w.heap.size Tryz.underlying23 HI.out rfl (by omega) _ k _ rfl aQ.out ⟨w5.heap.size,0,none⟩ 1 1 [.string F] rfl rfl (World.news_of_block (heap_alloc_new w5 _)) (by intro u hu;simp at hu;subst hu;rfl) (by simp;omega) (w5.heap.size+1) (by simp) ?_;intro g' cap w7 aC aA aF aS;have aP:=hid (aK.out w5 aD w7 g' cap aC aA aF);clear aC aA aF))
         exact ⟨aP.out,by simp [intOf];omega⟩
       ·have aL:k=N:=by omega
        subst aL;have HO:=hid aH;clear aH aB;go_wp2;go_ret;rw [aE.out];exact XR6 HO.out (xpG _ _ _ _ _ _ _).symm aG
     ·have aE:Hid (R=[]):=by show _=_;rw [HR.out];exact yIG HN.out (by omega)
      clear HR;go_enter Tryz.func94,Tryz.ntmps94
      go_wp2_with (first | (go_at_call 15;refine (X3C _ _).mono ?_;rw [hd];rintro e w2 ⟨rfl,rfl⟩) | (go_at_call 91;refine (q4g s n m _ hs hm h1 h2).mono ?_;rw [<-HN.out];rintro e w2 ⟨g,c,rfl,hg,aB,hb⟩;clear aB))
      go_ret;rw [aE.out];exact ZIV rfl ((aJ _).trans (hb.mono (by simp)))
    ·have aE:Hid (R=[]):=by show _=_;rw [HR.out];exact yIG HN.out (by omega)
     clear HR;go_enter Tryz.func94,Tryz.ntmps94
     go_wp2_with (first | (go_at_call 15;refine (X3C _ _).mono ?_;rw [hd];rintro e w2 ⟨rfl,rfl⟩))
     go_ret;rw [aE.out];exact ZIV rfl (aJ _)
   ·have aE:Hid (R=[]):=by show _=_;rw [HR.out];exact yIG HN.out (by omega)
    clear HR;go_enter Tryz.func94,Tryz.ntmps94
    go_wp2_with (first | (go_at_call 15;refine (X3C _ _).mono ?_;rw [hd];rintro e w2 ⟨rfl,rfl⟩))
    go_ret;rw [aE.out];exact ZIV rfl (aJ _)
  ·have aE:Hid (R=[]):=by show _=_;rw [HR.out];exact yIG HN.out (by omega)
   clear HR;go_enter Tryz.func94,Tryz.ntmps94
   go_wp2_with (first | (go_at_call 15;refine (X3C _ _).mono ?_;rw [hd];rintro e w2 ⟨rfl,rfl⟩))
   go_ret;rw [aE.out];exact ZIV rfl (aJ _)
 ·have aE:Hid (R=[]):=by show _=_;rw [HR.out];exact yIG HN.out (by omega)
  clear HR;go_enter Tryz.func94,Tryz.ntmps94
  go_wp2_with (first | (go_at_call 15;refine (X3C _ _).mono ?_;rw [hd];rintro e w2 ⟨rfl,rfl⟩))
  go_ret;rw [aE.out];exact ZIV rfl (aJ _)
end Go.Proofs.YtehbpeinnepdcaaGreatDoor
