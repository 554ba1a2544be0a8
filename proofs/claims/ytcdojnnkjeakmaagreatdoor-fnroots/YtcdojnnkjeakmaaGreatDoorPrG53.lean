import Derived.Test.YtcdojnnkjeakmaaGreatDoorPrSh5
import Derived.Test.YtcdojnnkjeakmaaGreatDoorPrG46
import Derived.ChangeKeysEq
import Derived.Laws.IdiomStrings
import Derived.Laws.ResultCell
import Derived.Test.YtcdojnnkjeakmaaGreatDoorPrG47
import Derived.SliceStrings
import Derived.Deep.SlicePairs
import Derived.ProofKit
import Derived.ChangeOld
set_option maxHeartbeats 16000000
set_option maxRecDepth 8000
set_option linter.unusedVariables false
set_option linter.unusedSimpArgs false
namespace Go.Proofs.YtcdojnnkjeakmaaGreatDoor
open Go.RowKit
theorem ZXN:(Tryz.prog.info? 9).map (fun i=>(i.zero,i.size,i.bytes))=some (some (.string ByteArray.empty),1,16):=by kernel_rfl
theorem JN8 (n m:Nat) (w:World) (h:n+m=56) (h1:1<=n) (h2:n<=8):Calls Tryz.prog 57 #[.int .i64 (n:Int)] w fun e w'=>e=.returned (.int .i64 (m:Int))/\w'=w:=by
 have hm:(64-(n:Int)-8)=(m:Int):=by omega
 go_enter Tryz.func57,Tryz.ntmps57;go_wp2;go_ret
 exact ⟨by first | rfl | exact congrArg _ (congrArg _ hm),rfl⟩
theorem Qpc {W w w1:World} {e:TypeId} {size:Nat} {v:Value} {n B:Nat} {xs:List Value} (hb:Below B W w) (own:w.ownsRow B e size v n xs) (hg:w.grownBy w1 v.ownBlock) (hB:B<=w.heap.size):Below B W w1 :=
 hb.trans ⟨hg.os,hg.tape,hg.output,hg.size,fun k hk=>hg.block k (by omega) (fun he=>by have:=(own.lt k he.symm).1;omega)⟩
theorem kWU {w:World} {B:Nat} (h:B<=w.heap.size) (o:Obj):B<=(w.alloc o).heap.size:=by simp;omega
def Qna (s:ByteArray) (m k:Nat):List ByteArray:=(List.range k).map fun i=>s.extract (i*m) (i*m+m)
theorem yWs (s:ByteArray) (m k:Nat):Qna s m (k+1)=Qna s m k++[s.extract (k*m) (k*m+m)]:=by simp [Qna,List.range_succ]
def QgM (l m:Nat):Nat:=if l=0 then 1 else (l-1) / m+1
theorem kIE (s:ByteArray) {a b c:Nat} (h:min (b-a) (s.size-a)=min (c-a) (s.size-a)):s.extract a b=s.extract a c:=by
 apply ByteArray.ext
 simp only [ByteArray.data_extract];exact Array.extract_eq_extract_right.2 h
theorem vWC (s r:ByteArray) (a m:Nat) (h:r=s.extract a s.size):r.extract m r.size=s.extract (a+m) s.size:=by
 subst h;rw [ByteArray.extract_extract]
 apply kIE
 simp only [ByteArray.size_extract];omega
theorem jRK (s r:ByteArray) (a m:Nat) (h:r=s.extract a s.size):r.extract 0 m=s.extract a (a+m):=by
 subst h;rw [ByteArray.extract_extract,Nat.add_zero]
 apply kIE
 omega
theorem j4J (s r:ByteArray) (a m:Nat) (h:r=s.extract a s.size) (hm:r.size<=m):r=s.extract a (a+m):=by
 subst h;simp only [ByteArray.size_extract] at hm
 apply kIE
 omega
theorem vyl (l m k r:Nat) (hm:0<m) (hr:k*m+r=l) (h0:k=0\/0<r) (h1:r<=m):QgM l m=k+1:=by
 unfold QgM
 by_cases hl:l=0
 ·rw [if_pos hl]
  rcases h0 with h0 | h0
  ·omega
  ·omega
 ·rw [if_neg hl]
  have:(l-1) / m=k:=by
   rw [Nat.div_eq_iff hm];rcases h0 with h0 | h0
   ·subst h0;omega
   ·omega
  omega
theorem q4g (s:ByteArray) (n m:Nat) (w:World) (hs:s.size<=1048576) (h:n+m=56) (h1:1<=n) (h2:n<=8) :
  Calls Tryz.prog 93 #[.string s,.int .i64 (n:Int)] w fun e w'=>∃ g c,e=.returned (.slice (some ⟨g,0,none⟩) (QgM s.size m) c)/\w.heap.size<=g/\Row w' g ((Qna s m (QgM s.size m)).map Value.string)/\Below w.heap.size w w':=by
 obtain ⟨i0,aK,aM,aL,aJ⟩:=info_parts ZXN;have HI:=hid (And.intro aK (And.intro aM (And.intro aL aJ)));clear aK aM aL aJ;go_enter Tryz.func93,Tryz.ntmps93;go_wp2_with (go_at_call 57;refine (JN8 n m _ h h1 h2).mono ?_;rintro e w' ⟨rfl,rfl⟩);go_loopw [0,5] (fun x y wr=>∃ (k:Nat) (r:ByteArray),x=.string r/\Hid (r=s.extract (k*m) s.size)/\k*m+r.size=s.size/\Hid (k=0\/0<r.size)/\wr.ownsRow w.heap.size 9 1 y k ((Qna s m k).map Value.string)/\Below w.heap.size w wr) (fun x _ _=>match x with | .string r=>r.size | _=>0)
 case atStart=>exact ⟨0,s,rfl,by show s=_;simp,by simp,.inl rfl,World.ownsRow_lit _ #[] 0 (Nat.le_refl _) (by simp) (by simp),(Below.refl _ _).alloc (Nat.le_refl _) _⟩
 case round =>
  obtain ⟨k,r,rfl,HR,hr,H0,aD,aC⟩:=hrel
  by_cases aP:m<r.size
  ·have aO:(m:Int)<(r.size:Int):=by omega
   have aN:k<=1048576:=by have:k*1<=k*m:=Nat.mul_le_mul_left k (by omega);omega
   have aE:w.heap.size<=wr.heap.size:=aC.size;have HB:=hid aC;have HO:=hid (aD.alloc (.cells #[.string (r.extract 0 m)] 9));clear aC aD;go_wp2_with (at_builtin;refine WAL _ rfl _ _ 28 rfl w.heap.size Tryz.underlying28 HI.out rfl (by omega) _ k _ rfl HO.out ⟨wr.heap.size,0,none⟩ 1 1 [.string (r.extract 0 m)] rfl rfl (World.news_of_block (heap_alloc_new wr _)) (by intro u hu;simp at hu;subst hu;rfl) (kWU aE _) (wr.heap.size+1) (by simp) ?_;intro g cap w3 aB aA aG aH;have aF:=hid aB;have aI:=hid (Qpc (HB.out.alloc aE _) HO.out aA (kWU aE _));clear aB aA aG);refine ⟨⟨k+1,r.extract m r.size,rfl,?_,?_,?_,?_,aI.out⟩,?_⟩
   ·show _=_
    rw [vWC s r _ m HR.out,Nat.add_mul,Nat.one_mul]
   ·rw [Nat.add_mul,Nat.one_mul];simp only [ByteArray.size_extract];omega
   ·exact .inr (by simp only [ByteArray.size_extract];omega)
   ·have e:=aF.out
    rw [jRK s r _ m HR.out] at e;rw [yWs,List.map_append];exact e
   ·simp only [ByteArray.size_extract];omega
  ·have aN:k<=1048576:=by have:k*1<=k*m:=Nat.mul_le_mul_left k (by omega);omega
   have aE:w.heap.size<=wr.heap.size:=aC.size;have HB:=hid aC;have HN:=hid (vyl s.size m k r.size (by omega) hr H0.out (by omega));have HO:=hid (aD.alloc (.cells #[.string r] 9));clear aC aD H0;go_wp2_with (at_builtin;refine WAL _ rfl _ _ 28 rfl w.heap.size Tryz.underlying28 HI.out rfl (by omega) _ k _ rfl HO.out ⟨wr.heap.size,0,none⟩ 1 1 [.string r] rfl rfl (World.news_of_block (heap_alloc_new wr _)) (by intro u hu;simp at hu;subst hu;rfl) (kWU aE _) (wr.heap.size+1) (by simp) ?_;intro g cap w3 aB aA aG aH;have aF:=hid aB;have aI:=hid (Qpc (HB.out.alloc aE _) HO.out aA (kWU aE _));clear aB aA aG);go_ret;refine ⟨g,cap,by rw [HN.out];rfl,(aF.out.lt g rfl).1,?_,aI.out⟩;have e:=kX5 aF.out;rw [HN.out,yWs,List.map_append];rw [j4J s r _ m HR.out (by omega)] at e;exact e
def JFN (l:Nat) (n:Int):Int:=if 1<=n/\n<=8 then (QgM l (56-n).toNat:Int) else 0
theorem J0I (s:ByteArray) (n:Int) (w:World) (hs:s.size<=1048576) :
  Calls Tryz.prog 92 #[.string s,.int .i64 n] w fun e w'=>e=.returned (.int .i64 (JFN s.size n))/\Below w.heap.size w w':=by
 unfold JFN
 by_cases hn:1<=n/\n<=8
 ·rw [if_pos hn]
  obtain ⟨m,rfl⟩:∃ m:Nat,n=(m:Int):=⟨n.toNat,by omega⟩;obtain ⟨q,hq⟩:∃ q:Nat,m+q=56:=⟨56-m,by omega⟩;rw [show (56-(m:Int)).toNat=q by omega];have hd:decide (1<=(m:Int)/\(m:Int)<=8)=true:=by simp;omega
  go_enter Tryz.func92,Tryz.ntmps92
  go_wp2_with (first | (go_at_call 30;refine (X3C _ _).mono ?_;rw [hd];rintro e w' ⟨rfl,rfl⟩) | (go_at_call 93;refine (q4g s m q _ hs hq (by omega) (by omega)).mono ?_;rintro e w2 ⟨g,c,rfl,hg,aA,hb⟩;clear aA))
  go_ret;exact ⟨rfl,hb⟩
 ·rw [if_neg hn]
  have hd:decide (1<=n/\n<=8)=false:=by simp;omega
  go_enter Tryz.func92,Tryz.ntmps92
  go_wp2_with (first | (go_at_call 30;refine (X3C _ _).mono ?_;rw [hd];rintro e w' ⟨rfl,rfl⟩))
  go_ret;exact ⟨rfl,Below.refl _ _⟩
def hv (n:Int):Int:=if 8<=n/\n<=200 then (n-2) / 2 else 0
theorem QQj (n:Int) (w:World):Calls Tryz.prog 74 #[.int .i64 n] w fun e w'=>e=.returned (.int .i64 (hv n))/\w'=w:=by
 by_cases h1:8<=n
 ·by_cases h2:n<=200
  ·have hh:hv n=(n-2) / 2:=by unfold hv;rw [if_pos ⟨h1,h2⟩]
   go_enter Tryz.func74,Tryz.ntmps74;go_wp2;go_ret;refine ⟨?_,rfl⟩;rw [hh];rfl
  ·have hh:hv n=0:=by unfold hv;rw [if_neg (fun x=>h2 x.2)]
   rw [hh];go_enter Tryz.func74,Tryz.ntmps74;go_wp2;go_ret;exact ⟨rfl,rfl⟩
 ·have hh:hv n=0:=by unfold hv;rw [if_neg (fun x=>h1 x.1)]
  rw [hh];go_enter Tryz.func74,Tryz.ntmps74;go_wp2;go_ret;exact ⟨rfl,rfl⟩
def kPX (s:ByteArray) (l f:Int) (n m N i:Nat):ByteArray:=ZQp (if i+1=N then 2 else 1) l (f+(i:Int)) (s.extract (i*m) (i*m+m)) (n:Int)
def Jw4 (l f:Int) (N:Nat):Bool:=decide (1<=l/\l<=60000/\1<=f/\f+(N:Int)<=1000000001)
def kkL (s:ByteArray) (l f:Int) (n m N k:Nat):List ByteArray:=(List.range k).map (kPX s l f n m N)
theorem Xu3 (s:ByteArray) (l f:Int) (n m N k:Nat):kkL s l f n m N (k+1)=kkL s l f n m N k++[kPX s l f n m N k]:=by simp [kkL,List.range_succ]
theorem xpG (s:ByteArray) (l f:Int) (n m N k:Nat):(kkL s l f n m N k).length=k:=by simp [kkL]
def zhI (s:ByteArray) (l f:Int) (n m:Nat):List ByteArray:=if Jw4 l f (QgM s.size m)=true then kkL s l f n m (QgM s.size m) (QgM s.size m) else []
theorem Xml (l m:Nat):QgM l m<=l+1:=by
 unfold QgM
 split
 ·omega
 ·have:=Nat.div_le_self (l-1) m;omega
theorem ksj (l m:Nat):0<QgM l m:=by
 unfold QgM
 split
 ·omega
 ·exact Nat.succ_pos _
theorem kjP (s:ByteArray) (a m:Nat):(s.extract a (a+m)).size<=m:=by simp only [ByteArray.size_extract];omega
theorem yE2 {s:ByteArray} {l f:Int} {n m N:Nat} (hN:N=QgM s.size m) (h:1<=l/\l<=60000/\1<=f/\f+(N:Int)<=1000000001):zhI s l f n m=kkL s l f n m N N:=by
 unfold zhI Jw4;rw [<-hN,if_pos (by simpa using h)]
theorem yIG {s:ByteArray} {l f:Int} {n m N:Nat} (hN:N=QgM s.size m) (h:¬ (1<=l/\l<=60000/\1<=f/\f+(N:Int)<=1000000001)):zhI s l f n m=[]:=by
 unfold zhI Jw4;rw [<-hN,if_neg (by simpa using h)]
def ynS (w w':World) (e:Ending) (ss:List ByteArray):Prop:=∃ a c,e=.returned (.slice a ss.length c)/\OwnS w' a (ss.map Value.string)/\(∀ g,blk a ss.length=some g->w.heap.size<=g)/\Below w.heap.size w w'
theorem ZIV {w w':World} {v:Value} {a:Option Addr} {c:Nat} (hv:v=.slice a 0 c) (hb:Below w.heap.size w w'):ynS w w' (.returned v) []:=⟨a,c,by rw [hv];rfl,.inl rfl,fun g h=>(by cases h),hb⟩
theorem XR6 {w w':World} {v:Value} {k:Nat} {e:TypeId} {ss:List ByteArray} (h:w'.ownsRow w.heap.size e 1 v k (ss.map Value.string)) (hk:k=ss.length) (hb:Below w.heap.size w w'):ynS w w' (.returned v) ss:=by
 rcases yUO h with ⟨h1,h2⟩ | ⟨g,cap,h1,h2,_,h3⟩
 ·have:ss=[]:=List.eq_nil_of_length_eq_zero (by omega)
  subst this;exact ZIV h1 hb
 ·subst hk
  refine ⟨_,cap,by rw [h1],.inr ⟨g,rfl,h3⟩,fun g' aA=>?_,hb⟩
  by_cases h0:ss.length=0
  ·rw [h0] at aA;cases aA
  ·rw [qdd g 0 _ h0] at aA;cases aA;exact h2
set_option maxRecDepth 4000 in
theorem yBz (s:ByteArray) (l f:Int) (n m:Nat) (w:World) (hs:s.size<=1048576) (hm:n+m=56) (h1:1<=n) (h2:n<=8) :
  Calls Tryz.prog 76 #[.string s,.int .i64 l,.int .i64 f,.int .i64 (n:Int)] w fun e w'=>ynS w w' e (zhI s l f n m):=by
 have hd:decide (1<=(n:Int)/\(n:Int)<=8)=true:=by simp;omega
 have aJ:∀ o,Below w.heap.size w (w.alloc o):=fun o=>(Below.refl _ _).alloc (Nat.le_refl _) _
 obtain ⟨N,HN⟩:∃ N,Hid (N=QgM s.size m):=⟨_,hid rfl⟩;have cE:N<=1048577:=by have:=Xml s.size m;rw [HN.out];omega
 have b7:0<N:=by rw [HN.out];exact ksj _ _
 obtain ⟨R,HR⟩:∃ R,Hid (R=zhI s l f n m):=⟨_,hid rfl⟩;rw [<-HR.out]
 by_cases bY:1<=l
 ·by_cases cF:l<=60000
  ·by_cases bZ:1<=f
   ·by_cases cC:f<=1000000000
    ·by_cases b8:(N:Int)<=1000000000-f+1
     ·have aF:Hid (R=kkL s l f n m N N):=by show _=_;rw [HR.out];exact yE2 HN.out (by omega)
      clear HR;obtain ⟨i0,aW,bH,bC,aT⟩:=info_parts ZXN;have HI:=hid (And.intro aW (And.intro bH (And.intro bC aT)));clear aW bH bC aT;go_enter Tryz.func76,Tryz.ntmps76
      go_wp2_with (first | (go_at_call 30;refine (X3C _ _).mono ?_;rw [hd];rintro e w2 ⟨rfl,rfl⟩) | (go_at_call 93;refine (q4g s n m _ hs hm h1 h2).mono ?_;rw [<-HN.out];rintro e w2 ⟨g,c,rfl,hg,aB,hb⟩;have aS:=hid aB;clear aB))
      simp only [World.size_alloc] at hg;have bQ:Below w.heap.size w w2:=(aJ _).trans (hb.mono (by simp));have aK:w2.ownsRow w.heap.size 9 1 (.slice (some ⟨w.heap.size,0,none⟩) 0 0) 0 []:=jcb (World.ownsRow_lit w #[] 0 (Nat.le_refl _) (by simp) (by simp)) hb;clear hb;go_loopw [9,11,12] (fun y i _ wr=>∃ k:Nat,k<=N/\i=.int .i64 k/\wr.ownsRow w.heap.size 9 1 y k ((kkL s l f n m N k).map Value.string)/\y.ownBlock≠some g/\Row wr g ((Qna s m N).map Value.string)/\Below w.heap.size w wr) (fun _ i _ _=>N-(intOf i).toNat)
      case atStart=>exact ⟨0,Nat.zero_le _,rfl,aK,by simp [Value.ownBlock];omega,aS.out,bQ⟩
      case round =>
       obtain ⟨k,hk,rfl,aH,aX,aB,aG⟩:=hrel
       by_cases bJ:k<N
       ·have hc:=aB.cell k (.string (s.extract (k*m) (k*m+m))) (by simp [Qna,bJ])
        obtain ⟨p,HP⟩:∃ p,Hid (p=s.extract (k*m) (k*m+m)):=⟨_,hid rfl⟩;rw [<-HP.out] at hc;have aY:p.size<=1048576:=by rw [HP.out];have:=kjP s (k*m) m;omega
        have bW:w.heap.size<=wr.heap.size:=aG.size;have bV:=aB.lt;have HB:=hid aG;have bU:=hid aB;have aI:=hid aH;clear aG aB aH;obtain ⟨F,HF⟩:∃ F,Hid (F=kPX s l f n m N k):=⟨_,hid rfl⟩;obtain ⟨kd,aL⟩:∃ kd:Int,kd=if k+1=N then 2 else 1:=⟨_,rfl⟩;have aV:Hid (ZQp kd l (f+(k:Int)) p (n:Int)=F):=by show _=_;rw [HF.out,HP.out,aL];rfl
        have bG:∀ (w5:World),Below wr.heap.size wr w5->∀ (w7:World) (g' cap:Nat),w7.ownsRow w.heap.size 9 1 (.slice (some ⟨g',0,none⟩) (k+1) cap) (k+1) ((kkL s l f n m N k).map Value.string++[.string F])->(w5.alloc (.cells #[.string F] 9)).grownBy w7 u9.ownBlock->(u9.ownBlock=some g'\/g'=w5.heap.size+1)->(∃ k':Nat,k'<=N/\Value.int .i64 ((k:Int)+1)=.int .i64 k'/\w7.ownsRow w.heap.size 9 1 (.slice (some ⟨g',0,none⟩) (k+1) cap) k' ((kkL s l f n m N k').map Value.string)/\(Value.slice (some ⟨g',0,none⟩) (k+1) cap).ownBlock≠some g/\Row w7 g ((Qna s m N).map Value.string)/\Below w.heap.size w w7):=fun w5 aD w7 g' cap bI aZ aO=>by
         have aU:=aD.size;refine ⟨k+1,by omega,by go_num,?_,?_,?_,?_⟩
         ·rw [Xu3,List.map_append,<-HF.out];exact bI
         ·rcases aO with aO | aO
          ·intro he;exact aX (aO.trans (by simpa [Value.ownBlock] using he))
          ·simp [Value.ownBlock];omega
         ·exact ((bU.out.below aD).alloc _).grown aZ (fun he=>aX he.symm)
         ·exact Qpc ((HB.out.trans (aD.mono bW)).alloc (by omega) _) ((jcb aI.out aD).alloc _) aZ (by simp;omega)
        have aN:=hid bG;clear bG
        by_cases aM:k+1=N
        ·have hq:((k:Int) == (N:Int)-1)=true:=by simp;omega
         rw [if_pos aM] at aL;subst aL;clear aM
         go_wp2_with (first | (go_at_call 20;refine (x4N 2 l (f+(k:Int)) p (n:Int) _ aY).mono ?_;rw [aV.out];rintro e w5 ⟨rfl,aD⟩;have aU:=aD.size;have aP:=hid ((jcb aI.out aD).alloc (.cells #[.string F] 9))) | (at_builtin;refine WAL _ rfl _ _ 28 rfl w.heap.size Tryz.underlying28 HI.out rfl (by omega) _ k _ rfl aP.out ⟨w5.heap.size,0,none⟩ 1 1 [.string F] rfl rfl (World.news_of_block (heap_alloc_new w5 _)) (by intro u hu;simp at hu;subst hu;rfl) (by simp;omega) (w5.heap.size+1) (by simp) ?_;intro g' cap w7 aC aA aE aQ;have aR:=hid (aN.out w5 aD w7 g' cap aC aA aE);clear aC aA aE))
         exact ⟨aR.out,by simp [intOf];omega⟩
        ·have hq:((k:Int) == (N:Int)-1)=false:=by simp;omega
         rw [if_neg aM] at aL;subst aL
         go_wp2_with (first | (go_at_call 20;refine (x4N 1 l (f+(k:Int)) p (n:Int) _ aY).mono ?_;rw [aV.out];rintro e w5 ⟨rfl,aD⟩;have aU:=aD.size;have aP:=hid ((jcb aI.out aD).alloc (.cells #[.string F] 9))) | (at_builtin;refine WAL _ rfl _ _ 28 rfl w.heap.size Tryz.underlying28 HI.out rfl (by omega) _ k _ rfl aP.out ⟨w5.heap.size,0,none⟩ 1 1 [.string F] rfl rfl (World.news_of_block (heap_alloc_new w5 _)) (by intro u hu;simp at hu;subst hu;rfl) (by simp;omega) (w5.heap.size+1) (by simp) ?_;intro g' cap w7 aC aA aE aQ;have aR:=hid (aN.out w5 aD w7 g' cap aC aA aE);clear aC aA aE))
         exact ⟨aR.out,by simp [intOf];omega⟩
       ·have aM:k=N:=by omega
        subst aM;have HO:=hid aH;clear aH aB;go_wp2;go_ret;rw [aF.out];exact XR6 HO.out (xpG _ _ _ _ _ _ _).symm aG
     ·have aF:Hid (R=[]):=by show _=_;rw [HR.out];exact yIG HN.out (by omega)
      clear HR;go_enter Tryz.func76,Tryz.ntmps76
      go_wp2_with (first | (go_at_call 30;refine (X3C _ _).mono ?_;rw [hd];rintro e w2 ⟨rfl,rfl⟩) | (go_at_call 93;refine (q4g s n m _ hs hm h1 h2).mono ?_;rw [<-HN.out];rintro e w2 ⟨g,c,rfl,hg,aB,hb⟩;clear aB))
      go_ret;rw [aF.out];exact ZIV rfl ((aJ _).trans (hb.mono (by simp)))
    ·have aF:Hid (R=[]):=by show _=_;rw [HR.out];exact yIG HN.out (by omega)
     clear HR;go_enter Tryz.func76,Tryz.ntmps76
     go_wp2_with (first | (go_at_call 30;refine (X3C _ _).mono ?_;rw [hd];rintro e w2 ⟨rfl,rfl⟩))
     go_ret;rw [aF.out];exact ZIV rfl (aJ _)
   ·have aF:Hid (R=[]):=by show _=_;rw [HR.out];exact yIG HN.out (by omega)
    clear HR;go_enter Tryz.func76,Tryz.ntmps76
    go_wp2_with (first | (go_at_call 30;refine (X3C _ _).mono ?_;rw [hd];rintro e w2 ⟨rfl,rfl⟩))
    go_ret;rw [aF.out];exact ZIV rfl (aJ _)
  ·have aF:Hid (R=[]):=by show _=_;rw [HR.out];exact yIG HN.out (by omega)
   clear HR;go_enter Tryz.func76,Tryz.ntmps76
   go_wp2_with (first | (go_at_call 30;refine (X3C _ _).mono ?_;rw [hd];rintro e w2 ⟨rfl,rfl⟩))
   go_ret;rw [aF.out];exact ZIV rfl (aJ _)
 ·have aF:Hid (R=[]):=by show _=_;rw [HR.out];exact yIG HN.out (by omega)
  clear HR;go_enter Tryz.func76,Tryz.ntmps76
  go_wp2_with (first | (go_at_call 30;refine (X3C _ _).mono ?_;rw [hd];rintro e w2 ⟨rfl,rfl⟩))
  go_ret;rw [aF.out];exact ZIV rfl (aJ _)
structure Grow (wS wr:World) (g0:Option Nat) (base:Nat) (e:TypeId) (size:Nat) (v:Value) (n:Nat) (xs:List Value):Prop where
 own:wr.ownsRow base e size v n xs
 gb:wS.grownBy wr g0
 at_:∀ k,v.ownBlock=some k->g0=some k\/wS.heap.size<=k
theorem Grow.start {w:World} {base:Nat} {e:TypeId} {size:Nat} {v:Value} {n:Nat} {xs:List Value} (h:w.ownsRow base e size v n xs):Grow w w v.ownBlock base e size v n xs:=⟨h,World.grownBy.refl _ _,fun k hk=>.inl hk⟩
theorem Grow.below {wS wr w':World} {g0:Option Nat} {base:Nat} {e:TypeId} {size:Nat} {v:Value} {n:Nat} {xs:List Value} (h:Grow wS wr g0 base e size v n xs) (hb:Below wr.heap.size wr w'):Grow wS w' g0 base e size v n xs :=
 ⟨jcb h.own hb,⟨hb.os.trans h.gb.os,hb.tape.trans h.gb.tape,hb.output.trans h.gb.output,Nat.le_trans h.gb.size hb.size,fun k hk aA=>(hb.block k (Nat.lt_of_lt_of_le hk h.gb.size)).trans (h.gb.block k hk aA)⟩,h.at_⟩
theorem ybR {wS wr w9:World} {g0 r:Option Nat} (h:wS.grownBy wr g0) (hg:wr.grownBy w9 r) (hr:∀ k,r=some k->g0=some k\/wS.heap.size<=k):wS.grownBy w9 g0 :=
 ⟨hg.os.trans h.os,hg.tape.trans h.tape,hg.output.trans h.output,Nat.le_trans h.size hg.size,fun k hk aA=>(hg.block k (Nat.lt_of_lt_of_le hk h.size) (fun e=>by
  rcases hr k e.symm with h1 | h1
  ·exact aA h1.symm
  ·omega)).trans (h.block k hk aA)⟩
theorem Grow.push {wS wr w9:World} {g0:Option Nat} {base:Nat} {e:TypeId} {size:Nat} {v v9:Value} {n n9 H:Nat} {xs aB:List Value} (h:Grow wS wr g0 base e size v n xs) (aA:w9.ownsRow base e size v9 n9 aB) (hg:wr.grownBy w9 v.ownBlock) (aC:v.ownBlock=v9.ownBlock\/v9.ownBlock=some H) (hH:wr.heap.size<=H):Grow wS w9 g0 base e size v9 n9 aB :=
 ⟨aA,ybR h.gb hg h.at_,fun k hk=>by
  rcases aC with h1 | h1
  ·exact h.at_ k (h1.trans hk)
  ·rw [h1] at hk;cases hk;exact .inr (Nat.le_trans h.gb.size hH)⟩
theorem Grow.trans {wS w4 wr:World} {g0:Option Nat} {base:Nat} {e:TypeId} {size:Nat} {v v':Value} {n n':Nat} {xs aA:List Value} (h:Grow wS w4 g0 base e size v n xs) (k:Grow w4 wr v.ownBlock base e size v' n' aA):Grow wS wr g0 base e size v' n' aA :=
 ⟨k.own,ybR h.gb k.gb h.at_,fun j hj=>by
  rcases k.at_ j hj with h1 | h1
  ·exact h.at_ j h1
  ·exact .inr (Nat.le_trans h.gb.size h1)⟩
theorem zRE {n:Nat} {w w':World} {r:Option Nat} (hg:w.grownBy w' r) (hn:n<=w.heap.size) (hr:∀ k,r=some k->n<=k):Below n w w' :=
 ⟨hg.os,hg.tape,hg.output,hg.size,fun k hk=>hg.block k (by omega) (fun e=>by have:=hr k e.symm;omega)⟩
theorem jsS {P:Program} {aH:Array Oper} {o:Oper} {a:Act} {w:World} {K:Act->World->Prop} {Q:Exit->Act->World->Prop} {E:Prop} (B:Nat)
  (aI:o.guard=none) (s x:Operand) (t:TypeId) (aG:o.op=.call { callee:=.builtin .append,args:=#[s,x],argTypes:=#[t,t] })
  (e:TypeId) (i:TypeInfo) (z:Value) (size aA:Nat) (ht:P.underlying t=some (.slice e)) (hi:P.info? e=some i) (hz:i.zero=some z) (aD:i.size=size) (aL:i.bytes=aA)
  (b:Nat) (hs:a.eval s=.slice (some ⟨b,0,none⟩) 0 0) (v:Value) (hx:a.eval x=v) (n:Nat) (news:List Value) (aC:Src P size t v n news w) (hl:news.length=n*size) (hn:n<=1048576) (aM:n*aA<=281474976710656) (hB:B<=w.heap.size) (aJ:z.cells.size=size)
  (h:∀ g cap wx,((n=0/\cap=0)\/(g=w.heap.size/\Row wx g news/\wx.ownsRow B e size (.slice (some ⟨g,0,none⟩) n cap) n news/\n≠0))->Below w.heap.size w wx->K (a.put o.dst (.slice (some ⟨g,0,none⟩) n cap)) wx) :
  if Region.wanted o (yielded aH a.tmps)=true then Oper.wp P o a w K Q else E:=by
 have hw:Region.wanted o (yielded aH a.tmps)=true:=by simp [Region.wanted,aI]
 rw [if_pos hw];subst aD aL
 by_cases h0:n=0
 ·subst h0
  have aF:news=[]:=List.eq_nil_of_length_eq_zero (by omega);subst aF;have aB:=run_append_room_src (P:=P) w t t o.type e i ht hi b 0 0 0 v 0 [] aC (by omega) (by simp) (by simp);unfold Oper.wp;simp [execOp,aG,resolve,invoke,builtin,hs,hx,aB,Result.andThen];exact h b 0 _ (.inl ⟨rfl,rfl⟩) (Below.refl _ _)
 ·have aE:(Builtin.firstCells i.size 0 (.slice (some ⟨b,0,none⟩) 0 0)).run P w.drew=.ok ([]:List Value).toArray w.drew:=run_firstCells_some w.drew i.size 0 _ 0 0 [] (by simp) (by simp)
  have aB:=run_append_grow_src (P:=P) w t t o.type e i z ht hi hz (some ⟨b,0,none⟩) 0 0 [] aE v n news aC (by omega) (by omega) (by rw [Nat.zero_add,nsc n (by omega)];exact aM);unfold Oper.wp;simp [execOp,aG,resolve,invoke,builtin,hs,hx,aB,Result.andThen];refine h w.heap.size _ _ (.inr ⟨rfl,?_,?_,h0⟩) ((Below.refl _ _).drew.alloc (Nat.le_refl _) _)
  ·have hr:=xER w.drew ((([]:List Value)++news).toArray++Builtin.zeroCells z.cells (grownCap w (0+n) 0 e-(0+n))) e
   refine ⟨by simp,fun j u hu=>?_,fun j hj=>?_⟩
   ·have:=hr.cell j u (by
     obtain ⟨hj,_⟩:=List.getElem?_eq_some_iff.1 hu
     simp [List.getElem?_append_left hj,hu])
    simpa using this
   ·have:=hr.froz j (by simp;omega)
    simpa using this
  ·have aN:=grownCap_ge w n 0 e
   have aK:=grownCap_le_maxLen w n 0 e (by unfold maxLen;omega);refine ⟨hl,.inr ⟨w.heap.size,_,_,rfl,hB,heap_alloc_new w.drew _,aN,aK,?_,?_⟩⟩
   ·simp [size_zeroCells,hl,aJ]
    rw [<-Nat.add_mul]
    congr 1
    omega
   ·simp [hl]
set_option maxRecDepth 4000 in
theorem kXs (a:Option Addr) (ss:List ByteArray) (c:Nat) (a':Option Addr) (ws:List (Int×ByteArray)) (c':Nat) (w:World) (h:Strs w a ss) (h':Wrs w a' ws) (hl:ss.length<=200) (bI:ws.length<=300) :
  Calls Tryz.prog 32 #[Zoj a ss.length c a' ws.length c'] w fun e w'=>∃ g c1 g' aK,e=.returned (Zoj (some ⟨g,0,none⟩) ss.length c1 (some ⟨g',0,none⟩) ws.length aK)/\OwnD w' (some ⟨g,0,none⟩) ss (some ⟨g',0,none⟩) ws/\(∀ k,blk (some ⟨g,0,none⟩) ss.length=some k->w.heap.size<=k)/\(∀ k,blk (some ⟨g',0,none⟩) ws.length=some k->w.heap.size<=k)/\((ws=[]/\aK=0)\/w'.ownsRow (w.heap.size+1+1) 97 2 (.slice (some ⟨g',0,none⟩) ws.length aK) ws.length (yaV ws)/\ws.length≠0)/\Below w.heap.size w w':=by
 obtain ⟨i0,aB,aG,aE,aD⟩:=q00 kDp;have HI:=hid (And.intro aB (And.intro aG (And.intro aE aD)));clear aB aG aE aD;obtain ⟨i1,aB,aG,aE,aD⟩:=q00 yGS;have aI:=hid (And.intro aB (And.intro aG (And.intro aE aD)));clear aB aG aE aD
 have bC:∀ o1 o2,Below w.heap.size w ((w.alloc o1).alloc o2):=fun o1 o2=>((Below.refl _ _).alloc (Nat.le_refl _) _).alloc (by simp) _
 go_enter Tryz.func32,Tryz.ntmps32;go_wp2_with fail;have aQ:=(Cx.new w (.slice a ss.length c) (.slice a' ws.length c') 31).below (zE5 _ (.cells #[.slice none 0 0,.slice none 0 0] 31));have rR:=kR4 (w.alloc (.cells #[.slice a ss.length c,.slice a' ws.length c'] 31)) #[.slice none 0 0,.slice none 0 0] 31 (w.heap.size+1) (by simp);have hB:=bC (.cells #[.slice a ss.length c,.slice a' ws.length c'] 31) (.cells #[.slice none 0 0,.slice none 0 0] 31);have aM:((w.alloc (.cells #[.slice a ss.length c,.slice a' ws.length c'] 31)).alloc (.cells #[.slice none 0 0,.slice none 0 0] 31)).heap.size=w.heap.size+1+1:=by simp
 obtain ⟨wy,aU⟩:∃ wy,wy=(w.alloc (.cells #[.slice a ss.length c,.slice a' ws.length c'] 31)).alloc (.cells #[.slice none 0 0,.slice none 0 0] 31):=⟨_,rfl⟩;rw [<-aU] at aQ rR hB aM ⊢;clear aU;have HX:=hid aQ;have HR:=hid rR;have HB:=hid hB;have aC:=hid aM;clear aQ rR hB aM;have aY:KeepC wy w.heap.size (.slice a ss.length c) (.slice a' ws.length c') wy:=⟨HX.out.c0,HX.out.c1,yRA (jXx (HR.out.cell 0 _ rfl)),yRA (jXx (HR.out.cell 1 _ rfl)),HR.out.froz 0 (by simp),HR.out.froz 1 (by simp),⟨rfl,rfl,rfl,Nat.le_refl _,fun _ _ _=>rfl⟩,by rw [aC.out];omega⟩;have HK:=hid aY;clear aY
 have aW:∀ wz,KeepC wy w.heap.size (.slice a ss.length c) (.slice a' ws.length c') wz->Below w.heap.size w wz:=fun wz hz=>HB.out.trans (jJX hz.2.2.2.2.2.2.1 (by rw [aC.out];omega) (fun g hg=>by injection hg with hg;omega))
 have aR:=hid aW;clear aW
 go_region_held3 (fun w'=>w'.cell? ⟨w.heap.size,0,none⟩=some (.slice a ss.length c)/\w'.cell? ⟨w.heap.size,1,none⟩=some (.slice a' ws.length c')/\w'.cell? ⟨w.heap.size+1,0,none⟩=some (JTS w' ⟨w.heap.size+1,0,none⟩)/\w'.cell? ⟨w.heap.size+1,1,none⟩=some (JTS w' ⟨w.heap.size+1,1,none⟩)/\w'.frozen? ⟨w.heap.size+1,0,none⟩=false/\w'.frozen? ⟨w.heap.size+1,1,none⟩=false/\wy.grownBy w' (some (w.heap.size+1))/\w.heap.size+1<w'.heap.size)
  (first | assumption | exact HK.out.below ((Below.refl _ _).drew) | exact KeepC.below (by assumption) (by assumption) | exact KeepC.below (by assumption) (zE5 _ _) | exact KeepC.set (KeepC.set (by assumption) 0 _) 1 _)
  (first | (refine qYc (by rfl) _ _ 28 (by rfl) 9 _ _ 1 16 Tryz.underlying28 HI.out.1 HI.out.2.1 HI.out.2.2.1 HI.out.2.2.2 _ (by rfl) _ (by rfl) ss.length _ (by exact QKc (h.below (aR.out _ (by assumption))) _ _ (by rfl) _) (by simp) (by omega) (by omega) ?_;intro g1 c1 aP aO aN) | (refine jsS (w.heap.size+1+1) (by rfl) _ _ 29 (by rfl) 97 _ _ 2 24 Tryz.underlying29 aI.out.1 aI.out.2.1 aI.out.2.2.1 aI.out.2.2.2 _ (by rfl) _ (by rfl) ws.length _ (by exact Qom (h'.below (aR.out _ (by assumption))) _ _ (by rfl) _) (by exact zPu ws) (by omega) (by omega) (by refine Nat.succ_le_of_lt (And.right (And.right (And.right (And.right (And.right (And.right (And.right (?_:KeepC wy w.heap.size (.slice a ss.length c) (.slice a' ws.length c') _))))))));assumption) (by rfl) ?_;intro g2 c2 aJ aS aH;have aL:ws.length=0\/(g2=_/\Row aJ g2 (yaV ws)):=(aS.imp (fun h=>h.1) (fun h=>⟨h.1,h.2.1⟩));have aX:=aS.imp id (fun h=>h.2.2);clear aS;have aT:KeepC wy w.heap.size (.slice a ss.length c) (.slice a' ws.length c') aJ:=KeepC.below (by assumption) aH))
 all_goals
  rename_i hHe;have aV:=hHe;clear hHe;have bH:=aR.out _ aV
  have aF:=by
   first
   | exact k1z w.heap.size (w.heap.size+1) aP aJ ss ws g1 g2 _ _ (Value.slice (some ⟨g1,0,none⟩) ss.length c1) (Value.slice (some ⟨g2,0,none⟩) ws.length c2) (by simp [aC.out]<;>omega) (by simp [aC.out]<;>omega) aO aH aN.size (Nat.le_refl _) aL
   | exact k1z w.heap.size (w.heap.size+1) aP aJ ss ws g1 g2 _ _ (Value.slice (some ⟨g1,0,none⟩) ss.length c1) (Value.slice (some ⟨g2,0,none⟩) ws.length c2) (by simp [aC.out]<;>omega) (by simp [aC.out]<;>omega) aO (Go.Proofs.YtcdojnnkjeakmaaGreatDoor.Below.then (zE5 aP _) (Nat.le_refl _) aH) aN.size (by simp) aL
  have aA:=hid aF;have aB:=jXx aT.2.2.1;have bG:=jXx aT.2.2.2.1;have aZ:=hid aX;clear aF aO aN aL aH aT aV aX;go_wp2;exact bodyPost_ret (v:=Zoj (some ⟨g1,0,none⟩) ss.length c1 (some ⟨g2,0,none⟩) ws.length c2) (by simp [results,Tryz.results32,go_sem,aB,bG]) rfl ⟨g1,c1,g2,c2,rfl,aA.out.1,aA.out.2.1,aA.out.2.2,aZ.out.imp (fun h=>⟨List.eq_nil_of_length_eq_zero h.1,h.2⟩) (fun h=>⟨ownsRow_setCell_below (ownsRow_setCell_below h.1 (a:=⟨w.heap.size+1,0,none⟩) (by show w.heap.size+1<_;omega) _) (a:=⟨w.heap.size+1,1,none⟩) (by show w.heap.size+1<_;omega) _,by have:=h.2;simpa using this⟩),bH⟩
section
structure RI (W w:World) (c0 c1 c2 c3:Value):Prop where
 size:W.heap.size+2<=w.heap.size
 bel:Below W.heap.size W w
 b0:w.cell? ⟨W.heap.size,0,none⟩=some c0
 b1:w.cell? ⟨W.heap.size,1,none⟩=some c1
 b2:w.cell? ⟨W.heap.size,2,none⟩=some c2
 b3:w.cell? ⟨W.heap.size,3,none⟩=some c3
section
variable {W w w':World} {c0 c1 c2 c3:Value}
theorem RI.drew (h:RI W w c0 c1 c2 c3):RI W w.drew c0 c1 c2 c3:=⟨h.size,h.bel.drew,h.b0,h.b1,h.b2,h.b3⟩
theorem RI.past (h:RI W w c0 c1 c2 c3) (hb:Below (W.heap.size+1) w w'):RI W w' c0 c1 c2 c3 :=
 have hs:=h.size
 ⟨Nat.le_trans hs hb.size,h.bel.trans (hb.mono (by omega)),(hb.cell (p:=⟨_,0,none⟩) (by show W.heap.size<_;omega)).trans h.b0,(hb.cell (p:=⟨_,1,none⟩) (by show W.heap.size<_;omega)).trans h.b1,
  (hb.cell (p:=⟨_,2,none⟩) (by show W.heap.size<_;omega)).trans h.b2,(hb.cell (p:=⟨_,3,none⟩) (by show W.heap.size<_;omega)).trans h.b3⟩
theorem RI.below (h:RI W w c0 c1 c2 c3) (hb:Below w.heap.size w w'):RI W w' c0 c1 c2 c3:=h.past (hb.mono (by have:=h.size;omega))
theorem RI.wrote {o:Nat} {ys:List Int} (h:RI W w c0 c1 c2 c3) (hw:Wrote w w' (W.heap.size+1) o ys):RI W w' c0 c1 c2 c3:=h.past (hw.below (Nat.le_refl _))
theorem RI.toS (h:RI W w c0 c1 c2 c3):w.cell? ⟨W.heap.size,0,none⟩=some c0/\w.cell? ⟨W.heap.size,1,none⟩=some c1/\w.cell? ⟨W.heap.size,2,none⟩=some c2/\w.cell? ⟨W.heap.size,3,none⟩=some c3/\RI W w c0 c1 c2 c3:=⟨h.b0,h.b1,h.b2,h.b3,h⟩
theorem RI.ofS (h:w.cell? ⟨W.heap.size,0,none⟩=some c0/\w.cell? ⟨W.heap.size,1,none⟩=some c1/\w.cell? ⟨W.heap.size,2,none⟩=some c2/\w.cell? ⟨W.heap.size,3,none⟩=some c3/\RI W w c0 c1 c2 c3):RI W w c0 c1 c2 c3:=h.2.2.2.2
end
theorem yvh {P:Program} {c:Code} {Q:Exit->Act->World->Prop} {a:Act} (w:World) (c0 c1 c2 c3:Value) (t1 t2:TypeId)
  (h:∀ wa,RI w wa c0 c1 c2 c3->Fm wa (w.heap.size+1) [0,0,0,0,0]->c.wp P Q a wa) :
  c.wp P Q a ((w.alloc (.cells #[c0,c1,c2,c3] t1)).alloc (.cells #[.int .u8 0,.int .u8 0,.int .u8 0,.int .u8 0,.int .u8 0] t2)):=by
 refine h _ ⟨by simp,((Below.refl _ _).alloc (Nat.le_refl _) _).alloc (by simp) _,by simp,by simp,by simp,by simp⟩ ⟨fun i hi=>?_,fun i hi=>?_⟩
 ·rw [World.cell?_alloc_at _ _ _ _ (by simp)]
  have aA:i<5:=hi;have:i=0\/i=1\/i=2\/i=3\/i=4:=by omega
  rcases this with h | h | h | h | h<;>subst h<;>rfl
 ·rw [frozen?_alloc_cells,frozen?_alloc_cells]
  exact jWQ _ _ _ (by omega)
theorem ju5 (h f:Int) {aB aA:List Int} (h1:aB=spl [0,0,0,0,0] 0 (be 1 h)) (h2:aA=spl aB 1 (be 4 f)):strOfNums aA=ySc h f:=by
 have a1:(be 1 h).length=1:=XHU _ _;have a2:(be 4 f).length=4:=XHU _ _;unfold ySc;rw [<-zQR];subst h1 h2
 congr 1
theorem zrQ (t h f l n:Int) (w:World) (aB:¬ jJV h f):Calls Tryz.prog 5 #[yDp t h f l,.int .i64 n] w fun e w'=>e=.returned (.string ByteArray.empty)/\Below w.heap.size w w':=by
 have aC:∀ o,Below w.heap.size w (w.alloc o):=fun o=>(Below.refl _ _).alloc (Nat.le_refl _) _
 unfold jJV at aB
 by_cases d1:0<=h/\h<=1
 ·have aA:decide (0<=h/\h<=1)=true:=decide_eq_true d1
  have aD:decide (1<=f/\f<=999999000)=false:=by simp;omega
  clear aB d1;go_enter Tryz.func5,Tryz.ntmps5
  go_wp2_with (first | (go_at_call 16;refine (qe3 _ _).mono ?_;rw [aA];rintro e w1 ⟨rfl,rfl⟩) | (go_at_call 17;refine (QRu _ _).mono ?_;rw [aD];rintro e w2 ⟨rfl,rfl⟩))
  go_ret;exact ⟨rfl,aC _⟩
 ·have aA:decide (0<=h/\h<=1)=false:=decide_eq_false d1
  clear aB d1;go_enter Tryz.func5,Tryz.ntmps5
  go_wp2_with (first | (go_at_call 16;refine (qe3 _ _).mono ?_;rw [aA];rintro e w1 ⟨rfl,rfl⟩))
  go_ret;exact ⟨rfl,aC _⟩
set_option maxRecDepth 4000 in
theorem vyK (t h f l n:Int) (w:World) (aW:jJV h f):Calls Tryz.prog 5 #[yDp t h f l,.int .i64 n] w fun e w'=>e=.returned (.string (ZQp 4 l t (ySc h f) n))/\Below w.heap.size w w':=by
 obtain ⟨h1,h2,h3,h4⟩:=aW;have d1:decide (0<=h/\h<=1)=true:=by simp;omega
 have d2:decide (1<=f/\f<=999999000)=true:=by simp;omega
 have u1:IntKind.u64.wrap h=h:=khQ h (by omega) (by omega);have u2:IntKind.u64.wrap f=f:=khQ f (by omega) (by omega);obtain ⟨pt,aP⟩:∃ pt,Hid (pt=ySc h f):=⟨_,vvj rfl⟩;rw [<-aP.out];go_enter Tryz.func5,Tryz.ntmps5
 go_wp2_with (first | (go_at_call 16;refine (qe3 _ _).mono ?_;rw [d1];rintro e w1 ⟨rfl,rfl⟩) | (go_at_call 17;refine (QRu _ _).mono ?_;rw [d2];rintro e w2 ⟨rfl,rfl⟩))
 refine yvh w (.int .i64 t) (.int .i64 h) (.int .i64 f) (.int .i64 l) _ _ ?_;intro wa aI aB;have aS:=vvj aI.toS;clear aI
 go_region_held3 (fun w'=>w'.cell? ⟨w.heap.size,0,none⟩=some (.int .i64 t)/\w'.cell? ⟨w.heap.size,1,none⟩=some (.int .i64 h)/\w'.cell? ⟨w.heap.size,2,none⟩=some (.int .i64 f)/\w'.cell? ⟨w.heap.size,3,none⟩=some (.int .i64 l)/\RI w w' (.int .i64 t) (.int .i64 h) (.int .i64 f) (.int .i64 l))
  (first | assumption | exact (RI.ofS aS.out).drew.toS | exact (RI.wrote (RI.ofS (by assumption)) (by assumption)).toS)
  (first | (go_at_call 18;refine (yfG (w.heap.size+1) 0 1 5 h _ (by omega) (by omega) (by omega) (fun i hi=>⟨_,aB.drew.cell (0+i) (by simp;omega)⟩) (fun i hi=>aB.drew.froz (0+i) (by simp;omega))).mono ?_;rintro e wb ⟨rfl,aR⟩))
 have aF:RI w wb (.int .i64 t) (.int .i64 h) (.int .i64 f) (.int .i64 l):=RI.ofS (by assumption);have aA:=aB.drew.wrote aR (by rw [XHU];simp);obtain ⟨aK,aL⟩:∃ aK,Hid (aK=spl [0,0,0,0,0] 0 (be 1 h)):=⟨_,vvj rfl⟩;have aE:aK.length=5:=by rw [aL.out,yi3 _ _ _ (by rw [XHU];simp)];rfl
 rw [<-aL.out] at aA;clear aS aR aB;go_wp2_with fail;have aT:=vvj aF.toS;clear aF
 go_region_held3 (fun w'=>w'.cell? ⟨w.heap.size,0,none⟩=some (.int .i64 t)/\w'.cell? ⟨w.heap.size,1,none⟩=some (.int .i64 h)/\w'.cell? ⟨w.heap.size,2,none⟩=some (.int .i64 f)/\w'.cell? ⟨w.heap.size,3,none⟩=some (.int .i64 l)/\RI w w' (.int .i64 t) (.int .i64 h) (.int .i64 f) (.int .i64 l))
  (first | assumption | exact (RI.ofS aT.out).drew.toS | exact (RI.wrote (RI.ofS (by assumption)) (by assumption)).toS)
  (first | (go_at_call 18;refine (yfG (w.heap.size+1) 1 4 4 f _ (by omega) (by omega) (by omega) (fun i hi=>⟨_,aA.drew.cell (1+i) (by rw [aE];omega)⟩) (fun i hi=>aA.drew.froz (1+i) (by rw [aE];omega))).mono ?_;rintro e wc ⟨rfl,aQ⟩))
 have aH:RI w wc (.int .i64 t) (.int .i64 h) (.int .i64 f) (.int .i64 l):=RI.ofS (by assumption);have aD:=aA.drew.wrote aQ (by rw [XHU,aE];omega);obtain ⟨aG,aN⟩:∃ aG,Hid (aG=spl aK 1 (be 4 f)):=⟨_,vvj rfl⟩;have bC:aG.length=5:=by rw [aN.out,yi3 _ _ _ (by rw [XHU,aE];omega),aE]
 rw [<-aN.out] at aD;have aM:strOfNums aG=ySc h f:=ju5 h f aL.out aN.out;rw [<-aP.out] at aM;have aZ:pt.size<=1048576:=by rw [<-aM,strOfNums_size,bC];omega
 have aU:∀ wx,Fm wx (w.heap.size+1) aG->(convert 22 9 (.slice (some ⟨w.heap.size+1,0,none⟩) 5 5)).run Tryz.prog wx=.ok (.string pt) wx:=fun wx hf=>by
  have:=hf.text (P:=Tryz.prog) 22 5 9 Tryz.underlying22 Tryz.underlying5 Tryz.underlying9 0 5 5 (by omega);rw [List.drop_zero,List.take_of_length_le (by omega),aM] at this;exact this
 have aO:=vvj aU;have aV:=vvj aD;clear aT aQ aA aD aU;go_wp2_with fail;have aC:=vvj aH.toS;clear aH;have aX:w.heap.size+1<wc.heap.size:=by have:=(RI.ofS aC.out).size;omega
 go_region_held3 (fun w'=>(convert 22 9 (.slice (some ⟨w.heap.size+1,0,none⟩) 5 5)).run Tryz.prog w'=.ok (.string pt) w'/\w'.cell? ⟨w.heap.size,0,none⟩=some (.int .i64 t)/\w'.cell? ⟨w.heap.size,3,none⟩=some (.int .i64 l)/\RI w w' (.int .i64 t) (.int .i64 h) (.int .i64 f) (.int .i64 l))
  (first | assumption | exact ⟨aO.out _ aV.out.drew,(RI.ofS aC.out).drew.b0,(RI.ofS aC.out).drew.b3,(RI.ofS aC.out).drew⟩ | exact ⟨aO.out _ (aV.out.drew.below aJ aX),((RI.ofS aC.out).drew.below aJ).b0,((RI.ofS aC.out).drew.below aJ).b3,(RI.ofS aC.out).drew.below aJ⟩)
  (first | (go_at_call 19;refine (zCm 4 l t pt n _ aZ).mono ?_;rintro e w4 ⟨rfl,aJ⟩))
 rename_i hSl;have aY:=hSl.2.2.2.bel;clear hSl;go_wp2;go_ret;exact ⟨rfl,aY⟩
theorem xIt (t h f l n:Int) (w:World):Calls Tryz.prog 5 #[yDp t h f l,.int .i64 n] w fun e w'=>e=.returned (.string (QCt t h f l n))/\Below w.heap.size w w':=by
 unfold QCt
 by_cases aA:jJV h f
 ·rw [if_pos aA];exact vyK t h f l n w aA
 ·rw [if_neg aA];exact zrQ t h f l n w aA
end
section
section
variable {P:Program} {e t:TypeId} {i:TypeInfo} {n:Nat}
theorem qyk (he:∀ w,(isAgg e).run P w=.ok false w) (xs:List Int) (j:Nat) (hj:j<xs.length) (w:World):(part e (xs.map (Value.int .u8)).toArray j).run P w=.ok (.int .u8 (xs.getD j 0)) w:=by
 unfold part;simp [he,Result.andThen,hj,List.getD]
theorem qYb (hu:P.underlying e=some (.int .u8)) (d:Nat) (a b:Int) (w:World):(Op.equalIn (d+1) e (.int .u8 a) (.int .u8 b)).run P w=.ok (a == b) w:=by
 simp [Op.equalIn,run_underlying hu,Result.andThen]
theorem j7N (he:∀ w,(isAgg e).run P w=.ok false w) (hu:P.underlying e=some (.int .u8)) (d:Nat) (xs ys:List Int) (w:World):∀ (js:List Nat),(∀ j∈js,j<xs.length/\j<ys.length)->(Op.eqItems (d+1) e 1 (xs.map (Value.int .u8)).toArray (ys.map (Value.int .u8)).toArray js).run P w=.ok (js.all fun j=>xs.getD j 0 == ys.getD j 0) w
 | [],_=>by simp [Op.eqItems]
 | j::js,h=>by
  have hj:=h j (List.mem_cons_self);have ih:=j7N he hu d xs ys w js (fun q hq=>h q (List.mem_cons_of_mem _ hq));simp only [Op.eqItems,Sem.run_bind,Nat.mul_one,qyk he xs j hj.1,qyk he ys j hj.2,qYb hu,Result.andThen_ok]
  cases hc:(xs.getD j 0 == ys.getD j 0) with
  | false=>simp only [Bool.not_false,if_true,Sem.run_pure,List.all_cons,hc,Bool.false_and]
  | true=>simp only [Bool.not_true,Bool.false_eq_true,if_false,ih,List.all_cons,hc,Bool.true_and]
theorem XMo (xs ys:List Int) (hl:xs.length=ys.length):((List.range xs.length).all fun j=>xs.getD j 0 == ys.getD j 0)=decide (xs=ys):=by
 rw [Bool.eq_iff_iff];simp only [List.all_eq_true,List.mem_range,beq_iff_eq,decide_eq_true_eq]
 constructor
 ·intro h
  apply List.ext_getElem hl
  intro j h1 h2;have:=h j h1;simpa [List.getD,h1,h2] using this
 ·intro h j hj;rw [h]
theorem kFr (hu:P.underlying t=some (.array n e)) (hi:P.info? e=some i) (hc:P.cellsOf e=1) (he:∀ w,(isAgg e).run P w=.ok false w) (hb:P.underlying e=some (.int .u8)) (xs ys:List Int) (hx:xs.length=n) (hy:ys.length=n) (w:World) :
  (binOp .neq t (.agg (xs.map (Value.int .u8)).toArray) (.agg (ys.map (Value.int .u8)).toArray)).run P w=.ok (.bool (!decide (xs=ys))) w:=by
 have h:=run_equalIn_array (w:=w) 9999 (xs.map (Value.int .u8)).toArray (ys.map (Value.int .u8)).toArray hu hi;rw [hc,<-hx,j7N he hb 9998 xs ys w (List.range xs.length) (fun j hj=>by have:=List.mem_range.1 hj;omega),XMo xs ys (by omega)] at h;simp only [binOp];simp [Op.equal,Op.maxDepth,h,Result.andThen]
end
end
theorem Q9a (w:World) (o:Obj):(w.alloc o).heap[w.heap.size]?=some o:=by
 show (w.heap.push o)[w.heap.size]?=some o;simp
theorem vek (w:World) (C:Array Value) (e:TypeId) (n i:Nat) (h:i<n):(w.alloc (.cells C e (n,n+1))).frozen? ⟨w.heap.size,i,none⟩=false:=by
 simp only [World.frozen?,Q9a];simp;omega
theorem kAT (w:World) (C:Array Value) (e:TypeId) (fr:Nat×Nat) (i:Nat):(w.alloc (.cells C e fr)).cell? ⟨w.heap.size,i,none⟩=C[i]?:=by
 simp only [World.cell?,Q9a];simp
theorem xUX (w:World) (p:ByteArray):∃ cap wB,(convert 9 22 (.string p)).run Tryz.prog w=.ok (.slice (some ⟨w.heap.size,0,none⟩) p.size cap) wB/\Below w.heap.size w wB/\wB.heap.size=w.heap.size+1/\Fm wB w.heap.size (zFD p)/\p.size<=cap:=by
 refine ⟨_,_,run_bytes_of_string w _ _ 5 p Tryz.underlying9 Tryz.underlying22 Tryz.underlying5,((Below.refl _ _).drew).alloc (Nat.le_refl _) _,by simp,⟨fun i hi=>?_,fun i hi=>?_⟩,grownCap_ge _ _ _ _⟩
 ·rw [vgz] at hi
  refine (kAT w.drew _ _ _ i).trans ?_;rw [bytesRow_at p _ i hi];have hl:i<p.data.toList.length:=hi;simp only [List.getD_eq_getElem?_getD,zFD,List.getElem?_map,List.getElem?_eq_getElem hl];rfl
 ·rw [vgz] at hi
  exact vek w.drew _ _ _ i (by unfold bytesRow;simp;omega)
theorem z3W {P:Program} {fn:Func} {p u:Tmp} {ty:TypeId} (h:fn.results=#[.cell p ty,.tmp u]) (aA:Array Value) (w:World) (b o:Nat) (hp:aA.getD p undef=.pointer (some ⟨b,o,none⟩))
  (cs:List Value) (d:TypeDesc) (hc:w.rangeAt b o cs) (hu:P.underlying ty=some d) (hd:d.isRow=true) (hi:(P.info? ty).map (·.size)=some cs.length):(results fn aA).run P w=.ok (.tuple #[.agg cs.toArray,aA.getD u undef]) w:=by
 have hl:=run_loadVar_mid (P:=P) w b o ty cs d hc hu hd hi;rw [results_cell_tmp h];simp [hp,asAddr,hl,Result.andThen]
set_option maxRecDepth 100000 in
theorem vmc (g n c m:Nat) (ps:List (List Int)) (w:World) (hp:PR w g ps) (hl:ps.length=n) (aH:n<=200) (hm:m<n) :
  Calls Tryz.prog 128 #[.slice (some ⟨g,0,none⟩) n c,.int .i64 (m:Int)] w fun e w'=>e=.returned (.tuple #[.agg ((ps.getD m []).map (Value.int .u8)).toArray,.bool true])/\Below w.heap.size w w':=by
 have aC:∀ o,(w.alloc o).rangeAt g (m*64) ((ps.getD m []).map (Value.int .u8)):=fun o=>(hp.below (zE5 w o)).range (k:=m) (by omega)
 have aB:=yEE hp.len (k:=m) (by omega);obtain ⟨x,HX⟩:∃ x,Hid (x=ps.getD m []):=⟨_,hid rfl⟩;rw [<-HX.out] at aC aB ⊢;have aD:(x.map (Value.int .u8)).toArray.size=64:=by simp [aB]
 have aA:Hid ((Tryz.prog.info? 86).map (·.size)=some (x.map (Value.int .u8)).length):=by show _=_;rw [List.length_map,aB];kernel_rfl
 have aE:=hid aC;have aF:¬ ((m:Int)<0):=by omega
 have aG:¬ (n<=m):=by omega
 clear aC;go_enter Tryz.func128,Tryz.ntmps128
 go_wp2_with (first | (with_reducible refine kVP 86 _ rfl ?_;refine wpList_load_mid rfl 86 _ rfl g (m*64) rfl (x.map (Value.int .u8)) _ (by exact aE.out _) Tryz.underlying86 rfl aA.out ?_) | (with_reducible refine JWC 86 _ _ rfl ?_;refine wpList_store_mid rfl 86 _ _ rfl w.heap.size 0 (x.map (Value.int .u8)).toArray rfl rfl (by rw [aD];exact (xER w _ _).there (by kernel_rfl)) (by rw [aD];kernel_rfl) (all_oneCell_toArray (xgE x)) ?_))
 refine bodyPost_ret (v:=.tuple #[.agg (x.map (Value.int .u8)).toArray,.bool true]) (z3W (p:=4) (u:=5) Tryz.results128 _ _ w.heap.size 0 rfl (x.map (Value.int .u8)) _ (World.rangeAt_setCells_same _ _ _ _ (by rw [List.length_map,aB];exact (xER w _ _).there (by kernel_rfl))) Tryz.underlying86 rfl aA.out) rfl ⟨rfl,?_⟩;exact Go.below_setCells (Nat.le_refl _) _ _ _ (zE5 _ _)
set_option maxRecDepth 100000 in
theorem rdr (a a':Option Addr) (n c n' c':Nat) (w:World) :
  Calls Tryz.prog 27 #[.agg #[.slice a n c,.slice a' n' c']] w fun e w'=>e=.returned (.iface 103 (.agg #[.slice a' n' c',.iface 69 (.slice a n c)]))/\Below w.heap.size w w':=by
 go_enter Tryz.func27,Tryz.ntmps27;go_wp2;go_ret;exact ⟨rfl,zE5 _ _⟩
theorem vOE (n:Nat) (w:World) (h1:8<=n) (h2:n<=200) :
  Calls Tryz.prog 11 #[.int .i64 (n:Int)] w fun e w'=>∃ g c a' c',e=.returned (Zoj (some ⟨g,0,none⟩) n c a' 0 c')/\w.heap.size<=g/\Row w' g ((List.replicate n vWo).map Value.string)/\Below w.heap.size w w':=by
 have aI:(8:Int)<=(n:Int):=by omega
 have aJ:(n:Int)<=200:=by omega
 have hd:decide (8<=(n:Int)/\(n:Int)<=200)=true:=decide_eq_true ⟨aI,aJ⟩;go_enter Tryz.func11,Tryz.ntmps11
 go_wp2_with (first | (go_at_call 36;refine (z0h _ _).mono ?_;rw [hd];rintro e w' ⟨rfl,rfl⟩) | (at_make;refine yIc rfl _ _ 69 rfl 86 _ 64 64 Tryz.underlying69 yqx n rfl rfl (by omega) (by omega) ?_;intro wx aA aF aM;rw [jDu] at aA))
 have aD:Below (w.alloc (.cells #[.slice none 0 0,.slice none 0 0] 31)).heap.size (w.alloc (.cells #[.slice none 0 0,.slice none 0 0] 31)) wx:=by simpa using aF
 simp only [World.size_alloc] at aA;have hp:=(Jvj aA).below ((Below.refl _ _).alloc (Nat.le_refl _) (.cells #[.slice (some ⟨w.heap.size+1,0,none⟩) n n,.slice none 0 0] 72));refine (v19 (some ⟨w.heap.size+1,0,none⟩) (List.replicate n (List.replicate 64 0)) n n none [] 0 0 (by simp) rfl _ hp (.inl rfl) h2 (by omega) (fun p hp=>by rw [List.eq_of_mem_replicate hp];simp) (fun p hp=>by simp at hp)).mono ?_;rintro e w3 ⟨a1,c1,a2,c2,rfl,ho,aG,aH,aE⟩;have aB:=aD.trans (((Below.refl _ _).alloc (Nat.le_refl _) _).trans (aE.mono (by simp)) |>.mono aD.size);have aL:w.heap.size+1<=wx.heap.size:=by have:=aD.size;simpa using this
 obtain ⟨g,rfl,hr⟩:=ho.s.resolve_left (qXV (by simp [q95];omega));have aK:w.heap.size+1<=g:=by have:=aG g (qdd g 0 n (by omega));simp at this;omega
 have aC:q95 (List.replicate n (List.replicate 64 0))=List.replicate n vWo:=by simp [q95,vWo]
 rw [aC] at hr;have q0:w3.cell? ⟨w.heap.size,0,none⟩=some (.slice none 0 0):=(aB.cell (p:=⟨w.heap.size,0,none⟩) (by simp)).trans (by go_simp);have q1:w3.cell? ⟨w.heap.size,1,none⟩=some (.slice none 0 0):=(aB.cell (p:=⟨w.heap.size,1,none⟩) (by simp)).trans (by go_simp);have f0:w3.frozen? ⟨w.heap.size,0,none⟩=false:=(aB.frozen (p:=⟨w.heap.size,0,none⟩) (by simp)).trans (by go_simp);have f1:w3.frozen? ⟨w.heap.size,1,none⟩=false:=(aB.frozen (p:=⟨w.heap.size,1,none⟩) (by simp)).trans (by go_simp);have HR:=hid hr;have HB:=hid (((Below.refl w.heap.size w).alloc (Nat.le_refl _) (.cells #[.slice none 0 0,.slice none 0 0] 31)).trans (aB.mono (by simp)));clear aB aE ho aG aH hp aA aD aF hr aC;go_wp2;refine bodyPost_ret (v:=Zoj (some ⟨g,0,none⟩) n c1 a2 0 c2) (by simp [results,Tryz.results11,go_sem,q0,q1]) rfl ⟨g,c1,a2,c2,rfl,by omega,?_,?_⟩
 ·exact (HR.out.other _ (by show w.heap.size≠g;omega) _).other _ (by show w.heap.size≠g;omega) _
 ·exact (HB.out.setCell (Nat.le_refl _) _).setCell (Nat.le_refl _) _
end Go.Proofs.YtcdojnnkjeakmaaGreatDoor
namespace Go.Proofs.YtcdojnnkjeakmaaGreatDoor
open Go.RowKit Go.ChangeShapes Go.WideShapes Go.Deep
section
variable {H:Type} {enc:TypeId×Value->H} {P:Program} {w:World} {base:Nat} {spare:Nat->Bool} {XbJ:Bool}
theorem zMd {a:Addr} {i:Nat} {v:Value} (h:w.cell? (a.add i)=some v) (h0:∃ u,w.cell? (a.add 0)=some u):∃ b o,a=⟨b,o,none⟩:=by
 obtain ⟨b,o,s⟩:=a;obtain ⟨u,hu⟩:=h0;have hs:s=none:=by simpa [Addr.add] using World.cell?_spot hu
 exact ⟨b,o,by rw [hs]⟩
theorem y6U (b o i:Nat):(⟨b,o,none⟩:Addr).add i=⟨b,o+i,none⟩:=by unfold Addr.add;split<;>simp_all
end
end Go.Proofs.YtcdojnnkjeakmaaGreatDoor
