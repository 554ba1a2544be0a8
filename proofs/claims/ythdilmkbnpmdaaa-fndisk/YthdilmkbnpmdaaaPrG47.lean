import Derived.Deep.RegionLaw
import Derived.Test.YthdilmkbnpmdaaaPrG35
set_option maxHeartbeats 16000000
set_option maxRecDepth 8000
set_option linter.unusedVariables false
set_option linter.unusedSimpArgs false
namespace Go.Proofs.Ythdilmkbnpmdaaa
open Go.RowKit
theorem infoStr':(Try.prog.info? 9).map (fun i=>(i.zero,i.size,i.bytes))=some (some (.string ByteArray.empty),1,16):=by kernel_rfl
theorem partw_s (n m:Nat) (w:World) (h:n+m=56) (h1:1<=n) (h2:n<=8):Calls Try.prog 60 #[.int .i64 (n:Int)] w fun e w'=>e=.returned (.int .i64 (m:Int))/\w'=w:=by
 have hm:(64-(n:Int)-8)=(m:Int):=by omega
 go_enter Try.func60,Try.ntmps60
 go_wp2
 go_ret
 exact ⟨by first | rfl | exact congrArg _ (congrArg _ hm),rfl⟩
theorem below_grown {W w w1:World} {e:TypeId} {size:Nat} {v:Value} {n B:Nat} {xs:List Value} (hb:Below B W w) (own:w.ownsRow B e size v n xs) (hg:w.grownBy w1 v.ownBlock) (hB:B<=w.heap.size):Below B W w1 :=
 hb.trans ⟨hg.os,hg.tape,hg.output,hg.size,fun k hk=>hg.block k (by omega) (fun he=>by have:=(own.lt k he.symm).1;omega)⟩
theorem own_alloc_size {w:World} {B:Nat} (h:B<=w.heap.size) (o:Obj):B<=(w.alloc o).heap.size:=by simp;omega
def pieces (s:ByteArray) (m k:Nat):List ByteArray:=(List.range k).map fun i=>s.extract (i*m) (i*m+m)
theorem pieces_succ (s:ByteArray) (m k:Nat):pieces s m (k+1)=pieces s m k++[s.extract (k*m) (k*m+m)]:=by simp [pieces,List.range_succ]
def nparts (l m:Nat):Nat:=if l=0 then 1 else (l-1) / m+1
theorem extract_eq_right (s:ByteArray) {a b c:Nat} (h:min (b-a) (s.size-a)=min (c-a) (s.size-a)):s.extract a b=s.extract a c:=by
 apply ByteArray.ext
 simp only [ByteArray.data_extract]
 exact Array.extract_eq_extract_right.2 h
theorem extract_rest (s r:ByteArray) (a m:Nat) (h:r=s.extract a s.size):r.extract m r.size=s.extract (a+m) s.size:=by
 subst h
 rw [ByteArray.extract_extract]
 apply extract_eq_right
 simp only [ByteArray.size_extract]
 omega
theorem extract_part (s r:ByteArray) (a m:Nat) (h:r=s.extract a s.size):r.extract 0 m=s.extract a (a+m):=by
 subst h
 rw [ByteArray.extract_extract,Nat.add_zero]
 apply extract_eq_right
 omega
theorem extract_all (s r:ByteArray) (a m:Nat) (h:r=s.extract a s.size) (hm:r.size<=m):r=s.extract a (a+m):=by
 subst h
 simp only [ByteArray.size_extract] at hm
 apply extract_eq_right
 omega
theorem nparts_eq (l m k r:Nat) (hm:0<m) (hr:k*m+r=l) (h0:k=0\/0<r) (h1:r<=m):nparts l m=k+1:=by
 unfold nparts
 by_cases hl:l=0
 ·rw [if_pos hl]
  rcases h0 with h0 | h0
  ·omega
  ·omega
 ·rw [if_neg hl]
  have:(l-1) / m=k:=by
   rw [Nat.div_eq_iff hm]
   rcases h0 with h0 | h0
   ·subst h0;omega
   ·omega
  omega
theorem parts_s (s:ByteArray) (n m:Nat) (w:World) (hs:s.size<=1048576) (h:n+m=56) (h1:1<=n) (h2:n<=8) :
  Calls Try.prog 73 #[.string s,.int .i64 (n:Int)] w fun e w'=>∃ g c,e=.returned (.slice (some ⟨g,0,none⟩) (nparts s.size m) c)/\w.heap.size<=g/\Row w' g ((pieces s m (nparts s.size m)).map Value.string)/\Below w.heap.size w w':=by
 obtain ⟨i0,hi0,hz0,hz1,hz2⟩:=info_parts infoStr'
 have HI:=hid (And.intro hi0 (And.intro hz0 (And.intro hz1 hz2)))
 clear hi0 hz0 hz1 hz2
 go_enter Try.func73,Try.ntmps73
 go_wp2_with (go_at_call 60;refine (partw_s n m _ h h1 h2).mono ?_;rintro e w' ⟨rfl,rfl⟩)
 go_loopw [0,5] (fun x y wr=>∃ (k:Nat) (r:ByteArray),x=.string r/\Hid (r=s.extract (k*m) s.size)/\k*m+r.size=s.size/\Hid (k=0\/0<r.size)/\wr.ownsRow w.heap.size 9 1 y k ((pieces s m k).map Value.string)/\Below w.heap.size w wr) (fun x _ _=>match x with | .string r=>r.size | _=>0)
 case atStart=>exact ⟨0,s,rfl,by show s=_;simp,by simp,.inl rfl,World.ownsRow_lit _ #[] 0 (Nat.le_refl _) (by simp) (by simp),(Below.refl _ _).alloc (Nat.le_refl _) _⟩
 case round =>
  obtain ⟨k,r,rfl,HR,hr,H0,hown,hbel⟩:=hrel
  by_cases hlt:m<r.size
  ·have hlt':(m:Int)<(r.size:Int):=by omega
   have hk1:k<=1048576:=by have:k*1<=k*m:=Nat.mul_le_mul_left k (by omega);omega
   have hsz:w.heap.size<=wr.heap.size:=hbel.size
   have HB:=hid hbel
   have HO:=hid (hown.alloc (.cells #[.string (r.extract 0 m)] 9))
   clear hbel hown
   go_wp2_with (at_builtin;refine WAL _ rfl _ _ 23 rfl w.heap.size Try.underlying23 HI.out rfl (by omega) _ k _ rfl HO.out ⟨wr.heap.size,0,none⟩ 1 1 [.string (r.extract 0 m)] rfl rfl (World.news_of_block (heap_alloc_new wr _)) (by intro u hu;simp at hu;subst hu;rfl) (own_alloc_size hsz _) (wr.heap.size+1) (by simp) ?_;intro g cap w3 hown3 hgrow hat hlt3;have HO3:=hid hown3;have HB3:=hid (below_grown (HB.out.alloc hsz _) HO.out hgrow (own_alloc_size hsz _));clear hown3 hgrow hat)
   refine ⟨⟨k+1,r.extract m r.size,rfl,?_,?_,?_,?_,HB3.out⟩,?_⟩
   ·show _=_
    rw [extract_rest s r _ m HR.out,Nat.add_mul,Nat.one_mul]
   ·rw [Nat.add_mul,Nat.one_mul];simp only [ByteArray.size_extract];omega
   ·exact .inr (by simp only [ByteArray.size_extract];omega)
   ·have e:=HO3.out
    rw [extract_part s r _ m HR.out] at e
    rw [pieces_succ,List.map_append]
    exact e
   ·simp only [ByteArray.size_extract];omega
  ·have hk1:k<=1048576:=by have:k*1<=k*m:=Nat.mul_le_mul_left k (by omega);omega
   have hsz:w.heap.size<=wr.heap.size:=hbel.size
   have HB:=hid hbel
   have HN:=hid (nparts_eq s.size m k r.size (by omega) hr H0.out (by omega))
   have HO:=hid (hown.alloc (.cells #[.string r] 9))
   clear hbel hown H0
   go_wp2_with (at_builtin;refine WAL _ rfl _ _ 23 rfl w.heap.size Try.underlying23 HI.out rfl (by omega) _ k _ rfl HO.out ⟨wr.heap.size,0,none⟩ 1 1 [.string r] rfl rfl (World.news_of_block (heap_alloc_new wr _)) (by intro u hu;simp at hu;subst hu;rfl) (own_alloc_size hsz _) (wr.heap.size+1) (by simp) ?_;intro g cap w3 hown3 hgrow hat hlt3;have HO3:=hid hown3;have HB3:=hid (below_grown (HB.out.alloc hsz _) HO.out hgrow (own_alloc_size hsz _));clear hown3 hgrow hat)
   go_ret
   refine ⟨g,cap,by rw [HN.out];rfl,(HO3.out.lt g rfl).1,?_,HB3.out⟩
   have e:=owns_row HO3.out
   rw [HN.out,pieces_succ,List.map_append]
   rw [extract_all s r _ m HR.out (by omega)] at e
   exact e
theorem width_s (n:Int) (w:World):Calls Try.prog 50 #[.int .i64 n] w fun e w'=>e=.returned (.bool (decide (1<=n/\n<=8)))/\w'=w:=by
 by_cases h1:1<=n
 ·by_cases h2:n<=8
  ·go_enter Try.func50,Try.ntmps50
   go_wp2
   go_ret
   exact ⟨by simp [h1,h2],rfl⟩
  ·go_enter Try.func50,Try.ntmps50
   go_wp2
   go_ret
   exact ⟨by simp [h2],rfl⟩
 ·go_enter Try.func50,Try.ntmps50
  go_wp2
  go_ret
  exact ⟨by simp;omega,rfl⟩
def npages (l:Nat) (n:Int):Int:=if 1<=n/\n<=8 then (nparts l (56-n).toNat:Int) else 0
theorem pages_s (s:ByteArray) (n:Int) (w:World) (hs:s.size<=1048576) :
  Calls Try.prog 72 #[.string s,.int .i64 n] w fun e w'=>e=.returned (.int .i64 (npages s.size n))/\Below w.heap.size w w':=by
 unfold npages
 by_cases hn:1<=n/\n<=8
 ·rw [if_pos hn]
  obtain ⟨m,rfl⟩:∃ m:Nat,n=(m:Int):=⟨n.toNat,by omega⟩
  obtain ⟨q,hq⟩:∃ q:Nat,m+q=56:=⟨56-m,by omega⟩
  rw [show (56-(m:Int)).toNat=q by omega]
  have hd:decide (1<=(m:Int)/\(m:Int)<=8)=true:=by simp;omega
  go_enter Try.func72,Try.ntmps72
  go_wp2_with (first | (go_at_call 50;refine (width_s _ _).mono ?_;rw [hd];rintro e w' ⟨rfl,rfl⟩) | (go_at_call 73;refine (parts_s s m q _ hs hq (by omega) (by omega)).mono ?_;rintro e w2 ⟨g,c,rfl,hg,hrow,hb⟩;clear hrow))
  go_ret
  exact ⟨rfl,hb⟩
 ·rw [if_neg hn]
  have hd:decide (1<=n/\n<=8)=false:=by simp;omega
  go_enter Try.func72,Try.ntmps72
  go_wp2_with (first | (go_at_call 50;refine (width_s _ _).mono ?_;rw [hd];rintro e w' ⟨rfl,rfl⟩))
  go_ret
  exact ⟨rfl,Below.refl _ _⟩
theorem sum_s (s:ByteArray) (w:World) (n:Nat) (hs:s.size<=1048576) (h1:1<=n) (h2:n<=8) :
  Calls Try.prog 76 #[.string s,.int .i64 (n:Int)] w fun e w'=>e=.returned (.string (sumN s n))/\Below w.heap.size w w':=by
 have hb1:=bytes1
 have h1':(1:Int)<=(n:Int):=by omega
 have h2':(n:Int)<=8:=by omega
 go_enter Try.func76,Try.ntmps76
 go_wp2
 go_loop [5,6] (fun v i=>∃ k:Nat,k<=s.size/\i=.int .i64 k/\v=.int .u64 (fnv (s.data.toList.take k))) (fun _ i=>s.size-(intOf i).toNat)
 case atStart=>exact ⟨0,Nat.zero_le _,rfl,rfl⟩
 case round =>
  obtain ⟨k,hk,rfl,rfl⟩:=hrel
  by_cases hlt:k<s.size
  ·have HS:Hid (fnv (s.data.toList.take (k+1))=fnvStep (fnv (s.data.toList.take k)) s[k]):=by show _=_;rw [take_snoc s k hlt,fnv_snoc]
   go_wp2
   go_round
   case rel=>exact ⟨k+1,by omega,by go_num,by rw [HS.out];rfl⟩
   case measure=>simp [intOf];omega
  ·have hke:s.data.toList.take k=s.data.toList:=List.take_of_length_le (by simp;omega)
   have HV:Hid (fnv (s.data.toList.take k)=fnv s.data.toList):=by show _=_;rw [hke]
   clear hke
   obtain ⟨x,HX⟩:∃ x,Hid (x=fnv s.data.toList):=⟨fnv s.data.toList,(rfl:fnv s.data.toList=fnv s.data.toList)⟩
   rw [HV.out,<-HX.out]
   have hx:0<=x/\x<=18446744073709551615:=by rw [HX.out];exact fnv_bd _
   go_wp2
   go_loopw [5,7,8] (fun v o i wr=>∃ k:Nat,k<=n/\i=.int .i64 k/\o=.string (strOfNums (be k x))/\v=.int .u64 (sh k x)/\Below w.heap.size w wr) (fun _ _ i _=>n-(intOf i).toNat)
   case atStart=>exact ⟨0,Nat.zero_le _,rfl,rfl,rfl,Below.refl _ _⟩
   case round =>
    obtain ⟨k,hk,rfl,rfl,rfl,hbel⟩:=hrel
    have hsb:=sh_bd k x hx.1 hx.2
    by_cases hlt:k<n
    ·have hz1:(strOfNums [sh k x % 256]).size<=1:=by rw [strOfNums_size];simp
     have hz2:(strOfNums (be k x)).size<=8:=by rw [strOfNums_size,be_length];omega
     go_wp2
     go_roundw
     case rel=>exact ⟨k+1,by omega,by go_num,by rw [be_succ,<-strOfNums_append];rfl,rfl,hbel.alloc hbel.size _⟩
     case measure=>simp [intOf];omega
    ·have hkn:k=n:=by omega
     subst hkn
     go_wp2
     go_ret
     exact ⟨ret_str (by unfold sumN;rw [HX.out]),hbel⟩
theorem ret_bool {a b:Bool} (h:a=b):Ending.returned (.bool a)=.returned (.bool b):=by rw [h]
def pageOk (k l m:Int) (p:ByteArray) (n:Int):Bool:=decide (1<=n/\n<=8/\1<=k/\k<=4/\1<=l/\l<=60000/\1<=m/\m<=1000000000/\(p.size:Int)<=56-n/\(k=3->p.size=0))
@[reducible] def pageV (k l m:Int) (p:ByteArray):Value:=.agg #[.int .i64 k,.int .i64 l,.int .i64 m,.string p]
theorem num_s (v:Int) (c:Nat) (w:World) (h0:0<=v) (h1:v<=9223372036854775807) (hc:c<=8) :
  Calls Try.prog 75 #[.int .i64 v,.int .i64 (c:Int)] w fun e w'=>e=.returned (.string (strOfNums (be c v)))/\Below w.heap.size w w':=by
 have hb1:=bytes1
 go_enter Try.func75,Try.ntmps75
 go_wp2
 go_loopw [0,5,6] (fun x o i wr=>∃ k:Nat,k<=c/\i=.int .i64 k/\o=.string (strOfNums (be k v))/\x=.int .i64 (sh k v)/\Below w.heap.size w wr) (fun _ _ i _=>c-(intOf i).toNat)
 case atStart=>exact ⟨0,Nat.zero_le _,rfl,rfl,rfl,Below.refl _ _⟩
 case round =>
  obtain ⟨k,hk,rfl,rfl,rfl,hbel⟩:=hrel
  have hsb:=sh_bd2 k v h0 h1
  by_cases hlt:k<c
  ·have hz1:(strOfNums [sh k v % 256]).size<=1:=by rw [strOfNums_size];simp
   have hz2:(strOfNums (be k v)).size<=8:=by rw [strOfNums_size,be_length];omega
   go_wp2
   go_roundw
   case rel=>exact ⟨k+1,by omega,by go_num,by rw [be_succ,<-strOfNums_append];rfl,rfl,hbel.alloc hbel.size _⟩
   case measure=>simp [intOf];omega
  ·have hkn:k=c:=by omega
   subst hkn
   go_wp2
   go_ret
   exact ⟨rfl,hbel⟩
theorem part_s (n:Int) (w:World) (h1:1<=n) (h2:n<=8):Calls Try.prog 60 #[.int .i64 n] w fun e w'=>e=.returned (.int .i64 (64-n-8))/\w'=w:=by
 go_enter Try.func60,Try.ntmps60
 go_wp2
 go_ret
 exact ⟨rfl,rfl⟩
theorem ok_s (k l m:Int) (p:ByteArray) (n:Int) (w:World) (hp:p.size<=1048576) :
  Calls Try.prog 74 #[pageV k l m p,.int .i64 n] w fun e w'=>e=.returned (.bool (pageOk k l m p n))/\Below w.heap.size w w':=by
 by_cases hn:1<=n/\n<=8
 ·obtain ⟨hn1,hn2⟩:=hn
  by_cases h1:1<=k/\k<=4/\1<=l/\l<=60000/\1<=m/\m<=1000000000
  ·obtain ⟨a1,a2,a3,a4,a5,a6⟩:=h1
   by_cases hz:(p.size:Int)<=64-n-8
   ·by_cases hk:k=3
    ·have hk':(k != 3)=false:=by simp [hk]
     have HK:Hid (k=3):=hk
     clear hk
     go_enter Try.func74,Try.ntmps74
     go_wp2
     go_quiet ((go_at_call 60;exact Calls.quiet_of_same (part_s _ _ hn1 hn2)))
     go_wp2
     go_ret
     refine ⟨ret_bool ?_,below_drewN ((Below.refl _ _).alloc (Nat.le_refl _) _) _⟩
     rw [isEmpty_size];unfold pageOk;have hk:=HK.out;apply decide_eq_decide.2;constructor<;>intro h<;>omega
    ·have hk':(k != 3)=true:=by simp [hk]
     go_enter Try.func74,Try.ntmps74
     go_wp2
     go_quiet ((go_at_call 60;exact Calls.quiet_of_same (part_s _ _ hn1 hn2)))
     go_wp2
     go_ret
     refine ⟨ret_bool ?_,below_drewN ((Below.refl _ _).alloc (Nat.le_refl _) _) _⟩
     unfold pageOk;symm;apply decide_eq_true;omega
   ·have hz':decide ((p.size:Int)<=64-n-8)=false:=by simpa using hz
    go_enter Try.func74,Try.ntmps74
    go_wp2
    go_quiet ((go_at_call 60;exact Calls.quiet_of_same (part_s _ _ hn1 hn2)))
    go_wp2
    go_ret
    refine ⟨ret_bool ?_,below_drewN ((Below.refl _ _).alloc (Nat.le_refl _) _) _⟩
    unfold pageOk;symm;apply decide_eq_false;intro h;omega
  ·have hf:pageOk k l m p n=false:=by unfold pageOk;apply decide_eq_false;intro h;omega
   have HF:Hid (pageOk k l m p n=false):=hf
   clear hf
   go_enter Try.func74,Try.ntmps74
   go_wp2
   all_goals (go_ret;exact ⟨ret_bool HF.out.symm,(Below.refl _ _).alloc (Nat.le_refl _) _⟩)
 ·have hd:decide (1<=n/\n<=8)=false:=by simpa using hn
  go_enter Try.func74,Try.ntmps74
  go_wp2_with (go_at_call 50;refine (width_s _ _).mono ?_;rw [hd];rintro e w' ⟨rfl,rfl⟩)
  go_ret
  refine ⟨ret_bool ?_,(Below.refl _ _).alloc (Nat.le_refl _) _⟩
  unfold pageOk;symm;apply decide_eq_false;intro h;omega
end Go.Proofs.Ythdilmkbnpmdaaa
