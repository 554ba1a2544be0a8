import Derived.Test.YtcoegjnjjdndjaaGreatDoorPrRpS
import Derived.Test.YtcoegjnjjdndjaaGreatDoorPrG40
import Derived.Laws.Bits64b
import Derived.Test.YtcoegjnjjdndjaaGreatDoorPrG36
import Derived.Test.YtcoegjnjjdndjaaGreatDoorPrG39
import Derived.WalkKit
import Derived.BigQuiet
import Derived.Deep.QuietTactic
import Derived.Deep.RegionHeld3
import Derived.Test.YtcoegjnjjdndjaaGreatDoorPrG44
import Derived.Test.YtcoegjnjjdndjaaGreatDoorPrG49
import Derived.Test.YtcoegjnjjdndjaaGreatDoorPrVStS
import Derived.Test.YtcoegjnjjdndjaaGreatDoorPrG38
set_option maxHeartbeats 16000000
set_option maxRecDepth 8000
set_option linter.unusedVariables false
set_option linter.unusedSimpArgs false
namespace Go.Proofs.YtcoegjnjjdndjaaGreatDoor
open Go.RowKit
theorem nums_range' (r:ByteArray):∀ y∈nums r,0<=y/\y<=255:=by
 intro y hy
 unfold nums at hy
 obtain ⟨c,_,rfl⟩:=List.mem_map.1 hy
 have:=UInt8.toNat_lt c
 omega
theorem nums_extract (b:ByteArray) (i j:Nat):nums (b.extract i j)=((nums b).take j).drop i:=by
 unfold nums
 rw [<-List.map_take,<-List.map_drop,ByteArray.data_extract,Array.toList_extract]
 simp [List.extract,List.drop_take]
theorem numOf_rng:∀ (k:Nat) (ys:List Int),ys.length=k->(∀ y∈ys,0<=y/\y<=255)->0<=numOf ys/\numOf ys<(256:Int) ^ k:=by
 intro k
 induction k with
 | zero=>intro ys hl _;have:ys=[]:=List.eq_nil_of_length_eq_zero hl;subst this;simp [numOf]
 | succ k ih =>
  intro ys hl hy
  have hne:ys≠[]:=by intro h;subst h;simp at hl
  have hd:=List.dropLast_concat_getLast hne
  have h1:=ih ys.dropLast (by simp;omega) (fun y h=>hy y (List.dropLast_subset _ h))
  have h2:=hy _ (List.getLast_mem hne)
  rw [<-hd,numOf_snoc,Int.pow_succ]
  omega
theorem numOf_one (y:Int):numOf [y]=y:=by simp [numOf]
theorem rp_fields (s:ByteArray) (n:Nat) (hs:s.size=64) (h2:n<=8) {b:ByteArray} (hb:b=s.extract n 64) :
  (rpN b:Int)=numOf (((nums s).drop (n+7)).take 1)/\rpK b=numOf (((nums s).drop n).take 1)/\rpL b=numOf (((nums s).drop (n+1)).take 2)/\rpM b=numOf (((nums s).drop (n+3)).take 4)/\rpP b=strOfNums (((nums s).drop (n+8)).take (rpN b)):=by
 have hn:nums b=(nums s).drop n:=by rw [hb,nums_extract,List.take_of_length_le (by rw [nums_length];omega)]
 have hbz:b.data.toList.length=64-n:=by have:=nums_length s;have h:=congrArg List.length hn;rw [List.length_drop,nums_length,nums_length,hs] at h;exact h
 have one:∀ i,i<64-n->numOf (((nums s).drop (n+i)).take 1)=((b.data.toList.getD i 0).toNat:Int):=fun i hi=>by
  rw [<-List.drop_drop,<-hn]
  unfold nums
  rw [<-List.map_drop,<-List.map_take,List.drop_eq_getElem_cons (by omega)]
  simp only [List.take_succ_cons,List.take_zero,List.map_cons,List.map_nil,numOf_one]
  rw [List.getD_eq_getElem?_getD,List.getElem?_eq_getElem (by omega)]
  rfl
 refine ⟨?_,?_,?_,?_,?_⟩
 ·rw [one 7 (by omega)];rfl
 ·have:=one 0 (by omega);rw [Nat.add_zero] at this;rw [this];rfl
 ·unfold rpL;rw [nums_extract,hn];simp [List.drop_take,List.drop_drop]
 ·unfold rpM;rw [nums_extract,hn];simp [List.drop_take,List.drop_drop]
 ·unfold rpP
  rw [<-strOfNums_nums (b.extract 8 (8+rpN b)),nums_extract,hn]
  simp [List.drop_take,List.drop_drop]
abbrev RtT:=Int×Int×Int×Int
def ptH (p:ByteArray):Int:=numOf ((nums p).take 1)
def ptF (p:ByteArray):Int:=numOf (((nums p).drop 1).take 4)
def rootOf (s:ByteArray) (a n:Int):Option RtT :=
 match rpRes s n with
 | none=>none
 | some (_,l,m,p)=>if p.size=5/\rtForm m (ptH p) (ptF p) l n=s/\m % 2=a then some (m,ptH p,ptF p,l) else none
theorem rpRes_some {s:ByteArray} {n k l m:Int} {p:ByteArray} (h:rpRes s n=some (k,l,m,p)):s.size=64/\formOf k l m p n=s/\1<=m/\m<=1000000000/\1<=l/\l<=60000/\p.size<=64:=by
 unfold rpRes at h
 split at h
 ·rename_i hh
  obtain ⟨h1,h2,h3,h4,h5⟩:=hh
  simp only [Option.some.injEq,Prod.mk.injEq] at h
  obtain ⟨rfl,rfl,rfl,rfl⟩:=h
  refine ⟨h3,h5,?_⟩
  have hok:pageOk (rpK (s.extract n.toNat 64)) (rpL (s.extract n.toNat 64)) (rpM (s.extract n.toNat 64)) (rpP (s.extract n.toNat 64)) n=true:=by
   cases hc:pageOk (rpK (s.extract n.toNat 64)) (rpL (s.extract n.toNat 64)) (rpM (s.extract n.toNat 64)) (rpP (s.extract n.toNat 64)) n with
   | true=>rfl
   | false =>
    exfalso
    unfold formOf at h5
    rw [hc,if_neg (by simp)] at h5
    rw [<-h5] at h3
    exact absurd h3 (by decide)
  have hd:=of_decide_eq_true (by unfold pageOk at hok;exact hok)
  omega
 ·cases h
theorem rootOf_turn {s:ByteArray} {a n:Int} {x:RtT} (h:rootOf s a n=some x):1<=x.1:=by
 unfold rootOf at h
 split at h
 ·cases h
 ·rename_i k l m p hp
  split at h
  ·simp only [Option.some.injEq] at h
   subst h
   exact (rpRes_some hp).2.2.1
  ·cases h
def rtMax (b:RtT) (o:Option RtT):RtT:=match o with
 | none=>b
 | some r=>if b.1<r.1 then r else b
def frOf (s0 s1:ByteArray) (n:Int):RtT:=rtMax (rtMax (0,0,1,0) (rootOf s0 0 n)) (rootOf s1 1 n)
def rtZ:RtT:=(0,0,0,0)
def rtStep (b r:RtT):RtT:=if b.1<r.1 then r else b
theorem fr_eq (s0 s1:ByteArray) (n:Int):(if rtStep (rtStep rtZ ((rootOf s0 0 n).getD rtZ)) ((rootOf s1 1 n).getD rtZ)=rtZ then ((0,0,1,0):RtT) else rtStep (rtStep rtZ ((rootOf s0 0 n).getD rtZ)) ((rootOf s1 1 n).getD rtZ))=frOf s0 s1 n:=by
 unfold frOf
 cases h0:rootOf s0 0 n with
 | none =>
  cases h1:rootOf s1 1 n with
  | none=>simp [rtStep,rtZ,rtMax]
  | some y =>
   have:=rootOf_turn h1
   obtain ⟨y1,y2,y3,y4⟩:=y
   have hy:(0:Int)<y1:=by show 0<y1;have:1<=y1:=this;omega
   have hne:¬ y1=0:=by omega
   simp [rtStep,rtZ,rtMax,hy,hne]
 | some x =>
  have hx1:=rootOf_turn h0
  obtain ⟨x1,x2,x3,x4⟩:=x
  have hx:(0:Int)<x1:=by have:1<=x1:=hx1;omega
  have hnx:¬ x1=0:=by omega
  cases h1:rootOf s1 1 n with
  | none =>
   have hl:¬ x1<0:=by omega
   simp [rtStep,rtZ,rtMax,hx,hnx,hl]
  | some y =>
   have hy1:=rootOf_turn h1
   obtain ⟨y1,y2,y3,y4⟩:=y
   have hny:¬ y1=0:=by have:1<=y1:=hy1;omega
   by_cases hxy:x1<y1
   ·simp [rtStep,rtZ,rtMax,hx,hnx,hxy,hny]
   ·simp [rtStep,rtZ,rtMax,hx,hnx,hxy,hny]
def goesP (wk wl k l:Int):Bool:=decide (wl<=l) && (if k=3 then decide (wk≠1) else (decide (k=1) || decide (k=2)) && (decide (wk≠1) || decide (wl=l)))
abbrev Scd:=List ByteArray×Int×Int
def scanP (S:Nat->ByteArray) (frm:Nat) (first n:Int):Nat->Nat->Int->Int->ByteArray->Scd->Scd
 | 0,_,_,_,_,out=>out
 | f+1,i,wk,wl,op,out =>
  match rpRes (S (frm+i)) n with
  | none=>out
  | some (k,l,m,p)=>if IntKind.i64.wrap (m-(i:Int))=first/\goesP wk wl k l=true then
    (if k=1 then scanP S frm first n f (i+1) k l (op++p) out
     else scanP S frm first n f (i+1) k l ByteArray.empty (if k=2 then out.1++[op++p] else out.1,(i:Int)+1,l))
   else out
theorem scanP_none {S:Nat->ByteArray} {frm:Nat} {first n:Int} {f i:Nat} {wk wl:Int} {op:ByteArray} {out:Scd} (h:rpRes (S (frm+i)) n=none):scanP S frm first n f i wk wl op out=out:=by
 cases f with
 | zero=>rfl
 | succ f=>rw [scanP,h]
theorem scanP_no {S:Nat->ByteArray} {frm:Nat} {first n:Int} {f i:Nat} {wk wl k l m:Int} {p op:ByteArray} {out:Scd} (h:rpRes (S (frm+i)) n=some (k,l,m,p)) (hn:¬ (IntKind.i64.wrap (m-(i:Int))=first/\goesP wk wl k l=true)):scanP S frm first n f i wk wl op out=out:=by
 cases f with
 | zero=>rfl
 | succ f=>rw [scanP,h];simp only;rw [if_neg hn]
theorem scanP_part {S:Nat->ByteArray} {frm:Nat} {first n:Int} {f i:Nat} {wk wl l m:Int} {p op:ByteArray} {out:Scd} (h:rpRes (S (frm+i)) n=some (1,l,m,p)) (hn:IntKind.i64.wrap (m-(i:Int))=first) (hg:goesP wk wl 1 l=true):scanP S frm first n (f+1) i wk wl op out=scanP S frm first n f (i+1) 1 l (op++p) out:=by
 rw [scanP,h];simp only;rw [if_pos ⟨hn,hg⟩,if_pos trivial]
theorem scanP_end {S:Nat->ByteArray} {frm:Nat} {first n:Int} {f i:Nat} {wk wl k l m:Int} {p op:ByteArray} {out:Scd} (h:rpRes (S (frm+i)) n=some (k,l,m,p)) (hn:IntKind.i64.wrap (m-(i:Int))=first) (hg:goesP wk wl k l=true) (hk:k≠1):scanP S frm first n (f+1) i wk wl op out=scanP S frm first n f (i+1) k l ByteArray.empty (if k=2 then out.1++[op++p] else out.1,(i:Int)+1,l):=by
 rw [scanP,h];simp only;rw [if_pos ⟨hn,hg⟩,if_neg hk]
def goesI (wk wl k l:Int):Bool:=if k=1\/k=2 then (decide (l=wl) || (!decide (wk=1) && decide (wl<l))) else if k=3 then decide (wl<=l) && !decide (wk=1) else false
theorem goes_eq (wk wl k l:Int):goesI wk wl k l=goesP wk wl k l:=by
 unfold goesI goesP
 rw [Bool.eq_iff_iff]
 by_cases h3:k=3
 ·subst h3
  simp
 ·by_cases h12:k=1\/k=2
  ·have hd:(decide (k=1) || decide (k=2))=true:=by simpa using h12
   rw [if_pos h12,if_neg h3,hd]
   by_cases h1:wk=1
   ·subst h1;simp;omega
   ·simp [h1];omega
  ·have hd:(decide (k=1) || decide (k=2))=false:=by simpa using h12
   rw [if_neg h12,if_neg h3,if_neg h3,hd]
   simp
theorem scanP_begin (S:Nat->ByteArray) (frm:Nat) (first n:Int) (f i:Nat) (wl:Int) (op:ByteArray) (out:Scd):scanP S frm first n f i 2 wl op out=scanP S frm first n f i 0 wl op out:=by
 cases f with
 | zero=>rfl
 | succ f =>
  rw [scanP,scanP]
  have:∀ k l,goesP 2 wl k l=goesP 0 wl k l:=fun k l=>by unfold goesP;simp
  simp only [this]
theorem scanP_size (S:Nat->ByteArray) (frm:Nat) (first n:Int):∀ (f i:Nat) (wk wl:Int) (op:ByteArray) (out:Scd) (B:Nat),op.size+64*f<=B->(∀ e∈out.1,e.size<=B)->(∀ e∈(scanP S frm first n f i wk wl op out).1,e.size<=B)/\(scanP S frm first n f i wk wl op out).1.length<=out.1.length+f
 | 0,i,wk,wl,op,out,B,_,h2=>⟨h2,by simp [scanP]⟩
 | f+1,i,wk,wl,op,out,B,h1,h2=>by
  rw [scanP]
  split
  ·exact ⟨h2,by omega⟩
  ·rename_i k l m p hp
   have hps:=(rpRes_some hp).2.2.2.2.2.2
   split
   ·split
    ·have:=scanP_size S frm first n f (i+1) k l (op++p) out B (by rw [ByteArray.size_append];omega) h2
     exact ⟨this.1,by omega⟩
    ·have:=scanP_size S frm first n f (i+1) k l ByteArray.empty (if k=2 then out.1++[op++p] else out.1,(i:Int)+1,l) B (by show 0+_<=_;omega) (by
      intro e he
      simp only at he
      split at he
      ·rw [List.mem_append] at he
       rcases he with he | he
       ·exact h2 e he
       ·simp at he;subst he;rw [ByteArray.size_append];omega
      ·exact h2 e he)
     refine ⟨this.1,Nat.le_trans this.2 ?_⟩
     simp only
     split
     ·simp;omega
     ·omega
   ·exact ⟨h2,by omega⟩
theorem scanP_used (S:Nat->ByteArray) (frm:Nat) (first n:Int):∀ (f i:Nat) (wk wl:Int) (op:ByteArray) (out:Scd),(0<=out.2.1/\out.2.1<=(i:Int))->0<=(scanP S frm first n f i wk wl op out).2.1/\(scanP S frm first n f i wk wl op out).2.1<=(i:Int)+f
 | 0,i,wk,wl,op,out,h=>by rw [scanP];omega
 | f+1,i,wk,wl,op,out,h=>by
  rw [scanP]
  split
  ·omega
  ·rename_i k l m p hp
   split
   ·split
    ·have:=scanP_used S frm first n f (i+1) k l (op++p) out (by omega)
     omega
    ·have:=scanP_used S frm first n f (i+1) k l ByteArray.empty (if k=2 then out.1++[op++p] else out.1,(i:Int)+1,l) (by show 0<=(i:Int)+1/\(i:Int)+1<=_;omega)
     omega
   ·omega
theorem scanP_life (S:Nat->ByteArray) (frm:Nat) (first n:Int):∀ (f i:Nat) (wk wl:Int) (op:ByteArray) (out:Scd),(scanP S frm first n f i wk wl op out).2.2=out.2.2\/(1<=(scanP S frm first n f i wk wl op out).2.2/\(scanP S frm first n f i wk wl op out).2.2<=60000)
 | 0,i,wk,wl,op,out=>.inl rfl
 | f+1,i,wk,wl,op,out=>by
  rw [scanP]
  split
  ·exact .inl rfl
  ·rename_i k l m p hp
   have hl:=rpRes_some hp
   split
   ·split
    ·exact scanP_life S frm first n f (i+1) k l (op++p) out
    ·rcases scanP_life S frm first n f (i+1) k l ByteArray.empty (if k=2 then out.1++[op++p] else out.1,(i:Int)+1,l) with h | h
     ·right
      rw [h]
      show 1<=l/\l<=60000
      omega
     ·exact .inr h
   ·exact .inl rfl
set_option maxHeartbeats 16000000 in
theorem readpage_s_any (s:ByteArray) (n:Int) (w:World) (hs:s.size<=1048576):Calls Tryz.prog 83 #[.string s,.int .i64 n] w fun e w'=>e=.returned (rpV (rpRes s n))/\Below w.heap.size w w':=by
 have hb0:∀ o,Below w.heap.size w (w.alloc o):=fun o=>(Below.refl _ _).alloc (Nat.le_refl _) _
 by_cases hn:1<=n/\n<=8
 ·obtain ⟨m,rfl⟩:∃ m:Nat,n=(m:Int):=⟨n.toNat,by omega⟩
  have hd:decide (1<=(m:Int)/\(m:Int)<=8)=true:=by simp;omega
  by_cases h64:s.size=64
  ·by_cases hN:rpN (s.extract m 64)<=56-m
   ·exact readpage_s s m w h64 (by omega) (by omega) hN
   ·have HR:=hid0 (rpRes_no (s:=s) (n:=(m:Int)) (fun hh=>hN (by have:=hh.2.2.2.1;rw [Int.toNat_natCast] at this;omega)))
    have hs':(s.size:Int)=64:=by omega
    obtain ⟨b,hb⟩:∃ b,s.extract m 64=b:=⟨_,rfl⟩
    have hbz:b.size=64-m:=by rw [<-hb];simp only [ByteArray.size_extract];omega
    obtain ⟨q,hq⟩:∃ q:Nat,b.size=q:=⟨_,rfl⟩
    have l7:7<b.size:=by omega
    have g7:=getb b 7 l7
    rw [hb] at hN
    obtain ⟨N,hN2⟩:∃ N,N=(b.data.toList.getD 7 0).toNat:=⟨_,rfl⟩
    rw [<-hN2] at g7
    have hNl:(64-(m:Int)-8)<(N:Int):=by have:rpN b=N:=hN2.symm;omega
    have hNb:N<=255:=by rw [hN2];have:=UInt8.toNat_lt (b.data.toList.getD 7 0);omega
    have hm7:(7:Int)<(q:Int):=by omega
    have hm1:m+q=64:=by omega
    clear hbz hN2 hN
    go_enter Tryz.func83,Tryz.ntmps83
    go_wp2_with (first | (go_at_call 39;refine (width_s _ _).mono ?_;rw [hd];rintro e w2 ⟨rfl,rfl⟩) | (go_at_call 125;refine (part_s _ _ (by omega) (by omega)).mono ?_;rintro e w2 ⟨rfl,rfl⟩))
    refine bodyPost_ret (v:=.tuple #[pageV 0 0 0 ⟨#[]⟩,.bool false]) (by simp [results,Tryz.results83,go_sem]) rfl ⟨by rw [HR.out];rfl,?_⟩
    exact hb0 _
  ·have HR:=hid0 (rpRes_no (s:=s) (n:=(m:Int)) (fun hh=>h64 hh.2.2.1))
   have hs':((s.size:Int) != 64)=true:=by simp;omega
   clear h64
   go_enter Tryz.func83,Tryz.ntmps83
   go_wp2_with (first | (go_at_call 39;refine (width_s _ _).mono ?_;rw [hd];rintro e w2 ⟨rfl,rfl⟩))
   refine bodyPost_ret (v:=.tuple #[pageV 0 0 0 ⟨#[]⟩,.bool false]) (by simp [results,Tryz.results83,go_sem]) rfl ⟨by rw [HR.out];rfl,?_⟩
   exact hb0 _
 ·have HR:=hid0 (rpRes_no (s:=s) (n:=n) (fun hh=>hn ⟨hh.1,hh.2.1⟩))
  have hd:decide (1<=n/\n<=8)=false:=by simpa using hn
  clear hn
  go_enter Tryz.func83,Tryz.ntmps83
  go_wp2_with (first | (go_at_call 39;refine (width_s _ _).mono ?_;rw [hd];rintro e w2 ⟨rfl,rfl⟩))
  refine bodyPost_ret (v:=.tuple #[pageV 0 0 0 ⟨#[]⟩,.bool false]) (by simp [results,Tryz.results83,go_sem]) rfl ⟨by rw [HR.out];rfl,?_⟩
  exact hb0 _
end Go.Proofs.YtcoegjnjjdndjaaGreatDoor
namespace Go.Proofs.YtcoegjnjjdndjaaGreatDoor
open Go.RowKit
@[reducible] def regV (v0 v1:Value) (frm size n:Int):Value:=.agg #[.iface 198 (.agg #[v0,v1]),.int .i64 frm,.int .i64 size,.int .i64 n]
abbrev Pgs (S:Nat->ByteArray) (frm:Nat) (n:Int) (size:Nat):Type:={ x:Nat // x<size/\(rpRes (S (frm+x)) n).isSome=true }
def pgAt (S:Nat->ByteArray) (frm:Nat) (n:Int) (x:Nat):Int×Int×Int×ByteArray:=(rpRes (S (frm+x)) n).getD (0,0,0,ByteArray.empty)
theorem pgAt_some {S:Nat->ByteArray} {frm:Nat} {n:Int} {size:Nat} (x:Pgs S frm n size) {k l m:Int} {p:ByteArray} (h:pgAt S frm n x.1=(k,l,m,p)):rpRes (S (frm+x.1)) n=some (k,l,m,p):=by
 unfold pgAt at h
 obtain ⟨y,hy⟩:=Option.isSome_iff_exists.1 x.2.2
 rw [hy] at h ⊢
 simp at h
 rw [h]
def Good {S:Nat->ByteArray} {frm:Nat} {n:Int} {size:Nat} (u:Nat) (pre:List (Pgs S frm n size)):Prop:=pre.map Subtype.val=List.range' u pre.length
theorem Good.nil {S:Nat->ByteArray} {frm:Nat} {n:Int} {size:Nat} (u:Nat):Good u ([]:List (Pgs S frm n size)):=rfl
theorem Good.snoc {S:Nat->ByteArray} {frm:Nat} {n:Int} {size:Nat} {u:Nat} {pre:List (Pgs S frm n size)} {x:Pgs S frm n size} (h:Good u (pre++[x])):Good u pre/\x.1=u+pre.length:=by
 unfold Good at h ⊢
 rw [List.map_append,List.length_append,List.length_singleton,List.range'_concat] at h
 have:=List.append_inj h (by simp)
 exact ⟨this.1,by simpa using this.2⟩
theorem Good.push {S:Nat->ByteArray} {frm:Nat} {n:Int} {size:Nat} {u:Nat} {pre:List (Pgs S frm n size)} {x:Pgs S frm n size} (h:Good u pre) (hx:x.1=u+pre.length):Good u (pre++[x]):=by
 unfold Good at h ⊢
 rw [List.map_append,List.length_append,List.length_singleton,List.range'_concat,h]
 simp [hx]
def Chn {S:Nat->ByteArray} {frm:Nat} {n:Int} {size:Nat} (first:Int) (RES:Scd) (u:Nat) (pre:List (Pgs S frm n size)) (wk wl:Int) (op:ByteArray) (out:Scd):Prop :=
 Good u pre->u+pre.length<=size/\scanP S frm first n (size-(u+pre.length)) (u+pre.length) wk wl op out=RES
section
variable {S:Nat->ByteArray} {frm:Nat} {n:Int} {size:Nat} {first:Int} {RES:Scd} {u:Nat} {pre:List (Pgs S frm n size)} {x:Pgs S frm n size} {wk wl k l m:Int} {p op:ByteArray} {out:Scd}
theorem num_eq {m first:Int} {x:Nat} (hm:0<=m/\m<=4294967296) (hf:-9223372036854775808<=first/\first<=9223372036854775807):IntKind.i64.wrap (m-(x:Int))=first<->m=IntKind.i64.wrap (first+(x:Int)):=by
 simp [IntKind.wrap,IntKind.bits,IntKind.signed]
 omega
theorem Chn.no (h:Chn first RES u pre wk wl op out) (hp:pgAt S frm n x.1=(k,l,m,p)) (hf:-9223372036854775808<=first/\first<=9223372036854775807) (hn:¬ (m=IntKind.i64.wrap (first+(x.1:Int))/\goesP wk wl k l=true)) (hg:Good u (pre++[x])):out=RES:=by
 obtain ⟨hg1,hx⟩:=hg.snoc
 obtain ⟨h1,h2⟩:=h hg1
 have hr:=pgAt_some x hp
 have hm:=rpRes_some hr
 rw [<-h2,<-hx]
 refine (scanP_no hr ?_).symm
 rw [num_eq (by omega) hf]
 exact hn
theorem Chn.part (h:Chn first RES u pre wk wl op out) (hp:pgAt S frm n x.1=(1,l,m,p)) (hf:-9223372036854775808<=first/\first<=9223372036854775807) (hm1:m=IntKind.i64.wrap (first+(x.1:Int))) (hgo:goesP wk wl 1 l=true):Chn first RES u (pre++[x]) 1 l (op++p) out:=by
 intro hg
 obtain ⟨hg1,hx⟩:=hg.snoc
 obtain ⟨h1,h2⟩:=h hg1
 have hr:=pgAt_some x hp
 have hm:=rpRes_some hr
 have hlt:=x.2.1
 rw [List.length_append,List.length_singleton]
 refine ⟨by omega,?_⟩
 rw [<-h2,show size-(u+pre.length)=(size-(u+(pre.length+1)))+1 by omega,<-hx,scanP_part hr ((num_eq (by omega) hf).2 hm1) hgo,show u+(pre.length+1)=x.1+1 by omega]
theorem Chn.end (h:Chn first RES u pre wk wl op out) (hp:pgAt S frm n x.1=(k,l,m,p)) (hf:-9223372036854775808<=first/\first<=9223372036854775807) (hm1:m=IntKind.i64.wrap (first+(x.1:Int))) (hgo:goesP wk wl k l=true) (hk:k≠1) (hg:Good u (pre++[x])) :
  Chn first RES (x.1+1) ([]:List (Pgs S frm n size)) k l ByteArray.empty (if k=2 then out.1++[op++p] else out.1,(x.1:Int)+1,l):=by
 intro _
 obtain ⟨hg1,hx⟩:=hg.snoc
 obtain ⟨h1,h2⟩:=h hg1
 have hr:=pgAt_some x hp
 have hm:=rpRes_some hr
 have hlt:=x.2.1
 refine ⟨by simp;omega,?_⟩
 rw [<-h2,show size-(u+pre.length)=(size-(x.1+1))+1 by omega,<-hx,scanP_end hr ((num_eq (by omega) hf).2 hm1) hgo hk]
 simp
theorem Chn.done (h:Chn first RES u pre wk wl op out) (hg:Good u pre) (he:size<=u+pre.length\/rpRes (S (frm+(u+pre.length))) n=none):out=RES:=by
 obtain ⟨h1,h2⟩:=h hg
 rw [<-h2]
 rcases he with he | he
 ·rw [show size-(u+pre.length)=0 by omega];rfl
 ·exact (scanP_none he).symm
end
end Go.Proofs.YtcoegjnjjdndjaaGreatDoor
namespace Go.Proofs.YtcoegjnjjdndjaaGreatDoor
open Go.RowKit
theorem or_step (y b:Int) (hy0:0<=y) (hy1:y<=1099511627776) (hb0:0<=b) (hb1:b<=255):bits .or .u64 (IntKind.u64.wrap (y*256)) (IntKind.u64.wrap b)=y*256+b:=by
 rw [wrap_u64_id _ (by omega) (by omega),wrap_u64_id _ (by omega) (by omega)]
 obtain ⟨Y,rfl⟩:∃ Y:Nat,y=(Y:Int):=⟨y.toNat,by omega⟩
 obtain ⟨C,rfl⟩:∃ C:Nat,b=(C:Int):=⟨b.toNat,by omega⟩
 have e:((Y:Int)*256)=((256*Y:Nat):Int):=by omega
 rw [e,bits_or_u64_nat _ _ (by omega) (by omega)]
 have:=Nat.two_pow_add_eq_or_of_lt (i:=8) (b:=C) (by omega) Y
 simp only [Nat.reducePow] at this
 rw [<-this]
 omega
theorem nopage_i (s:ByteArray) (ty:TypeId) (v:Value) (w:World) (hv:w.cell? ⟨1,0,none⟩=some (.iface ty v)):Calls Tryz.prog 168 #[.string s] w fun e w'=>e=.returned (.iface 227 (.pointer (some ⟨w.heap.size,0,none⟩)))/\w'=w.alloc (.cells #[.string s,.iface ty v] 251):=by
 go_enter Tryz.func168,Tryz.ntmps168
 go_wp2
 go_ret
 exact ⟨rfl,rfl⟩
theorem take_i (F o:Nat) (ys:List Int) (c:Nat) (w:World) (hr:∀ y∈ys,0<=y/\y<=255) (hl:ys.length<=4) (hc:∀ i,i<ys.length->w.cell? ⟨F,o+i,none⟩=some (.int .u8 (ys.getD i 0))):Calls Tryz.prog 153 #[.slice (some ⟨F,o,none⟩) ys.length c] w fun e w'=>e=.returned (.int .u64 (numOf ys))/\w'=w:=by
 have HC:=hid0 hc
 clear hc
 go_enter Tryz.func153,Tryz.ntmps153
 go_wp2
 go_loop [3,5,8] (fun x _ i=>∃ (k:Nat) (y:Int),k<=ys.length/\i=.int .i64 (k:Int)/\x=.int .u64 y/\Hid (y=numOf (ys.take k))/\0<=y/\Hid (y<(256:Int) ^ k)) (fun _ _ i=>ys.length-(intOf i).toNat)
 case atStart=>exact ⟨0,0,Nat.zero_le _,rfl,rfl,by show _=_;simp [numOf],by omega,by show _<_;simp⟩
 case round =>
  obtain ⟨k,y,hk,rfl,rfl,HY,hy0,HY1⟩:=hrel
  by_cases hlt:k<ys.length
  ·have hck:=HC.out k hlt
   obtain ⟨b,hb⟩:∃ b,ys.getD k 0=b:=⟨_,rfl⟩
   rw [hb] at hck
   obtain ⟨hb0,hb1⟩:0<=b/\b<=255:=by rw [<-hb];exact hr _ (by simp [List.getD,hlt])
   have hlt':(k:Int)<(ys.length:Int):=by omega
   have h256:(256:Int) ^ k<=16777216:=by
    have:k=0\/k=1\/k=2\/k=3:=by omega
    rcases this with h | h | h | h<;>rw [h]<;>decide
   have HN:Hid (y*256+b=numOf (ys.take (k+1))):=by
    show _=_
    rw [List.take_succ_eq_append_getElem hlt,numOf_snoc,<-HY.out,<-hb]
    simp [List.getD,hlt]
   have hst:=or_step y b hy0 (by have:=HY1.out;omega) hb0 hb1
   have HST:Hid (bits .or .u64 (IntKind.u64.wrap (y*256)) b=y*256+b):=by show _=_;rw [wrap_u64_id b (by omega) (by omega)] at hst;exact hst
   have hb2:0<=y*256+b:=by omega
   clear hst
   have H3:Hid (y*256+b<(256:Int) ^ (k+1)):=by show _<_;rw [Int.pow_succ];have:=HY1.out;omega
   clear hb h256
   go_wp2
   go_round
   case rel=>exact ⟨k+1,y*256+b,by omega,by go_num,congrArg _ HST.out,HN.out,hb2,H3.out⟩
   case measure=>simp [intOf];omega
  ·go_wp2
   go_ret
   refine ⟨ret_int' ?_,rfl⟩
   rw [HY.out,List.take_of_length_le (by omega)]
def prV (E:Addr) (o:Option (Int×Int×Int×ByteArray)):Value:=match o with
 | none=>.tuple #[pageV 0 0 0 ⟨#[]⟩,.iface 227 (.pointer (some E))]
 | some (k,l,m,p)=>.tuple #[pageV k l m p,.nilIface]
theorem take_fm (F:Nat) (xs:List Int) (hr:Hid (∀ y∈xs,0<=y/\y<=255)) (o k c:Nat) (hk:k<=4) (ho:o+k<=xs.length) (w:World) (hf:Fm w F xs) (V:Int) (hV:V=numOf ((xs.drop o).take k)):Calls Tryz.prog 153 #[.slice (some ⟨F,o,none⟩) k c] w fun e w'=>e=.returned (.int .u64 V)/\w'=w:=by
 have hl:((xs.drop o).take k).length=k:=by simp;omega
 have h:=take_i F o ((xs.drop o).take k) c w (fun y hy=>hr.out y (List.mem_of_mem_drop (List.mem_of_mem_take hy))) (by omega) (fun i hi=>by
  rw [hf.cell (o+i) (by omega)]
  rw [hl] at hi
  simp [List.getD,List.getElem?_take_of_lt hi,List.getElem?_drop])
 rw [hl,<-hV] at h
 exact h
set_option maxHeartbeats 16000000 in
theorem parse_no_width (s:ByteArray) (n:Int) (w:World) (ty:TypeId) (v:Value) (hv:w.cell? ⟨1,0,none⟩=some (.iface ty v)) (hg:1<w.heap.size) (hn:¬ (1<=n/\n<=8)):Calls Tryz.prog 165 #[.string s,.int .i64 n] w fun e w'=>(∃ E,e=.returned (prV E none))/\Below w.heap.size w w':=by
 have hd:decide (1<=n/\n<=8)=false:=by simpa using hn
 have hb0:∀ o o',Below w.heap.size w ((w.alloc o).alloc o'):=fun o o'=>((Below.refl _ _).alloc (Nat.le_refl _) _).alloc (by simp) _
 have hva:∀ o,(w.alloc o).cell? ⟨1,0,none⟩=some (.iface ty v):=fun o=>(World.cell?_alloc_past _ _ _ (by exact hg)).trans hv
 clear hn
 go_enter Tryz.func165,Tryz.ntmps165
 go_wp2_with (first | (go_at_call 57;refine (width_i _ _).mono ?_;rw [hd];rintro e w2 ⟨rfl,rfl⟩) | (go_at_call 168;refine (nopage_i _ ty v _ (hva _)).mono ?_;rintro e w2 ⟨rfl,rfl⟩))
 refine bodyPost_ret (v:=.tuple #[pageV 0 0 0 ⟨#[]⟩,.iface 227 (.pointer (some ⟨w.heap.size+1,0,none⟩))]) (by simp [results,Tryz.results165,go_sem]) rfl ⟨⟨_,rfl⟩,?_⟩
 exact hb0 _ _
set_option maxHeartbeats 16000000 in
theorem parse_no_size (s:ByteArray) (n:Int) (w:World) (ty:TypeId) (v:Value) (hv:w.cell? ⟨1,0,none⟩=some (.iface ty v)) (hg:1<w.heap.size) (hn:1<=n/\n<=8) (hs:s.size≠64):Calls Tryz.prog 165 #[.string s,.int .i64 n] w fun e w'=>(∃ E,e=.returned (prV E none))/\Below w.heap.size w w':=by
 have hd:decide (1<=n/\n<=8)=true:=by simpa using hn
 have hs':((s.size:Int) != 64)=true:=by simp;omega
 have hb0:∀ o o',Below w.heap.size w ((w.alloc o).alloc o'):=fun o o'=>((Below.refl _ _).alloc (Nat.le_refl _) _).alloc (by simp) _
 have hva:∀ o,(w.alloc o).cell? ⟨1,0,none⟩=some (.iface ty v):=fun o=>(World.cell?_alloc_past _ _ _ (by exact hg)).trans hv
 clear hn hs
 go_enter Tryz.func165,Tryz.ntmps165
 go_wp2_with (first | (go_at_call 57;refine (width_i _ _).mono ?_;rw [hd];rintro e w2 ⟨rfl,rfl⟩) | (go_at_call 168;refine (nopage_i _ ty v _ (hva _)).mono ?_;rintro e w2 ⟨rfl,rfl⟩))
 refine bodyPost_ret (v:=.tuple #[pageV 0 0 0 ⟨#[]⟩,.iface 227 (.pointer (some ⟨w.heap.size+1,0,none⟩))]) (by simp [results,Tryz.results165,go_sem]) rfl ⟨⟨_,rfl⟩,?_⟩
 exact hb0 _ _
structure RB (W w:World):Prop where
 size:W.heap.size+1<=w.heap.size
 bel:Below W.heap.size W w
 c0:w.cell? ⟨W.heap.size,0,none⟩=some (.int .i64 0)
 c1:w.cell? ⟨W.heap.size,1,none⟩=some (.int .i64 0)
 c2:w.cell? ⟨W.heap.size,2,none⟩=some (.int .i64 0)
 c3:w.cell? ⟨W.heap.size,3,none⟩=some (.string ⟨#[]⟩)
 f0:w.frozen? ⟨W.heap.size,0,none⟩=false
 f1:w.frozen? ⟨W.heap.size,1,none⟩=false
 f2:w.frozen? ⟨W.heap.size,2,none⟩=false
 f3:w.frozen? ⟨W.heap.size,3,none⟩=false
theorem RB.below {W w w':World} (h:RB W w) (hb:Below w.heap.size w w'):RB W w':=by
 have hs:=h.size
 have hc:∀ i,w'.cell? ⟨W.heap.size,i,none⟩=w.cell? ⟨W.heap.size,i,none⟩:=fun i=>hb.cell (p:=⟨W.heap.size,i,none⟩) (by show W.heap.size<_;omega)
 have hf:∀ i,w'.frozen? ⟨W.heap.size,i,none⟩=w.frozen? ⟨W.heap.size,i,none⟩:=fun i=>hb.frozen (p:=⟨W.heap.size,i,none⟩) (by show W.heap.size<_;omega)
 exact ⟨Nat.le_trans hs hb.size,h.bel.trans (hb.mono (by omega)),(hc _).trans h.c0,(hc _).trans h.c1,(hc _).trans h.c2,(hc _).trans h.c3,(hf _).trans h.f0,(hf _).trans h.f1,(hf _).trans h.f2,(hf _).trans h.f3⟩
theorem RB.drew {W w:World} (h:RB W w):RB W w.drew:=⟨h.size,h.bel.drew,h.c0,h.c1,h.c2,h.c3,h.f0,h.f1,h.f2,h.f3⟩
theorem RB.alloc {W w:World} (h:RB W w) (o:Obj):RB W (w.alloc o):=h.below ((Below.refl _ _).alloc (Nat.le_refl _) _)
theorem RB.new (W:World) (t:TypeId):RB W (W.alloc (.cells #[.int .i64 0,.int .i64 0,.int .i64 0,.string ⟨#[]⟩] t)):=by
 refine ⟨by simp,(Below.refl _ _).alloc (Nat.le_refl _) _,?_,?_,?_,?_,?_,?_,?_,?_⟩<;>first | (simp;done) | (rw [frozen?_alloc_cells];exact frozen_past _ _ _ (Nat.le_refl _))
theorem nopage_b (s:ByteArray) (ty:TypeId) (v:Value) (w:World) (hv:w.cell? ⟨1,0,none⟩=some (.iface ty v)):Calls Tryz.prog 168 #[.string s] w fun e w'=>(∃ E,e=.returned (.iface 227 (.pointer (some E))))/\Below w.heap.size w w' :=
 (nopage_i s ty v w hv).mono fun e w' h=>⟨⟨_,h.1⟩,by rw [h.2];exact (Below.refl _ _).alloc (Nat.le_refl _) _⟩
set_option maxRecDepth 4000 in
set_option maxHeartbeats 16000000 in
theorem parse_no_part (s:ByteArray) (n N:Nat) (w:World) (ty:TypeId) (v:Value) (hv:w.cell? ⟨1,0,none⟩=some (.iface ty v)) (hg:1<w.heap.size) (hs:s.size=64) (h1:1<=n) (h2:n<=8) (hN:(N:Int)=numOf (((nums s).drop (n+7)).take 1)) (hN1:56<N+n) (hN2:N<=255):Calls Tryz.prog 165 #[.string s,.int .i64 (n:Int)] w fun e w'=>(∃ E,e=.returned (prV E none))/\Below w.heap.size w w':=by
 have hd:decide (1<=(n:Int)/\(n:Int)<=8)=true:=by simp;omega
 have hs':(s.size:Int)=64:=by omega
 have hb0:∀ o,Below w.heap.size w (w.alloc o):=fun o=>(Below.refl _ _).alloc (Nat.le_refl _) _
 have hva:∀ w',Below w.heap.size w w'->w'.cell? ⟨1,0,none⟩=some (.iface ty v):=fun w' hb=>(hb.cell (p:=⟨1,0,none⟩) hg).trans hv
 obtain ⟨xs,HX⟩:∃ xs,Hid (xs=nums s):=⟨_,hid0 rfl⟩
 have hln:xs.length=64:=by rw [HX.out,nums_length];exact hs
 have hsz:(xs.map (Value.int .u8)).toArray.size=64:=by simp [hln]
 have HRG:Hid (∀ y∈xs,0<=y/\y<=255):=by rw [HX.out];exact nums_range' s
 have HS:=hid0 hs
 clear hs
 have hsl:=fun g wx=>slice_arr_from (P:=Tryz.prog) (t:=193) Tryz.underlying193 (fun _=>by kernel_rfl) g 0 n (by omega) .i64 (n:Int) rfl wx
 obtain ⟨q,hq⟩:∃ q,64-n=q:=⟨_,rfl⟩
 rw [hq] at hsl
 have hq8:(8:Int)<=(q:Int):=by omega
 have hq7:(7:Int)<=(q:Int):=by omega
 have HN:Hid ((N:Int)=numOf ((xs.drop (n+7)).take 1)):=by rw [HX.out];exact hid0 hN
 clear hN
 have hnn:(64-(n:Int)-8)<(N:Int):=by omega
 go_enter Tryz.func165,Tryz.ntmps165
 go_wp2_with (first | (go_at_call 57;refine (width_i _ _).mono ?_;rw [hd];rintro e w2 ⟨rfl,rfl⟩) | (go_at_call 159;refine (part_i _ _ (by omega) (by omega)).mono ?_;rintro e w3 ⟨rfl,rfl⟩) | (go_at_call 133;refine (sec_i s _ HS.out).mono ?_;rw [<-HX.out];rintro e w2 ⟨rfl,hb2⟩;have HB2:=hid0 ((RB.new w _).below hb2);clear hb2) | (refine wpList_store_new rfl 193 _ _ rfl xs rfl rfl _ _ (.int .u8 0) (by rw [hln];rfl) (by rw [hln];kernel_rfl) ?_;intro wx hfm hbx hsx;have HFM:=hid0 hfm;clear hfm;have HBX:=hid0 (HB2.out.below hbx);clear hbx hsx) | (go_at_call 153;refine (take_fm w2.heap.size xs HRG (n+7) 1 _ (by omega) (by omega) _ HFM.out (N:Int) HN.out).mono ?_;rintro e w3 ⟨rfl,rfl⟩) | (go_at_call 168;refine (nopage_b _ ty v _ (hva _ HBX.out.bel)).mono ?_;rintro e w4 ⟨⟨E,rfl⟩,hb4⟩;have hr4:=HBX.out.below hb4;clear hb4;have c0:=hr4.c0;have c1:=hr4.c1;have c2:=hr4.c2;have c3:=hr4.c3;have f0:=hr4.f0;have f1:=hr4.f1;have f2:=hr4.f2;have f3:=hr4.f3;have HR4:=hid0 hr4;clear hr4))
 refine bodyPost_ret (v:=.tuple #[pageV 0 0 0 ⟨#[]⟩,.iface 227 (.pointer (some E))]) (by simp [results,Tryz.results165,go_sem,c0,c1,c2,c3]) rfl ⟨⟨E,rfl⟩,?_⟩
 exact (((HR4.out.bel.setCell (Nat.le_refl _) _).setCell (Nat.le_refl _) _).setCell (Nat.le_refl _) _).setCell (Nat.le_refl _) _
set_option maxHeartbeats 16000000 in
theorem left_i (W S L T H F R U O:Int) (a:Option Addr) (n c:Nat) (w:World) (hU:0<=U) (hU1:U<=100000) :
  Calls Tryz.prog 68 #[storeV W S L T H F R U O a n c] w fun e w'=>e=.returned (.int .i64 (hv S-U))/\Below w.heap.size w w':=by
 have hQ:0<=hv S/\hv S<=99:=by by_cases h:8<=S/\S<=200;have:=hv_yes h;omega;rw [hv_no h];omega
 have HH:=hid (fun w'=>halves_i S w')
 obtain ⟨Q,HQ⟩:∃ Q,Hid (Q=hv S):=⟨_,hid rfl⟩
 rw [<-HQ.out] at hQ HH ⊢
 have hw:IntKind.i64.wrap (Q-U)=Q-U:=by simp [IntKind.wrap,IntKind.bits,IntKind.signed];omega
 unfold storeV
 go_enter Tryz.func68,Tryz.ntmps68
 go_wp2_with fail
 refine wp_region_held_drew (S:=fun w'=>w'.cell? ⟨w.heap.size,1,none⟩=some (.int .i64 S)/\w'.cell? ⟨w.heap.size,7,none⟩=some (.int .i64 U)) (by kernel_rfl) (⟨by go_simp,by go_simp⟩) (fun hHeld=>?_)
 refine TY (i:=0) (v:=.pointer (some ⟨w.heap.size,1,none⟩)) rfl hHeld ?_
 simp only [PS]
 refine TY (i:=1) (v:=.int .i64 S) rfl hHeld ?_
 simp only [PS]
 refine TY (i:=3) (v:=.pointer (some ⟨w.heap.size,7,none⟩)) rfl hHeld ?_
 simp only [PS]
 refine TY (i:=4) (v:=.int .i64 U) rfl hHeld ?_
 simp only [PS]
 refine RD (i:=2) rfl (fun K hK=>?_)
 refine step_call (by rfl) 65 #[.int .i64 S] (by go_simp) (HH.out _) ?_
 rintro e wz ⟨rfl,rfl⟩
 refine ⟨_,rfl,?_⟩
 refine hK.out _ _ hHeld (fun _=>?_)
 clear hK K
 try simp only [PS]
 refine TY (i:=5) (v:=.int .i64 (Q-U)) rfl hHeld ?_
 simp only [PS]
 refine RD (i:=6) rfl (fun K hK=>?_)
 go_simp
 refine hK.out _ _ hHeld (fun _=>?_)
 clear hK K
 try simp only [PS]
 refine wpAnyH_done (by kernel_rfl) ?_ _
 go_wp2
 go_ret
 exact ⟨rfl,((Below.refl _ _).alloc (Nat.le_refl _) _).drew⟩
end Go.Proofs.YtcoegjnjjdndjaaGreatDoor
