import Derived.Test.YthdilmkbnpmdaaaPrRpS
import Derived.Test.YthdilmkbnpmdaaaPrG38
import Derived.Test.YthdilmkbnpmdaaaPrFbS
import Derived.Test.YthdilmkbnpmdaaaPrG37
import Derived.Test.YthdilmkbnpmdaaaPrDrvOf
set_option maxHeartbeats 16000000
set_option maxRecDepth 8000
set_option linter.unusedVariables false
set_option linter.unusedSimpArgs false
namespace Go.Proofs.Ythdilmkbnpmdaaa
open Go.RowKit
theorem nums_range' (r:ByteArray):∀ y∈nums r,0<=y/\y<=255:=by
 intro y hy
 unfold nums at hy
 obtain ⟨c,_,rfl⟩:=List.mem_map.1 hy
 have:=UInt8.toNat_lt c
 omega
theorem nums_extract (b:ByteArray) (i j:Nat):nums (b.extract i j)=((nums b).take j).drop i:=by
 unfold nums
 rw [<-List.map_take,<-List.map_drop,ByteArray.data_extract,Array.toList_extract]
 simp [List.extract,List.drop_take]
theorem numOf_rng:∀ (k:Nat) (ys:List Int),ys.length=k->(∀ y∈ys,0<=y/\y<=255)->0<=numOf ys/\numOf ys<(256:Int) ^ k:=by
 intro k
 induction k with
 | zero=>intro ys hl _;have:ys=[]:=List.eq_nil_of_length_eq_zero hl;subst this;simp [numOf]
 | succ k ih =>
  intro ys hl hy
  have hne:ys≠[]:=by intro h;subst h;simp at hl
  have hd:=List.dropLast_concat_getLast hne
  have h1:=ih ys.dropLast (by simp;omega) (fun y h=>hy y (List.dropLast_subset _ h))
  have h2:=hy _ (List.getLast_mem hne)
  rw [<-hd,numOf_snoc,Int.pow_succ]
  omega
theorem numOf_one (y:Int):numOf [y]=y:=by simp [numOf]
abbrev RtT:=Int×Int×Int×Int
def ptH (p:ByteArray):Int:=numOf ((nums p).take 1)
def ptF (p:ByteArray):Int:=numOf (((nums p).drop 1).take 4)
def rootOf (s:ByteArray) (a n:Int):Option RtT :=
 match rpRes s n with
 | none=>none
 | some (_,l,m,p)=>if p.size=5/\rtForm m (ptH p) (ptF p) l n=s/\m % 2=a then some (m,ptH p,ptF p,l) else none
theorem rpRes_some {s:ByteArray} {n k l m:Int} {p:ByteArray} (h:rpRes s n=some (k,l,m,p)):s.size=64/\formOf k l m p n=s/\1<=m/\m<=1000000000/\1<=l/\l<=60000/\p.size<=64:=by
 unfold rpRes at h
 split at h
 ·rename_i hh
  obtain ⟨h1,h2,h3,h4,h5⟩:=hh
  simp only [Option.some.injEq,Prod.mk.injEq] at h
  obtain ⟨rfl,rfl,rfl,rfl⟩:=h
  refine ⟨h3,h5,?_⟩
  have hok:pageOk (rpK (s.extract n.toNat 64)) (rpL (s.extract n.toNat 64)) (rpM (s.extract n.toNat 64)) (rpP (s.extract n.toNat 64)) n=true:=by
   cases hc:pageOk (rpK (s.extract n.toNat 64)) (rpL (s.extract n.toNat 64)) (rpM (s.extract n.toNat 64)) (rpP (s.extract n.toNat 64)) n with
   | true=>rfl
   | false =>
    exfalso
    unfold formOf at h5
    rw [hc,if_neg (by simp)] at h5
    rw [<-h5] at h3
    exact absurd h3 (by decide)
  have hd:=of_decide_eq_true (by unfold pageOk at hok;exact hok)
  omega
 ·cases h
def rtMax (b:RtT) (o:Option RtT):RtT:=match o with
 | none=>b
 | some r=>if b.1<r.1 then r else b
def frOf (s0 s1:ByteArray) (n:Int):RtT:=rtMax (rtMax (0,0,1,0) (rootOf s0 0 n)) (rootOf s1 1 n)
def rtZ:RtT:=(0,0,0,0)
def goesP (wk wl k l:Int):Bool:=decide (wl<=l) && (if k=3 then decide (wk≠1) else (decide (k=1) || decide (k=2)) && (decide (wk≠1) || decide (wl=l)))
abbrev Scd:=List ByteArray×Int×Int
def scanP (S:Nat->ByteArray) (frm:Nat) (first n:Int):Nat->Nat->Int->Int->ByteArray->Scd->Scd
 | 0,_,_,_,_,out=>out
 | f+1,i,wk,wl,op,out =>
  match rpRes (S (frm+i)) n with
  | none=>out
  | some (k,l,m,p)=>if IntKind.i64.wrap (m-(i:Int))=first/\goesP wk wl k l=true then
    (if k=1 then scanP S frm first n f (i+1) k l (op++p) out
     else scanP S frm first n f (i+1) k l ByteArray.empty (if k=2 then out.1++[op++p] else out.1,(i:Int)+1,l))
   else out
theorem scanP_none {S:Nat->ByteArray} {frm:Nat} {first n:Int} {f i:Nat} {wk wl:Int} {op:ByteArray} {out:Scd} (h:rpRes (S (frm+i)) n=none):scanP S frm first n f i wk wl op out=out:=by
 cases f with
 | zero=>rfl
 | succ f=>rw [scanP,h]
theorem scanP_no {S:Nat->ByteArray} {frm:Nat} {first n:Int} {f i:Nat} {wk wl k l m:Int} {p op:ByteArray} {out:Scd} (h:rpRes (S (frm+i)) n=some (k,l,m,p)) (hn:¬ (IntKind.i64.wrap (m-(i:Int))=first/\goesP wk wl k l=true)):scanP S frm first n f i wk wl op out=out:=by
 cases f with
 | zero=>rfl
 | succ f=>rw [scanP,h];simp only;rw [if_neg hn]
theorem scanP_part {S:Nat->ByteArray} {frm:Nat} {first n:Int} {f i:Nat} {wk wl l m:Int} {p op:ByteArray} {out:Scd} (h:rpRes (S (frm+i)) n=some (1,l,m,p)) (hn:IntKind.i64.wrap (m-(i:Int))=first) (hg:goesP wk wl 1 l=true):scanP S frm first n (f+1) i wk wl op out=scanP S frm first n f (i+1) 1 l (op++p) out:=by
 rw [scanP,h];simp only;rw [if_pos ⟨hn,hg⟩,if_pos trivial]
theorem scanP_end {S:Nat->ByteArray} {frm:Nat} {first n:Int} {f i:Nat} {wk wl k l m:Int} {p op:ByteArray} {out:Scd} (h:rpRes (S (frm+i)) n=some (k,l,m,p)) (hn:IntKind.i64.wrap (m-(i:Int))=first) (hg:goesP wk wl k l=true) (hk:k≠1):scanP S frm first n (f+1) i wk wl op out=scanP S frm first n f (i+1) k l ByteArray.empty (if k=2 then out.1++[op++p] else out.1,(i:Int)+1,l):=by
 rw [scanP,h];simp only;rw [if_pos ⟨hn,hg⟩,if_neg hk]
theorem scanP_size (S:Nat->ByteArray) (frm:Nat) (first n:Int):∀ (f i:Nat) (wk wl:Int) (op:ByteArray) (out:Scd) (B:Nat),op.size+64*f<=B->(∀ e∈out.1,e.size<=B)->(∀ e∈(scanP S frm first n f i wk wl op out).1,e.size<=B)/\(scanP S frm first n f i wk wl op out).1.length<=out.1.length+f
 | 0,i,wk,wl,op,out,B,_,h2=>⟨h2,by simp [scanP]⟩
 | f+1,i,wk,wl,op,out,B,h1,h2=>by
  rw [scanP]
  split
  ·exact ⟨h2,by omega⟩
  ·rename_i k l m p hp
   have hps:=(rpRes_some hp).2.2.2.2.2.2
   split
   ·split
    ·have:=scanP_size S frm first n f (i+1) k l (op++p) out B (by rw [ByteArray.size_append];omega) h2
     exact ⟨this.1,by omega⟩
    ·have:=scanP_size S frm first n f (i+1) k l ByteArray.empty (if k=2 then out.1++[op++p] else out.1,(i:Int)+1,l) B (by show 0+_<=_;omega) (by
      intro e he
      simp only at he
      split at he
      ·rw [List.mem_append] at he
       rcases he with he | he
       ·exact h2 e he
       ·simp at he;subst he;rw [ByteArray.size_append];omega
      ·exact h2 e he)
     refine ⟨this.1,Nat.le_trans this.2 ?_⟩
     simp only
     split
     ·simp;omega
     ·omega
   ·exact ⟨h2,by omega⟩
theorem scanP_used (S:Nat->ByteArray) (frm:Nat) (first n:Int):∀ (f i:Nat) (wk wl:Int) (op:ByteArray) (out:Scd),(0<=out.2.1/\out.2.1<=(i:Int))->0<=(scanP S frm first n f i wk wl op out).2.1/\(scanP S frm first n f i wk wl op out).2.1<=(i:Int)+f
 | 0,i,wk,wl,op,out,h=>by rw [scanP];omega
 | f+1,i,wk,wl,op,out,h=>by
  rw [scanP]
  split
  ·omega
  ·rename_i k l m p hp
   split
   ·split
    ·have:=scanP_used S frm first n f (i+1) k l (op++p) out (by omega)
     omega
    ·have:=scanP_used S frm first n f (i+1) k l ByteArray.empty (if k=2 then out.1++[op++p] else out.1,(i:Int)+1,l) (by show 0<=(i:Int)+1/\(i:Int)+1<=_;omega)
     omega
   ·omega
theorem scanP_life (S:Nat->ByteArray) (frm:Nat) (first n:Int):∀ (f i:Nat) (wk wl:Int) (op:ByteArray) (out:Scd),(scanP S frm first n f i wk wl op out).2.2=out.2.2\/(1<=(scanP S frm first n f i wk wl op out).2.2/\(scanP S frm first n f i wk wl op out).2.2<=60000)
 | 0,i,wk,wl,op,out=>.inl rfl
 | f+1,i,wk,wl,op,out=>by
  rw [scanP]
  split
  ·exact .inl rfl
  ·rename_i k l m p hp
   have hl:=rpRes_some hp
   split
   ·split
    ·exact scanP_life S frm first n f (i+1) k l (op++p) out
    ·rcases scanP_life S frm first n f (i+1) k l ByteArray.empty (if k=2 then out.1++[op++p] else out.1,(i:Int)+1,l) with h | h
     ·right
      rw [h]
      show 1<=l/\l<=60000
      omega
     ·exact .inr h
   ·exact .inl rfl
theorem readpage_s_any (s:ByteArray) (n:Int) (w:World) (hs:s.size<=1048576):Calls Try.prog 44 #[.string s,.int .i64 n] w fun e w'=>e=.returned (rpV (rpRes s n))/\Below w.heap.size w w':=by
 have hb0:∀ o,Below w.heap.size w (w.alloc o):=fun o=>(Below.refl _ _).alloc (Nat.le_refl _) _
 by_cases hn:1<=n/\n<=8
 ·obtain ⟨m,rfl⟩:∃ m:Nat,n=(m:Int):=⟨n.toNat,by omega⟩
  have hd:decide (1<=(m:Int)/\(m:Int)<=8)=true:=by simp;omega
  by_cases h64:s.size=64
  ·by_cases hN:rpN (s.extract m 64)<=56-m
   ·exact readpage_s s m w h64 (by omega) (by omega) hN
   ·have HR:=hid0 (rpRes_no (s:=s) (n:=(m:Int)) (fun hh=>hN (by have:=hh.2.2.2.1;rw [Int.toNat_natCast] at this;omega)))
    have hs':(s.size:Int)=64:=by omega
    obtain ⟨b,hb⟩:∃ b,s.extract m 64=b:=⟨_,rfl⟩
    have hbz:b.size=64-m:=by rw [<-hb];simp only [ByteArray.size_extract];omega
    obtain ⟨q,hq⟩:∃ q:Nat,b.size=q:=⟨_,rfl⟩
    have l7:7<b.size:=by omega
    have g7:=getb b 7 l7
    rw [hb] at hN
    obtain ⟨N,hN2⟩:∃ N,N=(b.data.toList.getD 7 0).toNat:=⟨_,rfl⟩
    rw [<-hN2] at g7
    have hNl:(64-(m:Int)-8)<(N:Int):=by have:rpN b=N:=hN2.symm;omega
    have hNb:N<=255:=by rw [hN2];have:=UInt8.toNat_lt (b.data.toList.getD 7 0);omega
    have hm7:(7:Int)<(q:Int):=by omega
    have hm1:m+q=64:=by omega
    clear hbz hN2 hN
    go_enter Try.func44,Try.ntmps44
    go_wp2_with (first | (go_at_call 50;refine (width_s _ _).mono ?_;rw [hd];rintro e w2 ⟨rfl,rfl⟩) | (go_at_call 60;refine (part_s _ _ (by omega) (by omega)).mono ?_;rintro e w2 ⟨rfl,rfl⟩))
    refine bodyPost_ret (v:=.tuple #[pageV 0 0 0 ⟨#[]⟩,.bool false]) (by simp [results,Try.results44,go_sem]) rfl ⟨by rw [HR.out];rfl,?_⟩
    exact hb0 _
  ·have HR:=hid0 (rpRes_no (s:=s) (n:=(m:Int)) (fun hh=>h64 hh.2.2.1))
   have hs':((s.size:Int) != 64)=true:=by simp;omega
   clear h64
   go_enter Try.func44,Try.ntmps44
   go_wp2_with (first | (go_at_call 50;refine (width_s _ _).mono ?_;rw [hd];rintro e w2 ⟨rfl,rfl⟩))
   refine bodyPost_ret (v:=.tuple #[pageV 0 0 0 ⟨#[]⟩,.bool false]) (by simp [results,Try.results44,go_sem]) rfl ⟨by rw [HR.out];rfl,?_⟩
   exact hb0 _
 ·have HR:=hid0 (rpRes_no (s:=s) (n:=n) (fun hh=>hn ⟨hh.1,hh.2.1⟩))
  have hd:decide (1<=n/\n<=8)=false:=by simpa using hn
  clear hn
  go_enter Try.func44,Try.ntmps44
  go_wp2_with (first | (go_at_call 50;refine (width_s _ _).mono ?_;rw [hd];rintro e w2 ⟨rfl,rfl⟩))
  refine bodyPost_ret (v:=.tuple #[pageV 0 0 0 ⟨#[]⟩,.bool false]) (by simp [results,Try.results44,go_sem]) rfl ⟨by rw [HR.out];rfl,?_⟩
  exact hb0 _
theorem own_set {w:World} {B:Nat} {e:TypeId} {size:Nat} {y:Value} {n b i:Nat} {xs:List Value} (h:w.ownsRow B e size y n xs) (hne:y.ownBlock≠some b) (u:Value):(w.setCell ⟨b,i,none⟩ u).ownsRow B e size y n xs:=ownsRow_setCell_other h hne u
theorem news3 (X:World) (b:Nat) (hb:X.heap.size=b) (cs:Array Value) (t:TypeId):∀ j u,cs.toList[j]?=some u->(X.alloc (.cells cs t)).cell? ((⟨b,0,none⟩:Addr).add j)=some u:=by
 subst hb;exact World.news_of_block (heap_alloc_new X _)
theorem read_s (s:ByteArray) (w:World) (hs:s.size<=1048576):Calls Try.prog 83 #[.string s] w fun e w'=>RbPost w w' e (resS s):=by
 have hb0:∀ o,Below w.heap.size w (w.alloc o):=fun o=>(Below.refl _ _).alloc (Nat.le_refl _) _
 obtain ⟨R,HR⟩:∃ R,Hid (R=resS s):=⟨_,hid rfl⟩
 rw [<-HR.out]
 obtain ⟨i0,hi0,hz0,hz1,hz2⟩:=info_partsC info_ch'
 have HI:=hid (And.intro hi0 (And.intro hz0 (And.intro hz1 hz2)))
 clear hi0 hz0 hz1 hz2
 go_enter Try.func83,Try.ntmps83
 go_wp2_with fail
 go_loopw [4,5] (fun y x wr=>∃ (j:Nat) (o:List Ch) (r:ByteArray),x=.string r/\j+o.length=21/\r.size<=1048576/\Hid (run j r o=run 21 s [])/\Hid (∀ z∈o,z.1.size<=1048576/\z.2.1.size<=1048576)/\wr.ownsRow w.heap.size 101 3 y o.length (chcells o)/\Below w.heap.size w wr) (fun _ x _=>match x with | .string r=>r.size | _=>0)
 case atStart=>exact ⟨21,[],s,rfl,rfl,hs,rfl,fun z hz=>(by simp at hz),World.ownsRow_lit _ #[] 0 (Nat.le_refl _) (by simp) (by simp),hb0 _⟩
 case round =>
  obtain ⟨j,o,r,rfl,hj,hrz,HRN,HOZ,hown,hbel⟩:=hrel
  obtain ⟨ya,yc,rfl,hchs⟩:=owns_chs hown
  have HO:=hid hown
  have HB:=hid hbel
  have hsz:=hbel.size
  have HC:=hid hchs
  clear hown hbel hchs
  have hneq:(Value.slice ya o.length yc).ownBlock≠some wr.heap.size:=fun h=>by have:=(HO.out.lt _ h).2;omega
  have fin:Hid (run j r o=some (o,r))->Hid (R=if s.size≠0/\bOut o=s then some o else none):=fun hh=>by
   show _=_
   have:=HRN.out
   rw [hh.out] at this
   rw [HR.out]
   unfold resS
   rw [<-this]
  by_cases h0:0<(r.size:Int)
  ·by_cases hl:(o.length:Int)<=20
   ·obtain ⟨j',rfl⟩:∃ j',j=j'+1:=⟨j-1,by omega⟩
    have HRN2:=HRN.out
    rw [run,if_neg (by omega)] at HRN2
    have hg:=get0 r (by omega)
    obtain ⟨b,hb⟩:∃ b,b=b0 r:=⟨_,rfl⟩
    have hbl:b<=255:=by rw [hb];exact b0_lt r
    rw [<-hb] at hg
    have hsz1:(r.extract 1 r.size).size<=1048576:=by simp only [ByteArray.size_extract];omega
    clear fin
    cases hp:pc (r.extract 1 r.size) with
    | none =>
     have HP:=hid (pcV_none hp)
     have HF:Hid (R=none):=by
      show _=_
      have e:stp r=none:=by unfold stp;rw [hp]
      rw [e] at HRN2
      rw [HR.out];unfold resS;rw [<-HRN2]
     clear hp hb HRN2
     by_cases hb1:b=1
     ·subst hb1
      go_wp2_with (go_at_call 85;refine (piece_s _ _ hsz1).mono ?_;rw [HP.out];rintro e w2 ⟨rfl,hb2⟩;have hsw2:=hb2.size;simp only [World.size_alloc,World.size_setCell] at hsw2;have c0:w2.cell? ⟨wr.heap.size,0,none⟩=some (.string ⟨#[]⟩):=(hb2.cell (p:=⟨wr.heap.size,0,none⟩) (by simp<;>omega)).trans (by go_simp);have cf0:w2.frozen? ⟨wr.heap.size,0,none⟩=false:=(hb2.frozen (p:=⟨wr.heap.size,0,none⟩) (by simp<;>omega)).trans (by go_simp);have c1:w2.cell? ⟨wr.heap.size,1,none⟩=some (.string ⟨#[]⟩):=(hb2.cell (p:=⟨wr.heap.size,1,none⟩) (by simp<;>omega)).trans (by go_simp);have cf1:w2.frozen? ⟨wr.heap.size,1,none⟩=false:=(hb2.frozen (p:=⟨wr.heap.size,1,none⟩) (by simp<;>omega)).trans (by go_simp);have c2:w2.cell? ⟨wr.heap.size,2,none⟩=some (.bool true):=(hb2.cell (p:=⟨wr.heap.size,2,none⟩) (by simp<;>omega)).trans (by go_simp);have cf2:w2.frozen? ⟨wr.heap.size,2,none⟩=false:=(hb2.frozen (p:=⟨wr.heap.size,2,none⟩) (by simp<;>omega)).trans (by go_simp);have HB2:=hid (HB.out.trans ((bs0 hb2).mono hsz));have HO2:=hid (owns_below (HO.out.alloc _) hb2);clear hb2)
      go_ret2
      rw [HF.out]
      exact rbPost_none rfl (HB2.out.alloc (by omega) _)
     ·have hb2:((b:Int) == 1)=false:=by simp;omega
      go_wp2_with (go_at_call 85;refine (piece_s _ _ hsz1).mono ?_;rw [HP.out];rintro e w2 ⟨rfl,hb2⟩;have hsw2:=hb2.size;simp only [World.size_alloc,World.size_setCell] at hsw2;have c0:w2.cell? ⟨wr.heap.size,0,none⟩=some (.string ⟨#[]⟩):=(hb2.cell (p:=⟨wr.heap.size,0,none⟩) (by simp<;>omega)).trans (by go_simp);have cf0:w2.frozen? ⟨wr.heap.size,0,none⟩=false:=(hb2.frozen (p:=⟨wr.heap.size,0,none⟩) (by simp<;>omega)).trans (by go_simp);have c1:w2.cell? ⟨wr.heap.size,1,none⟩=some (.string ⟨#[]⟩):=(hb2.cell (p:=⟨wr.heap.size,1,none⟩) (by simp<;>omega)).trans (by go_simp);have cf1:w2.frozen? ⟨wr.heap.size,1,none⟩=false:=(hb2.frozen (p:=⟨wr.heap.size,1,none⟩) (by simp<;>omega)).trans (by go_simp);have c2:w2.cell? ⟨wr.heap.size,2,none⟩=some (.bool false):=(hb2.cell (p:=⟨wr.heap.size,2,none⟩) (by simp<;>omega)).trans (by go_simp);have cf2:w2.frozen? ⟨wr.heap.size,2,none⟩=false:=(hb2.frozen (p:=⟨wr.heap.size,2,none⟩) (by simp<;>omega)).trans (by go_simp);have HB2:=hid (HB.out.trans ((bs0 hb2).mono hsz));have HO2:=hid (owns_below (HO.out.alloc _) hb2);clear hb2)
      go_ret2
      rw [HF.out]
      exact rbPost_none rfl (HB2.out.alloc (by omega) _)
    | some p =>
     obtain ⟨k,m⟩:=p
     have HP:=hid (pcV_some hp)
     have hmz:m.size<=1048576:=by have:=pc_size hp;simp only [ByteArray.size_extract] at this;omega
     by_cases hb1:b=1
     ·have e:stp r=some ((k,ByteArray.empty,true),m):=by unfold stp;rw [hp];simp only;rw [if_pos (by omega)]
      obtain ⟨q1,q2,q3⟩:=stp_size (by omega) e
      rw [e] at HRN2
      have HR2:Hid (run j' m (o++[(k,ByteArray.empty,true)])=run 21 s []):=HRN2
      simp only at q2 q3
      clear hp hb HRN2 e
      subst hb1
      go_wp2_with (first | (go_at_call 85;refine (piece_s _ _ hsz1).mono ?_;rw [HP.out];rintro e w2 ⟨rfl,hb2⟩;have hsw2:=hb2.size;simp only [World.size_alloc,World.size_setCell] at hsw2;have c0:w2.cell? ⟨wr.heap.size,0,none⟩=some (.string ⟨#[]⟩):=(hb2.cell (p:=⟨wr.heap.size,0,none⟩) (by simp<;>omega)).trans (by go_simp);have cf0:w2.frozen? ⟨wr.heap.size,0,none⟩=false:=(hb2.frozen (p:=⟨wr.heap.size,0,none⟩) (by simp<;>omega)).trans (by go_simp);have c1:w2.cell? ⟨wr.heap.size,1,none⟩=some (.string ⟨#[]⟩):=(hb2.cell (p:=⟨wr.heap.size,1,none⟩) (by simp<;>omega)).trans (by go_simp);have cf1:w2.frozen? ⟨wr.heap.size,1,none⟩=false:=(hb2.frozen (p:=⟨wr.heap.size,1,none⟩) (by simp<;>omega)).trans (by go_simp);have c2:w2.cell? ⟨wr.heap.size,2,none⟩=some (.bool true):=(hb2.cell (p:=⟨wr.heap.size,2,none⟩) (by simp<;>omega)).trans (by go_simp);have cf2:w2.frozen? ⟨wr.heap.size,2,none⟩=false:=(hb2.frozen (p:=⟨wr.heap.size,2,none⟩) (by simp<;>omega)).trans (by go_simp);have HB2:=hid (HB.out.trans ((bs0 hb2).mono hsz));have HO2:=hid (owns_below (HO.out.alloc _) hb2);clear hb2) | (at_builtin;refine WAL _ rfl _ _ 93 rfl w.heap.size Try.underlying93 HI.out rfl (by omega) _ o.length _ rfl ((own_set HO2.out hneq (.string k)).alloc (.cells #[.string k,.string ⟨#[]⟩,.bool true] 101)) ⟨w2.heap.size,0,none⟩ 1 1 [.string k,.string ⟨#[]⟩,.bool true] rfl rfl (news3 _ _ (by simp) _ _) (oneC _ _ _) (by simp;omega) (w2.heap.size+1) (by simp) ?_;intro ga cap w7 hown7 hgrow7 hat7 hlt7;have HO7:=hid hown7;have HB7:=hid (below_grownC ((HB2.out.setCell (p:=⟨wr.heap.size,0,none⟩) hsz (.string k)).alloc (by simp;omega) _) ((own_set HO2.out hneq (.string k)).alloc _) hgrow7 (by simp;omega));clear hown7 hgrow7 hat7))
      refine ⟨⟨j',o++[(k,ByteArray.empty,true)],m,rfl,by simp;omega,by omega,HR2.out,fun z hz=>?_,?_,HB7.out⟩,by simp only;omega⟩
      ·rcases List.mem_append.1 hz with hz | hz
       ·exact HOZ.out z hz
       ·simp at hz;subst hz;exact ⟨by simp only;omega,by simp only;first | omega | simp⟩
      ·rw [chcells_snoc,List.length_append];exact HO7.out
     ·have hb2:((b:Int) == 1)=false:=by simp;omega
      have hszm:m.size<=1048576:=hmz
      cases hq:pc m with
      | none =>
       have HQ:=hid (pcV_none hq)
       have HF:Hid (R=none):=by
        show _=_
        have e:stp r=none:=by unfold stp;rw [hp];simp only;rw [if_neg (by omega),hq]
        rw [e] at HRN2
        rw [HR.out];unfold resS;rw [<-HRN2]
       clear hp hq hb HRN2
       go_wp2_with (first | (have _g:=HB2;go_at_call 85;refine (piece_s _ _ hszm).mono ?_;rw [HQ.out];rintro e w3 ⟨rfl,hb3⟩;have hsw3:=hb3.size;simp only [World.size_alloc,World.size_setCell] at hsw3;have d0:w3.cell? ⟨wr.heap.size,0,none⟩=some (.string k):=(hb3.cell (p:=⟨wr.heap.size,0,none⟩) (by simp<;>omega)).trans (by go_simp);have df0:w3.frozen? ⟨wr.heap.size,0,none⟩=false:=(hb3.frozen (p:=⟨wr.heap.size,0,none⟩) (by simp<;>omega)).trans (by go_simp);have d1:w3.cell? ⟨wr.heap.size,1,none⟩=some (.string ⟨#[]⟩):=(hb3.cell (p:=⟨wr.heap.size,1,none⟩) (by simp<;>omega)).trans (by go_simp);have df1:w3.frozen? ⟨wr.heap.size,1,none⟩=false:=(hb3.frozen (p:=⟨wr.heap.size,1,none⟩) (by simp<;>omega)).trans (by go_simp);have d2:w3.cell? ⟨wr.heap.size,2,none⟩=some (.bool false):=(hb3.cell (p:=⟨wr.heap.size,2,none⟩) (by simp<;>omega)).trans (by go_simp);have df2:w3.frozen? ⟨wr.heap.size,2,none⟩=false:=(hb3.frozen (p:=⟨wr.heap.size,2,none⟩) (by simp<;>omega)).trans (by go_simp);have HB3:=hid ((HB2.out.setCell (p:=⟨wr.heap.size,0,none⟩) hsz (.string k)).trans (hb3.mono (by simp<;>omega)));have HO3:=hid (owns_below (own_set HO2.out hneq (.string k)) hb3);clear hb3 c0 c1 c2 cf0 cf1 cf2) | (go_at_call 85;refine (piece_s _ _ hsz1).mono ?_;rw [HP.out];rintro e w2 ⟨rfl,hb2⟩;have hsw2:=hb2.size;simp only [World.size_alloc,World.size_setCell] at hsw2;have c0:w2.cell? ⟨wr.heap.size,0,none⟩=some (.string ⟨#[]⟩):=(hb2.cell (p:=⟨wr.heap.size,0,none⟩) (by simp<;>omega)).trans (by go_simp);have cf0:w2.frozen? ⟨wr.heap.size,0,none⟩=false:=(hb2.frozen (p:=⟨wr.heap.size,0,none⟩) (by simp<;>omega)).trans (by go_simp);have c1:w2.cell? ⟨wr.heap.size,1,none⟩=some (.string ⟨#[]⟩):=(hb2.cell (p:=⟨wr.heap.size,1,none⟩) (by simp<;>omega)).trans (by go_simp);have cf1:w2.frozen? ⟨wr.heap.size,1,none⟩=false:=(hb2.frozen (p:=⟨wr.heap.size,1,none⟩) (by simp<;>omega)).trans (by go_simp);have c2:w2.cell? ⟨wr.heap.size,2,none⟩=some (.bool false):=(hb2.cell (p:=⟨wr.heap.size,2,none⟩) (by simp<;>omega)).trans (by go_simp);have cf2:w2.frozen? ⟨wr.heap.size,2,none⟩=false:=(hb2.frozen (p:=⟨wr.heap.size,2,none⟩) (by simp<;>omega)).trans (by go_simp);have HB2:=hid (HB.out.trans ((bs0 hb2).mono hsz));have HO2:=hid (owns_below (HO.out.alloc _) hb2);clear hb2))
       go_ret2
       rw [HF.out]
       exact rbPost_none rfl (HB3.out.alloc (by omega) _)
      | some q =>
       obtain ⟨v,m'⟩:=q
       have HQ:=hid (pcV_some hq)
       have e:stp r=some ((k,v,false),m'):=by unfold stp;rw [hp];simp only;rw [if_neg (by omega),hq]
       obtain ⟨q1,q2,q3⟩:=stp_size (by omega) e
       rw [e] at HRN2
       have HR2:Hid (run j' m' (o++[(k,v,false)])=run 21 s []):=HRN2
       simp only at q2 q3
       clear hp hq hb HRN2 e
       go_wp2_with (first | (have _g:=HB2;go_at_call 85;refine (piece_s _ _ hszm).mono ?_;rw [HQ.out];rintro e w3 ⟨rfl,hb3⟩;have hsw3:=hb3.size;simp only [World.size_alloc,World.size_setCell] at hsw3;have d0:w3.cell? ⟨wr.heap.size,0,none⟩=some (.string k):=(hb3.cell (p:=⟨wr.heap.size,0,none⟩) (by simp<;>omega)).trans (by go_simp);have df0:w3.frozen? ⟨wr.heap.size,0,none⟩=false:=(hb3.frozen (p:=⟨wr.heap.size,0,none⟩) (by simp<;>omega)).trans (by go_simp);have d1:w3.cell? ⟨wr.heap.size,1,none⟩=some (.string ⟨#[]⟩):=(hb3.cell (p:=⟨wr.heap.size,1,none⟩) (by simp<;>omega)).trans (by go_simp);have df1:w3.frozen? ⟨wr.heap.size,1,none⟩=false:=(hb3.frozen (p:=⟨wr.heap.size,1,none⟩) (by simp<;>omega)).trans (by go_simp);have d2:w3.cell? ⟨wr.heap.size,2,none⟩=some (.bool false):=(hb3.cell (p:=⟨wr.heap.size,2,none⟩) (by simp<;>omega)).trans (by go_simp);have df2:w3.frozen? ⟨wr.heap.size,2,none⟩=false:=(hb3.frozen (p:=⟨wr.heap.size,2,none⟩) (by simp<;>omega)).trans (by go_simp);have HB3:=hid ((HB2.out.setCell (p:=⟨wr.heap.size,0,none⟩) hsz (.string k)).trans (hb3.mono (by simp<;>omega)));have HO3:=hid (owns_below (own_set HO2.out hneq (.string k)) hb3);clear hb3 c0 c1 c2 cf0 cf1 cf2) | (go_at_call 85;refine (piece_s _ _ hsz1).mono ?_;rw [HP.out];rintro e w2 ⟨rfl,hb2⟩;have hsw2:=hb2.size;simp only [World.size_alloc,World.size_setCell] at hsw2;have c0:w2.cell? ⟨wr.heap.size,0,none⟩=some (.string ⟨#[]⟩):=(hb2.cell (p:=⟨wr.heap.size,0,none⟩) (by simp<;>omega)).trans (by go_simp);have cf0:w2.frozen? ⟨wr.heap.size,0,none⟩=false:=(hb2.frozen (p:=⟨wr.heap.size,0,none⟩) (by simp<;>omega)).trans (by go_simp);have c1:w2.cell? ⟨wr.heap.size,1,none⟩=some (.string ⟨#[]⟩):=(hb2.cell (p:=⟨wr.heap.size,1,none⟩) (by simp<;>omega)).trans (by go_simp);have cf1:w2.frozen? ⟨wr.heap.size,1,none⟩=false:=(hb2.frozen (p:=⟨wr.heap.size,1,none⟩) (by simp<;>omega)).trans (by go_simp);have c2:w2.cell? ⟨wr.heap.size,2,none⟩=some (.bool false):=(hb2.cell (p:=⟨wr.heap.size,2,none⟩) (by simp<;>omega)).trans (by go_simp);have cf2:w2.frozen? ⟨wr.heap.size,2,none⟩=false:=(hb2.frozen (p:=⟨wr.heap.size,2,none⟩) (by simp<;>omega)).trans (by go_simp);have HB2:=hid (HB.out.trans ((bs0 hb2).mono hsz));have HO2:=hid (owns_below (HO.out.alloc _) hb2);clear hb2) | (at_builtin;refine WAL _ rfl _ _ 93 rfl w.heap.size Try.underlying93 HI.out rfl (by omega) _ o.length _ rfl ((own_set HO3.out hneq (.string v)).alloc (.cells #[.string k,.string v,.bool false] 101)) ⟨w3.heap.size,0,none⟩ 1 1 [.string k,.string v,.bool false] rfl rfl (news3 _ _ (by simp) _ _) (oneC _ _ _) (by simp;omega) (w3.heap.size+1) (by simp) ?_;intro ga cap w7 hown7 hgrow7 hat7 hlt7;have HO7:=hid hown7;have HB7:=hid (below_grownC ((HB3.out.setCell (p:=⟨wr.heap.size,1,none⟩) hsz (.string v)).alloc (by simp;omega) _) ((own_set HO3.out hneq (.string v)).alloc _) hgrow7 (by simp;omega));clear hown7 hgrow7 hat7))
       refine ⟨⟨j',o++[(k,v,false)],m',rfl,by simp;omega,by omega,HR2.out,fun z hz=>?_,?_,HB7.out⟩,by simp only;omega⟩
       ·rcases List.mem_append.1 hz with hz | hz
        ·exact HOZ.out z hz
        ·simp at hz;subst hz;exact ⟨by simp only;omega,by simp only;first | omega | simp⟩
       ·rw [chcells_snoc,List.length_append];exact HO7.out
   ·have hj0:j=0:=by omega
    subst hj0
    have HF:=fin rfl
    clear fin HRN
    by_cases hz:s.size=0
    ·have hz1:((s.size:Int) == 0)=true:=by rw [beq_iff_eq];omega
     rw [if_neg (fun hh=>hh.1 hz)] at HF
     go_wp2
     go_ret2
     rw [HF.out]
     exact rbPost_none rfl (HB.out.alloc hsz _)
    ·have hz1:((s.size:Int) == 0)=false:=by rw [beq_eq_false_iff_ne];omega
     by_cases hF:bOut o=s
     ·rw [if_pos ⟨hz,hF⟩] at HF
      have HFF:=hid hF
      clear hF
      go_wp2_with (go_at_call 57;refine (formbatch_s _ o _ _ HC.out (by omega) HOZ.out).mono ?_;rw [HFF.out];rintro e w2 ⟨rfl,hb2⟩)
      go_ret2
      rw [HF.out]
      exact rbPost_some (owns_below HO.out hb2) rfl (HB.out.trans (hb2.mono hsz))
     ·rw [if_neg (fun hh=>hF hh.2)] at HF
      obtain ⟨G,HG⟩:∃ G,Hid (G=bOut o):=⟨_,hid rfl⟩
      have hG:(!G.toList == s.toList)=true:=by rw [HG.out];simp only [Bool.not_eq_true',beq_eq_false_iff_ne];intro hh;rw [ByteArray.toList_eq,ByteArray.toList_eq] at hh;exact hF (ByteArray.ext (Array.ext' hh))
      clear hF
      go_wp2_with (go_at_call 57;refine (formbatch_s _ o _ _ HC.out (by omega) HOZ.out).mono ?_;rw [<-HG.out];rintro e w2 ⟨rfl,hb2⟩)
      go_ret2
      rw [HF.out]
      exact rbPost_none rfl ((HB.out.trans (hb2.mono hsz)).alloc (by have:=hb2.size;omega) _)
  ·have HF:=fin (by show _=_;exact run_nil _ _ _ (by omega))
   clear fin HRN
   by_cases hz:s.size=0
   ·have hz1:((s.size:Int) == 0)=true:=by rw [beq_iff_eq];omega
    rw [if_neg (fun hh=>hh.1 hz)] at HF
    go_wp2
    go_ret2
    rw [HF.out]
    exact rbPost_none rfl (HB.out.alloc hsz _)
   ·have hz1:((s.size:Int) == 0)=false:=by rw [beq_eq_false_iff_ne];omega
    by_cases hF:bOut o=s
    ·rw [if_pos ⟨hz,hF⟩] at HF
     have HFF:=hid hF
     clear hF
     go_wp2_with (go_at_call 57;refine (formbatch_s _ o _ _ HC.out (by omega) HOZ.out).mono ?_;rw [HFF.out];rintro e w2 ⟨rfl,hb2⟩)
     go_ret2
     rw [HF.out]
     exact rbPost_some (owns_below HO.out hb2) rfl (HB.out.trans (hb2.mono hsz))
    ·rw [if_neg (fun hh=>hF hh.2)] at HF
     obtain ⟨G,HG⟩:∃ G,Hid (G=bOut o):=⟨_,hid rfl⟩
     have hG:(!G.toList == s.toList)=true:=by rw [HG.out];simp only [Bool.not_eq_true',beq_eq_false_iff_ne];intro hh;rw [ByteArray.toList_eq,ByteArray.toList_eq] at hh;exact hF (ByteArray.ext (Array.ext' hh))
     clear hF
     go_wp2_with (go_at_call 57;refine (formbatch_s _ o _ _ HC.out (by omega) HOZ.out).mono ?_;rw [<-HG.out];rintro e w2 ⟨rfl,hb2⟩)
     go_ret2
     rw [HF.out]
     exact rbPost_none rfl ((HB.out.trans (hb2.mono hsz)).alloc (by have:=hb2.size;omega) _)
def covs:List (Int×List Int)->List (List Int)->List (List Int)
 | [],ps=>ps
 | x::r,ps=>covs r (ps.set x.1.toNat x.2)
theorem covs_length:∀ (hs:List (Int×List Int)) (ps:List (List Int)),(covs hs ps).length=ps.length
 | [],_=>rfl
 | x::r,ps=>by rw [covs,covs_length r];simp
theorem covs_append:∀ (hs:List (Int×List Int)) (x:Int×List Int) (ps:List (List Int)),covs (hs++[x]) ps=(covs hs ps).set x.1.toNat x.2
 | [],_,_=>rfl
 | y::r,x,ps=>by rw [List.cons_append,covs,covs_append r];rfl
theorem covs_take (hs:List (Int×List Int)) (ps:List (List Int)) (k:Nat) (h:k<hs.length):covs (hs.take (k+1)) ps=(covs (hs.take k) ps).set (hs.getD k (0,[])).1.toNat (hs.getD k (0,[])).2:=by
 rw [List.take_succ_eq_append_getElem h,covs_append]
 simp [List.getD,h]
theorem meth_plate (k:Nat) (a:Option Addr) (n c:Nat) (w:World):Sem.run Try.prog (method (k+1) 48 (.slice a n c) "loop.example/kilnstone/impl.read") w=.ok (101,.slice a n c) w:=by kernel_rfl
theorem meth_cover (k:Nat) (v v':Value) (w:World):Sem.run Try.prog (method (k+1) 90 (.agg #[v,v']) "loop.example/kilnstone/impl.read") w=.ok (106,.agg #[v,v']) w:=by kernel_rfl
set_option maxRecDepth 100000 in
theorem rd_cover (a:Option Addr) (hs:List (Int×List Int)) (c:Nat) (g n cg m:Nat) (ps:List (List Int)) (w:World) (h:Hld w a hs) (h64:∀ p∈hs,p.2.length=64) (hpos:∀ p∈hs,0<=p.1) (hl:hs.length<=300) (hp:PR w g ps) (hpl:ps.length=n) (hn2:n<=200) (hm:m<n) :
  Calls Try.prog 106 #[.agg #[.slice a hs.length c,.iface 48 (.slice (some ⟨g,0,none⟩) n cg)],.int .i64 (m:Int)] w fun e w'=>e=.returned (.tuple #[.agg (((covs hs ps).getD m []).map (Value.int .u8)).toArray,.bool true])/\Below w.heap.size w w':=by
 obtain ⟨RES,HRES⟩:∃ RES,Hid (RES=(covs hs ps).getD m []):=⟨_,hid rfl⟩
 rw [<-HRES.out]
 have hb0:∀ o1 o2,Below w.heap.size w ((w.alloc o1).alloc o2):=fun o1 o2=>((Below.refl _ _).alloc (Nat.le_refl _) _).alloc (by simp) _
 go_enter Try.func106,Try.ntmps106
 go_wp2_with fail
 obtain ⟨wy,HWY⟩:∃ wy,wy=((w.alloc (.cells #[.slice a hs.length c,.iface 48 (.slice (some ⟨g,0,none⟩) n cg)] 90)).alloc (.cells sec64 61)):=⟨_,rfl⟩
 have hby:=hb0 (.cells #[.slice a hs.length c,.iface 48 (.slice (some ⟨g,0,none⟩) n cg)] 90) (.cells sec64 61)
 have hcx:=(Cx.new w (.slice a hs.length c) (.iface 48 (.slice (some ⟨g,0,none⟩) n cg)) 90).below (below_new _ (.cells sec64 61))
 have hrr:=row_new' (w.alloc (.cells #[.slice a hs.length c,.iface 48 (.slice (some ⟨g,0,none⟩) n cg)] 90)) sec64 61 (w.heap.size+1) (by simp)
 rw [<-HWY] at hby hcx hrr
 go_loopw [6] (fun i wr=>∃ k:Nat,k<=hs.length/\i=.int .i64 ((k:Int)-1)/\Hid (RES=(covs (hs.take k) ps).getD m [])/\wr=wy) (fun i _=>((intOf i)+1).toNat)
 case atStart=>exact ⟨hs.length,Nat.le_refl _,rfl,by show _=_;rw [List.take_length,HRES.out],by rw [HWY];kernel_rfl⟩
 case round =>
  obtain ⟨k,hk,rfl,HK,rfl⟩:=hrel
  have q0:=hcx.c0
  have q1:=hcx.c1
  have HRR:=hid hrr
  have HBY:=hid hby
  clear hrr HWY
  rcases k with _ | j
  ·have hpw:=hp.below hby
   have hmp:=fun k=>meth_plate k (some ⟨g,0,none⟩) n cg wr
   have hxl:RES.length=64:=by rw [HK.out];exact getD_len hp.len (by omega)
   have hxm:(RES.map (Value.int .u8)).toArray.size=64:=by simp [hxl]
   have HI64:Hid ((Try.prog.info? 61).map (·.size)=some (RES.map (Value.int .u8)).length):=by show _=_;rw [List.length_map,hxl];kernel_rfl
   have HKR:Hid (ps.getD m []=RES):=HK.out.symm
   go_wp2_with fail
   refine (rd_plate g n cg m ps _ hpw hpl hn2 hm).mono ?_
   rw [HKR.out]
   rintro e w2 ⟨rfl,hb2⟩
   have hth:=(HRR.out.below hb2).there (n:=64) (by kernel_rfl)
   have HB2:=hid (Below.then HBY.out (Nat.le_refl _) hb2)
   clear hb2 hpw hmp q0 q1
   go_wp2_with (with_reducible refine at_store 61 _ _ rfl ?_;refine wpList_store_mid rfl 61 _ _ rfl (w.heap.size+1) 0 (RES.map (Value.int .u8)).toArray rfl rfl (by rw [hxm];exact hth) (by rw [hxm];kernel_rfl) (all_oneCell_toArray (ints_one RES)) ?_)
   refine bodyPost_ret (v:=.tuple #[.agg (RES.map (Value.int .u8)).toArray,.bool true]) (results_cell1_tmp (p:=4) (u:=5) Try.results106 _ _ (w.heap.size+1) 0 rfl (RES.map (Value.int .u8)) _ (World.rangeAt_setCells_same _ _ _ _ (by rw [List.length_map,hxl];exact hth)) Try.underlying61 rfl HI64.out) rfl ⟨rfl,?_⟩
   exact Go.below_setCells (by omega) _ _ _ HB2.out
  ·have hj:j<hs.length:=by omega
   obtain ⟨b,o,m0,x,rfl,hlb,hrg,HX⟩:=(h.below hby).at hj
   have hxl:x.length=64:=h64 (m0,x) (by rw [HX.out];simp [List.getD,hj])
   have hc0:=hrg 0 _ rfl
   rw [Nat.add_zero] at hc0
   have e1:((j+1:Nat):Int)-1=(j:Int):=by omega
   rw [e1]
   clear e1
   by_cases hmm:m0=(m:Int)
   ·subst hmm
    have hmc:m<(covs (hs.take j) ps).length:=by rw [covs_length];omega
    have HKR:Hid (x=RES):=by
     show _=_
     rw [HK.out,covs_take hs ps j hj,<-HX.out,Int.toNat_natCast]
     simp [List.getD,hmc]
    rw [HKR.out] at hrg hxl
    have hxm:(RES.map (Value.int .u8)).toArray.size=64:=by simp [hxl]
    have HI64:Hid ((Try.prog.info? 61).map (·.size)=some (RES.map (Value.int .u8)).length):=by show _=_;rw [List.length_map,hxl];kernel_rfl
    have HRG:Hid (wr.rangeAt b (o+j*65+1) (RES.map (Value.int .u8))):=fun i v hv=>by
     have:=hrg (i+1) v (by simpa using hv)
     rw [<-this];congr 2;omega
    have hth:=HRR.out.there (n:=64) (by kernel_rfl)
    clear hrg
    go_wp2_with (first | (with_reducible refine at_load 61 _ rfl ?_;refine wpList_load_mid rfl 61 _ rfl b (o+j*65+1) rfl (RES.map (Value.int .u8)) _ HRG.out Try.underlying61 rfl HI64.out ?_) | (with_reducible refine at_store 61 _ _ rfl ?_;refine wpList_store_mid rfl 61 _ _ rfl (w.heap.size+1) 0 (RES.map (Value.int .u8)).toArray rfl rfl (by rw [hxm];exact hth) (by rw [hxm];kernel_rfl) (all_oneCell_toArray (ints_one RES)) ?_))
    refine bodyPost_ret (v:=.tuple #[.agg (RES.map (Value.int .u8)).toArray,.bool true]) (results_cell1_tmp (p:=4) (u:=5) Try.results106 _ _ (w.heap.size+1) 0 rfl (RES.map (Value.int .u8)) _ (World.rangeAt_setCells_same _ _ _ _ (by rw [List.length_map,hxl];exact hth)) Try.underlying61 rfl HI64.out) rfl ⟨rfl,?_⟩
    exact Go.below_setCells (by omega) _ _ _ HBY.out
   ·have HK':Hid (RES=(covs (hs.take j) ps).getD m []):=by
     show _=_
     rw [HK.out,covs_take hs ps j hj,<-HX.out]
     have h0:0<=m0:=hpos (m0,x) (by rw [HX.out];simp [List.getD,hj])
     have hne:m0.toNat≠m:=by omega
     simp [List.getD,List.getElem?_set_ne hne]
    clear hrg
    go_wp2
    go_roundw
    case rel=>exact ⟨j,by omega,by go_num,HK',trivial⟩
    case measure=>simp [intOf]
theorem covs_all:∀ (hs:List (Int×List Int)) (ps:List (List Int)),(∀ p∈hs,p.2.length=64)->(∀ p∈ps,p.length=64)->∀ p∈covs hs ps,p.length=64
 | [],ps,_,h=>h
 | x::r,ps,h1,h2=>covs_all r _ (fun p hp=>h1 p (List.mem_cons_of_mem _ hp)) (fun p hp=>by
  rcases List.mem_or_eq_of_mem_set hp with h3 | h3
  ·exact h2 p h3
  ·rw [h3];exact h1 x (List.mem_cons_self ..))
theorem secs_covs:∀ (ws:List (Int×ByteArray)) (ss:List ByteArray),secs (covs (hsOf ws) (ss.map nums))=syncs ws ss
 | [],ss=>by
  show (ss.map nums).map strOfNums=ss
  rw [List.map_map]
  exact List.map_id'' (fun s=>strOfNums_nums s) ss
 | x::r,ss=>by
  have:=secs_covs r (ss.set x.1.toNat x.2)
  rw [List.map_set] at this
  exact this
set_option maxRecDepth 100000 in
theorem rd_cover_no (a:Option Addr) (hs:List (Int×List Int)) (c:Nat) (g n cg:Nat) (m:Int) (w:World) (h:Hld w a hs) (hpos:∀ p∈hs,p.1≠m) (hl:hs.length<=300) (hn2:n<=200) (hm:¬ (0<=m/\m<(n:Int))) :
  Calls Try.prog 106 #[.agg #[.slice a hs.length c,.iface 48 (.slice (some ⟨g,0,none⟩) n cg)],.int .i64 m] w fun e w'=>e=.returned (.tuple #[.agg (z64.map (Value.int .u8)).toArray,.bool false])/\Below w.heap.size w w':=by
 obtain ⟨RES,HRES⟩:∃ RES,Hid (RES=z64):=⟨_,hid rfl⟩
 have hxl:RES.length=64:=by rw [HRES.out];exact z64_length
 have HP:=hid (fun w=>rd_plate_no g n cg m w hn2 hm)
 rw [<-HRES.out] at HP ⊢
 have hb0:∀ o1 o2,Below w.heap.size w ((w.alloc o1).alloc o2):=fun o1 o2=>((Below.refl _ _).alloc (Nat.le_refl _) _).alloc (by simp) _
 go_enter Try.func106,Try.ntmps106
 go_wp2_with fail
 obtain ⟨wy,HWY⟩:∃ wy,wy=((w.alloc (.cells #[.slice a hs.length c,.iface 48 (.slice (some ⟨g,0,none⟩) n cg)] 90)).alloc (.cells sec64 61)):=⟨_,rfl⟩
 have hby:=hb0 (.cells #[.slice a hs.length c,.iface 48 (.slice (some ⟨g,0,none⟩) n cg)] 90) (.cells sec64 61)
 have hcx:=(Cx.new w (.slice a hs.length c) (.iface 48 (.slice (some ⟨g,0,none⟩) n cg)) 90).below (below_new _ (.cells sec64 61))
 have hrr:=row_new' (w.alloc (.cells #[.slice a hs.length c,.iface 48 (.slice (some ⟨g,0,none⟩) n cg)] 90)) sec64 61 (w.heap.size+1) (by simp)
 rw [<-HWY] at hby hcx hrr
 go_loopw [6] (fun i wr=>∃ k:Nat,k<=hs.length/\i=.int .i64 ((k:Int)-1)/\wr=wy) (fun i _=>((intOf i)+1).toNat)
 case atStart=>exact ⟨hs.length,Nat.le_refl _,rfl,by rw [HWY];kernel_rfl⟩
 case round =>
  obtain ⟨k,hk,rfl,rfl⟩:=hrel
  have q0:=hcx.c0
  have q1:=hcx.c1
  have HRR:=hid hrr
  have HBY:=hid hby
  clear hrr HWY
  rcases k with _ | j
  ·have hmp:=fun k=>meth_plate k (some ⟨g,0,none⟩) n cg wr
   have hxm:(RES.map (Value.int .u8)).toArray.size=64:=by simp [hxl]
   have HI64:Hid ((Try.prog.info? 61).map (·.size)=some (RES.map (Value.int .u8)).length):=by show _=_;rw [List.length_map,hxl];kernel_rfl
   go_wp2_with fail
   refine (HP.out _).mono ?_
   rintro e w2 ⟨rfl,hb2⟩
   have hth:=(HRR.out.below hb2).there (n:=64) (by kernel_rfl)
   have HB2:=hid (Below.then HBY.out (Nat.le_refl _) hb2)
   clear hb2 hmp q0 q1
   go_wp2_with (with_reducible refine at_store 61 _ _ rfl ?_;refine wpList_store_mid rfl 61 _ _ rfl (w.heap.size+1) 0 (RES.map (Value.int .u8)).toArray rfl rfl (by rw [hxm];exact hth) (by rw [hxm];kernel_rfl) (all_oneCell_toArray (ints_one RES)) ?_)
   refine bodyPost_ret (v:=.tuple #[.agg (RES.map (Value.int .u8)).toArray,.bool false]) (results_cell1_tmp (p:=4) (u:=5) Try.results106 _ _ (w.heap.size+1) 0 rfl (RES.map (Value.int .u8)) _ (World.rangeAt_setCells_same _ _ _ _ (by rw [List.length_map,hxl];exact hth)) Try.underlying61 rfl HI64.out) rfl ⟨rfl,?_⟩
   exact Go.below_setCells (by omega) _ _ _ HB2.out
  ·have hj:j<hs.length:=by omega
   obtain ⟨b,o,m0,x,rfl,hlb,hrg,HX⟩:=(h.below hby).at hj
   have hmm:m0≠m:=hpos (m0,x) (by rw [HX.out];simp [List.getD,hj])
   have hc0:=hrg 0 _ rfl
   rw [Nat.add_zero] at hc0
   have e1:((j+1:Nat):Int)-1=(j:Int):=by omega
   rw [e1]
   clear e1 hrg
   go_wp2
   go_roundw
   case rel=>exact ⟨j,by omega,by go_num,trivial⟩
   case measure=>simp [intOf]
set_option maxRecDepth 100000 in
theorem sct_i (a:Option Addr) (ss:List ByteArray) (c:Nat) (a':Option Addr) (ws:List (Int×ByteArray)) (c':Nat) (n:Int) (w:World) (h:Strs w a ss) (h':Wrs w a' ws) (hl:ss.length<=1048576) (hl':ws.length<=1048576) (hs:∀ s∈ss,s.size<=1048576) (hs':∀ x∈ws,x.2.size<=1048576) :
  Calls Try.prog 11 #[diskV a ss.length c a' ws.length c',.int .i64 n] w fun e w'=>e=.returned (.string (sctOf ss ws n))/\Below w.heap.size w w':=by
 have hb0:∀ o1,Below w.heap.size w (w.alloc o1):=fun o1=>((Below.refl _ _).alloc (Nat.le_refl _) _)
 obtain ⟨RES,HRES⟩:∃ RES,Hid (RES=sctOf ss ws n):=⟨_,hid rfl⟩
 rw [<-HRES.out]
 cases hok:diskOk ss ws with
 | false =>
  have he:Hid (RES=ByteArray.empty):=by show _=_;rw [HRES.out];simp [sctOf,hok]
  go_enter Try.func11,Try.ntmps11
  go_wp2_with fail
  refine (valid_i a ss c a' ws c' _ (h.below (hb0 _)) (h'.below (hb0 _)) hl hl' hs hs').mono ?_
  rw [hok]
  rintro e w1 ⟨rfl,hb1⟩
  have HB1:=hid ((hb0 _).trans (hb1.mono (by simp)))
  clear hb1
  go_wp2
  go_ret
  exact ⟨by rw [he.out];rfl,HB1.out⟩
 | true =>
  obtain ⟨⟨hn1,hn2,hn3⟩,h64,hw⟩:=diskOk_of hok
  go_enter Try.func11,Try.ntmps11
  go_wp2_with fail
  refine (valid_i a ss c a' ws c' _ (h.below (hb0 _)) (h'.below (hb0 _)) hl hl' hs hs').mono ?_
  rw [hok]
  rintro e w1 ⟨rfl,hb1⟩
  have HX:=hid ((Cx.new w (.slice a ss.length c) (.slice a' ws.length c') 26).below hb1)
  have HB1:=hid ((hb0 (.cells #[.slice a ss.length c,.slice a' ws.length c'] 26)).trans (hb1.mono (by simp)))
  clear hb1
  have q0:=HX.out.c0
  have q1:=HX.out.c1
  go_wp2_with fail
  refine (drv_i a ss c a' ws c' _ (h.below HB1.out) (h'.below HB1.out) hn2 hn3 (fun s hs=>by have:=h64 s hs;omega) (fun x hx=>by have:=of_decide_eq_true (hw x hx);omega)).mono ?_
  rintro e w2 ⟨g,v,rfl,hpr,hown,hg,hb2⟩
  clear q0 q1
  obtain ⟨a2,c2,hv,ho2⟩:∃ a2 c2,v=.slice a2 (hsOf ws).length c2/\OwnS w2 a2 (hcells (hsOf ws)):=by
   rw [hsOf_length]
   rcases owns_forms hown with ⟨e,h0⟩ | ⟨g2,cap,e,h1,h2,hr⟩
   ·have:ws=[]:=List.eq_nil_of_length_eq_zero h0
    subst this
    exact ⟨none,0,e,.inl rfl⟩
   ·exact ⟨_,cap,e,.inr ⟨g2,rfl,hr⟩⟩
  subst hv
  have HB2:=hid (Below.then HB1.out (Nat.le_refl _) hb2)
  clear hb2 hown
  go_wp2_with fail
  refine (rdr _ _ _ _ _ _ _).mono ?_
  rintro e w3 ⟨rfl,hb3⟩
  have hmc:=fun k=>meth_cover k (.slice a2 (hsOf ws).length c2) (.iface 48 (.slice (some ⟨g,0,none⟩) ss.length ss.length)) w3
  have HB3:=hid (Below.then HB2.out (Nat.le_refl _) hb3)
  have HPR:=hid (hpr.below hb3)
  have HO:=hid (ho2.below hb3)
  clear hpr ho2 hb3
  have hh64:∀ p∈hsOf ws,p.2.length=64:=fun p hp=>by
   obtain ⟨x,hx,rfl⟩:=List.mem_map.1 hp
   have:=of_decide_eq_true (hw x hx)
   show (nums x.2).length=64
   rw [nums_length];omega
  have hhld:Hld w3 a2 (hsOf ws):=by
   rcases HO.out with h0 | ⟨g2,rfl,h2⟩
   ·refine .inl (List.eq_nil_of_length_eq_zero ?_)
    have:=congrArg List.length h0
    rw [hcells_length _ hh64,List.length_nil] at this;omega
   ·exact h2.hld hh64
  have HH:=hid hhld
  clear hhld
  by_cases hn:0<=n/\n<(ss.length:Int)
  ·obtain ⟨m,rfl⟩:∃ m:Nat,n=(m:Int):=⟨n.toNat,by omega⟩
   have hml:m<ss.length:=by omega
   have hrl:m<(covs (hsOf ws) (ss.map nums)).length:=by rw [covs_length];simpa using hml
   obtain ⟨x,HXX⟩:∃ x,Hid (x=(covs (hsOf ws) (ss.map nums)).getD m []):=⟨_,hid rfl⟩
   have he:Hid (RES=strOfNums x):=by
    show _=_
    rw [HRES.out,HXX.out]
    unfold sctOf
    rw [if_pos ⟨hok,hn⟩,Int.toNat_natCast,<-secs_covs]
    simp [secs,List.getD,hrl]
   go_wp2_with fail
   refine (rd_cover a2 (hsOf ws) c2 g ss.length ss.length m (ss.map nums) _ HH.out hh64 (fun p hp=>by obtain ⟨y,hy,rfl⟩:=List.mem_map.1 hp;exact (of_decide_eq_true (hw y hy)).1) (by rw [hsOf_length];exact hn3) HPR.out (by simp) hn2 hml).mono ?_
   rw [<-HXX.out]
   rintro e w4 ⟨rfl,hb4⟩
   have hxl:x.length=64:=by rw [HXX.out];exact getD_len (covs_all _ _ hh64 HPR.out.len) hrl
   have hxm:(x.map (Value.int .u8)).toArray.size=64:=by simp [hxl]
   have HI64:Hid ((Try.prog.info? 61).map (·.size)=some (x.map (Value.int .u8)).length):=by show _=_;rw [List.length_map,hxl];kernel_rfl
   have HB4:=hid (Below.then HB3.out (Nat.le_refl _) hb4)
   clear hb4 hmc
   go_wp2_with (first | (with_reducible refine at_store 61 _ _ rfl ?_;refine wpList_store_cells rfl 61 _ _ rfl (x.map (Value.int .u8)) (ints_one x) rfl rfl _ _ (by rw [List.length_map,hxl];kernel_rfl) HI64.out ?_;intro wx hrow hbx hsx;have hcv:=hrow.text (P:=Try.prog) x 0 64 64 hxl (fun i hi=>by simp [List.getD,show i<x.length by omega]) 22 5 9 Try.underlying22 Try.underlying5 Try.underlying9))
   go_ret
   exact ⟨by rw [he.out];rfl,Below.then HB4.out (Nat.le_refl _) hbx⟩
  ·have he:Hid (RES=ByteArray.empty):=by show _=_;rw [HRES.out];unfold sctOf;rw [if_neg (fun x=>hn x.2)]
   go_wp2_with fail
   refine (rd_cover_no a2 (hsOf ws) c2 g ss.length ss.length n _ HH.out (fun p hp e=>by obtain ⟨y,hy,rfl⟩:=List.mem_map.1 hp;have hy2:=of_decide_eq_true (hw y hy);exact hn ⟨by rw [<-e];exact hy2.1,by rw [<-e];exact hy2.2.1⟩) (by rw [hsOf_length];exact hn3) hn2 hn).mono ?_
   obtain ⟨x,HXX⟩:∃ x,Hid (x=z64):=⟨_,hid rfl⟩
   rw [<-HXX.out]
   rintro e w4 ⟨rfl,hb4⟩
   have hxl:x.length=64:=by rw [HXX.out];exact z64_length
   have hxm:(x.map (Value.int .u8)).toArray.size=64:=by simp [hxl]
   have HI64:Hid ((Try.prog.info? 61).map (·.size)=some (x.map (Value.int .u8)).length):=by show _=_;rw [List.length_map,hxl];kernel_rfl
   have HB4:=hid (Below.then HB3.out (Nat.le_refl _) hb4)
   clear hb4 hmc
   go_wp2_with (first | (with_reducible refine at_store 61 _ _ rfl ?_;refine wpList_store_cells rfl 61 _ _ rfl (x.map (Value.int .u8)) (ints_one x) rfl rfl _ _ (by rw [List.length_map,hxl];kernel_rfl) HI64.out ?_;intro wx hrow hbx hsx))
   go_ret
   exact ⟨by rw [he.out];rfl,Below.then HB4.out (Nat.le_refl _) hbx⟩
end Go.Proofs.Ythdilmkbnpmdaaa
