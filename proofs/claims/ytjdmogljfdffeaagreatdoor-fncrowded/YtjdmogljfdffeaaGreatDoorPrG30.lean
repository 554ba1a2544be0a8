import Derived.Test.YtjdmogljfdffeaaGreatDoorPrAq
import Derived.Test.YtjdmogljfdffeaaGreatDoorPrG37
import Derived.ChangeKeysEq
import Derived.Laws.IdiomStrings
import Derived.Test.YtjdmogljfdffeaaGreatDoorPrG38
import Derived.Laws.Bits64b
import Derived.Deep.Cut
import Derived.Deep.CutRange
import Derived.Test.YtjdmogljfdffeaaGreatDoorPrG29
import Derived.SliceStrings
import Derived.Deep.SlicePairs
import Derived.ProofKit
import Derived.ChangeOld
import Derived.ChangeSlices
import Derived.OpenShut
set_option maxHeartbeats 32000000
set_option maxRecDepth 8000
set_option linter.all false
namespace Go.Proofs.YtjdmogljfdffeaaGreatDoor
open _root_.ByteArray(empty)
section
open Tryz
open Go.RowKit
section
structure RI(W w:World)(c0 c1 c2 c3:Value):Prop where
 size:W.heap.size+2<=w.heap.size
 bel:Below W.heap.size W w
 b0:w.cell? ⟨W.heap.size,0,none⟩=some c0
 b1:w.cell? ⟨W.heap.size,1,none⟩=some c1
 b2:w.cell? ⟨W.heap.size,2,none⟩=some c2
 b3:w.cell? ⟨W.heap.size,3,none⟩=some c3
section
variable {W w w':World} {c0 c1 c2 c3:Value}
theorem RI.drew(h:RI W w c0 c1 c2 c3):RI W w.drew c0 c1 c2 c3:=⟨h.size,h.bel.drew,h.b0,h.b1,h.b2,h.b3⟩
theorem RI.past(h:RI W w c0 c1 c2 c3)(a:Below (W.heap.size+1) w w'):RI W w' c0 c1 c2 c3 :=have b:=h.size
 ⟨AL b a.size,h.bel.j (a.A ω),(a.cell (p:=⟨_,0,none⟩) (by show W.heap.size<_;omega)).j h.b0,(a.cell (p:=⟨_,1,none⟩) (by show W.heap.size<_;omega)).j h.b1,
  (a.cell (p:=⟨_,2,none⟩) (by show W.heap.size<_;omega)).j h.b2,(a.cell (p:=⟨_,3,none⟩) (by show W.heap.size<_;omega)).j h.b3⟩
theorem RI.z(h:RI W w c0 c1 c2 c3)(a:Below w.heap.size w w'):RI W w' c0 c1 c2 c3:=h.past (a.A (by have:=h.size;omega))
theorem RI.wrote{o:Nat}{b:List Int}(h:RI W w c0 c1 c2 c3)(a:Wrote w w' (W.heap.size+1) o b):RI W w' c0 c1 c2 c3:=h.past (a.z (Y _))
theorem RI.toS(h:RI W w c0 c1 c2 c3):w.cell? ⟨W.heap.size,0,none⟩=some c0/\w.cell? ⟨W.heap.size,1,none⟩=some c1/\w.cell? ⟨W.heap.size,2,none⟩=some c2/\w.cell? ⟨W.heap.size,3,none⟩=some c3/\RI W w c0 c1 c2 c3:=⟨h.b0,h.b1,h.b2,h.b3,h⟩
theorem RI.ofS(h:w.cell? ⟨W.heap.size,0,none⟩=some c0/\w.cell? ⟨W.heap.size,1,none⟩=some c1/\w.cell? ⟨W.heap.size,2,none⟩=some c2/\w.cell? ⟨W.heap.size,3,none⟩=some c3/\RI W w c0 c1 c2 c3):RI W w c0 c1 c2 c3:=h.2.2.2.2
end
theorem VG{P:Program}{c:Code}{Q:Exit->Act->World->Prop}{a:Act}(w:World)(d e f g:Value)(j k:TypeId)
  (h:∀b,RI w b d e f g->Fm b (w.heap.size+1) [0,0,0,0,0]->c.wp P Q a b):c.wp P Q a ((w.alloc (.cells #[d,e,f,g] j)).alloc (.cells #[.int .u8 0,.int .u8 0,.int .u8 0,.int .u8 0,.int .u8 0] k)):=by
 refine h _ ⟨σ,(KW _ _).alloc σ _,σ,σ,σ,σ⟩ ⟨λi b=>?_,λi b=>?_⟩
 ·rw[EC _ _ _ _ σ]
  have l:i<5:=b;have:i=0\/i=1\/i=2\/i=3\/i=4:=ω
  rcases this with h|h|h|h|h<;>subst h<;>rfl
 rw[DK,DK]
 exact XT _ _ _ ω
theorem YD(h f:Int){a b:List Int}(c:a=PM [0,0,0,0,0] 0 (be 1 h))(d:b=PM a 1 (be 4 f)):strOfNums b=RQ h f:=by
 have e:(be 1 h).length=1:=OL _ _;have g:(be 4 f).length=4:=OL _ _;unfold RQ;rw[<-TT];subst c d
 congr 1
theorem QW(t h f l n:Int)(w:World)(c:¬TJ h f):Calls prog 168 #[NI t h f l,.int .i64 n] w λe a=>e=.returned (.string empty)/\Below w.heap.size w a:=by
 have d:∀o,Below w.heap.size w (w.alloc o):=λo=>KW _ _
 unfold TJ at c
 by_cases a:0<=h/\h<=1
 ·have b:decide (0<=h/\h<=1)=true:=AM a
  have g:decide (1<=f/\f<=999999000)=false:=τ
  clear c a;go_enter func168,ntmps168
  go_wp2_with (first|(go_at_call 110;refine(vh _ _).A ?_;rw[b];rintro e i ⟨rfl,rfl⟩)|(go_at_call 111;refine(m8 _ _).A ?_;rw[g];rintro e j ⟨rfl,rfl⟩))
  go_ret;exact⟨rfl,d _⟩
 have b:decide (0<=h/\h<=1)=false:=AJ a
 clear c a;go_enter func168,ntmps168
 go_wp2_with (first|(go_at_call 110;refine(vh _ _).A ?_;rw[b];rintro e i ⟨rfl,rfl⟩))
 go_ret;exact⟨rfl,d _⟩
set_option maxRecDepth 4000 in
theorem QX(t h f l n:Int)(w:World)(N:TJ h f):Calls prog 168 #[NI t h f l,.int .i64 n] w λe a=>e=.returned (.string (LS 4 l t (RQ h f) n))/\Below w.heap.size w a:=by
 obtain⟨T,U,W,X⟩:=N;have P:decide (0<=h/\h<=1)=true:=τ
 have Q:decide (1<=f/\f<=999999000)=true:=τ
 have u1:IntKind.u64.wrap h=h:=XW h ω ω;have u2:IntKind.u64.wrap f=f:=XW f ω ω;obtain⟨c,D⟩:∃c,Hid (c=RQ h f):=⟨_,PY rfl⟩;rw[<-D.l];go_enter func168,ntmps168
 go_wp2_with (first|(go_at_call 110;refine(vh _ _).A ?_;rw[P];rintro e w1 ⟨rfl,rfl⟩)|(go_at_call 111;refine(m8 _ _).A ?_;rw[Q];rintro e w2 ⟨rfl,rfl⟩))
 refine VG w (.int .i64 t) (.int .i64 h) (.int .i64 f) (.int .i64 l) _ _ ?_;intro wa y m;have E:=PY y.toS;clear y
 go_region_held3 (λa=>a.cell? ⟨w.heap.size,0,none⟩=some (.int .i64 t)/\a.cell? ⟨w.heap.size,1,none⟩=some (.int .i64 h)/\a.cell? ⟨w.heap.size,2,none⟩=some (.int .i64 f)/\a.cell? ⟨w.heap.size,3,none⟩=some (.int .i64 l)/\RI w a (.int .i64 t) (.int .i64 h) (.int .i64 f) (.int .i64 l))
  (first|assumption|exact(RI.ofS E.l).drew.toS|exact(RI.wrote (RI.ofS (by assumption)) (by assumption)).toS)
  (first|(go_at_call 178;refine(cn (w.heap.size+1) 0 1 5 h _ ω ω ω (λi x=>⟨_,m.drew.cell (0+i) τ⟩) (λi x=>m.drew.froz (0+i) τ)).A ?_;rintro e S ⟨rfl,H⟩))
 have z:RI w S (.int .i64 t) (.int .i64 h) (.int .i64 f) (.int .i64 l):=RI.ofS (by assumption);have d:=m.drew.wrote H (by rw[OL];simp);obtain⟨p,s⟩:∃p,Hid (p=PM [0,0,0,0,0] 0 (be 1 h)):=⟨_,PY rfl⟩;have g:p.length=5:=by rw[s.l,jh _ _ _ (by rw[OL];simp)];rfl
 rw[<-s.l]at d;clear E H m;go_wp2_with fail;have F:=PY z.toS;clear z
 go_region_held3 (λa=>a.cell? ⟨w.heap.size,0,none⟩=some (.int .i64 t)/\a.cell? ⟨w.heap.size,1,none⟩=some (.int .i64 h)/\a.cell? ⟨w.heap.size,2,none⟩=some (.int .i64 f)/\a.cell? ⟨w.heap.size,3,none⟩=some (.int .i64 l)/\RI w a (.int .i64 t) (.int .i64 h) (.int .i64 f) (.int .i64 l))
  (first|assumption|exact(RI.ofS F.l).drew.toS|exact(RI.wrote (RI.ofS (by assumption)) (by assumption)).toS)
  (first|(go_at_call 178;refine(cn (w.heap.size+1) 1 4 4 f _ ω ω ω (λi x=>⟨_,d.drew.cell (1+i) (by rw[g];omega)⟩) (λi x=>d.drew.froz (1+i) (by rw[g];omega))).A ?_;rintro e wc ⟨rfl,I⟩))
 have A:RI w wc (.int .i64 t) (.int .i64 h) (.int .i64 f) (.int .i64 l):=RI.ofS (by assumption);have r:=d.drew.wrote I (by rw[OL,g];omega);obtain⟨j,u⟩:∃j,Hid (j=PM p 1 (be 4 f)):=⟨_,PY rfl⟩;have M:j.length=5:=by rw[u.l,jh _ _ _ (by rw[OL,g];omega),g]
 rw[<-u.l]at r;have v:strOfNums j=RQ h f:=YD h f s.l u.l;rw[<-D.l]at v;have O:c.size<=1048576:=by rw[<-v,BU,M];omega
 have G:∀q,Fm q (w.heap.size+1) j->(convert 22 9 (.slice (some ⟨w.heap.size+1,0,none⟩) 5 5)).run prog q=.ok (.string c) q:=λq R=>by
  have:=R.text (P:=prog) 22 5 9 underlying22 underlying5 underlying9 0 5 5 ω;rw[FJ,AV ω,v]at this;exact this
 have B:=PY G;have C:=PY r;clear F I d r G;go_wp2_with fail;have b:=PY A.toS;clear A;have K:w.heap.size+1<wc.heap.size:=by have:=(RI.ofS b.l).size;omega
 go_region_held3 (λa=>(convert 22 9 (.slice (some ⟨w.heap.size+1,0,none⟩) 5 5)).run prog a=.ok (.string c) a/\a.cell? ⟨w.heap.size,0,none⟩=some (.int .i64 t)/\a.cell? ⟨w.heap.size,3,none⟩=some (.int .i64 l)/\RI w a (.int .i64 t) (.int .i64 h) (.int .i64 f) (.int .i64 l))
  (first|assumption|exact⟨B.l _ C.l.drew,(RI.ofS b.l).drew.b0,(RI.ofS b.l).drew.b3,(RI.ofS b.l).drew⟩|exact⟨B.l _ (C.l.drew.z o K),((RI.ofS b.l).drew.z o).b0,((RI.ofS b.l).drew.z o).b3,(RI.ofS b.l).drew.z o⟩)
  (first|(go_at_call 116;refine(fk 4 l t c n _ O).A ?_;rintro e w4 ⟨rfl,o⟩))
 rename_i k;have L:=k.2.2.2.bel;clear k;go_wp2;go_ret;exact⟨rfl,L⟩
theorem OD(t h f l n:Int)(w:World):Calls prog 168 #[NI t h f l,.int .i64 n] w λe a=>e=.returned (.string (MB t h f l n))/\Below w.heap.size w a:=by
 unfold MB
 by_cases a:TJ h f
 ·rw[AF a];exact QX t h f l n w a
 rw[AG a];exact QW t h f l n w a
end
section
section
variable {P:Program} {e t:TypeId} {i:TypeInfo} {n:Nat}
theorem UO(b:∀w,(isAgg e).run P w=.ok false w)(a:List Int)(j:Nat)(c:j<a.length)(w:World):(part e (a.map (Value.int .u8)).toArray j).run P w=.ok (.int .u8 (a.getD j 0)) w:=by
 unfold part;simp[b,Result.andThen,c,List.getD]
theorem gz(c:P.underlying e=some (.int .u8))(d:Nat)(a b:Int)(w:World):(Op.equalIn (d+1) e (.int .u8 a) (.int .u8 b)).run P w=.ok (a == b) w:=by
 simp[Op.equalIn,FZ c,Result.andThen]
theorem QE(he:∀w,(isAgg e).run P w=.ok false w)(hu:P.underlying e=some (.int .u8))(d:Nat)(xs ys:List Int)(w:World):∀(js:List Nat),(∀j∈js,j<xs.length/\j<ys.length)->(Op.eqItems (d+1) e 1 (xs.map (Value.int .u8)).toArray (ys.map (Value.int .u8)).toArray js).run P w=.ok (js.all λj=>xs.getD j 0 == ys.getD j 0) w
 | [],_=>by simp[Op.eqItems]
 | j::js,h=>by
  have hj:=h j (EH);have ih:=QE he hu d xs ys w js (λq hq=>h q (DS _ hq));simp only[Op.eqItems,GX,KE,UO he xs j hj.1,UO he ys j hj.2,gz hu,IG]
  cases hc:(xs.getD j 0 == ys.getD j 0) with
  | false=>simp only[Bool.not_false,GZ,JD,List.all_cons,hc,Bool.false_and]
  | true=>simp only[Bool.not_true,EW,IJ,ih,List.all_cons,hc,IB]
theorem aj(a b:List Int)(f:a.length=b.length):((List.range a.length).all λj=>a.getD j 0 == b.getD j 0)=decide (a=b):=by
 rw[IQ];simp only[DO,EZ,beq_iff_eq,BC]
 constructor
 ·intro h
  apply List.ext_getElem f
  intro j c d;have:=h j c;simpa[List.getD,c,d] using this
 intro h j c;rw[h]
theorem SX(l:P.underlying t=some (.array n e))(g:P.info? e=some i)(d:P.cellsOf e=1)(f:∀w,(isAgg e).run P w=.ok false w)(c:P.underlying e=some (.int .u8))(a b:List Int)(m:a.length=n)(o:b.length=n)(w:World):(binOp .neq t (.agg (a.map (Value.int .u8)).toArray) (.agg (b.map (Value.int .u8)).toArray)).run P w=.ok (.bool (!decide (a=b))) w:=by
 have h:=run_equalIn_array (w:=w) 9999 (a.map (Value.int .u8)).toArray (b.map (Value.int .u8)).toArray l g;rw[d,<-m,QE f c 9998 a b w (List.range a.length) (λj k=>by have:=EZ.1 k;omega),aj a b ω]at h;simp only[binOp];simp[Op.equal,Op.maxDepth,h,Result.andThen]
end
end
theorem SR(w:World)(o:Obj):(w.alloc o).heap[w.heap.size]?=some o:=by
 show(w.heap.push o)[w.heap.size]?=some o;simp
theorem TW(w:World)(C:Array Value)(e:TypeId)(n i:Nat)(h:i<n):(w.alloc (.cells C e (n,n+1))).frozen? ⟨w.heap.size,i,none⟩=false:=by
 simp only[World.frozen?,SR];simp;omega
theorem UT(w:World)(C:Array Value)(e:TypeId)(a:Nat×Nat)(i:Nat):(w.alloc (.cells C e a)).cell? ⟨w.heap.size,i,none⟩=C[i]?:=by
 simp only[World.cell?,SR];simp
theorem TV(w:World)(p:ByteArray):∃a b,(convert 9 22 (.string p)).run prog w=.ok (.slice (some ⟨w.heap.size,0,none⟩) p.size a) b/\Below w.heap.size w b/\b.heap.size=w.heap.size+1/\Fm b w.heap.size (KU p)/\p.size<=a:=by
 refine⟨_,_,run_bytes_of_string w _ _ 5 p underlying9 underlying22 underlying5,((AC _ _).drew).alloc (Y _) _,σ,⟨λi a=>?_,λi a=>?_⟩,JA _ _ _ _⟩
 ·rw[ME]at a
  refine(UT w.drew _ _ _ i).j ?_;rw[bytesRow_at p _ i a];have b:i<p.data.toList.length:=a;simp only[AZ,KU,List.getElem?_map,BQ b];rfl
 rw[ME]at a
 exact TW w.drew _ _ _ i (by unfold bytesRow;simp;omega)
end
section
open Tryz
open Go.RowKit Go.Sort
theorem SL(a:List Pr)(h:OK a)(i:Nat):∀n,i+n<=a.length->ML (a.take i) (((a.drop i).take n).map US)=a.take (i+n)
 | 0,_=>by simp[ML]
 | n+1,hn=>by
  have e:n<(a.drop i).length:=by rw[BV];omega
  rw[AX e,CY,List.map_singleton,db,SL a h i n ω];rw[List.getElem_drop];have c:=h;unfold OK at c;rw[GE]at c;have b:i+n<a.length:=ω
  have d:=cq (US (a[i+n]'b)) (a.take (i+n)) [] [] (λx g=>by
   obtain⟨j,f,rfl⟩:=FG g;rw[BF]at f;rw[List.getElem_take]
   exact c j (i+n) ω b ω) (.inl rfl) σ
  rw[EA,EA]at d;rw[d];unfold VL US;simp;rw[show i+(n+1)=(i+n)+1 by omega,AX b]
theorem YE{a:List Pr}(h:LV a=true)(i:Nat):LV (a.take i)=true:=by
 obtain⟨e,b,c⟩:=(ah a).1 h;refine(ah _).2 ⟨by rw[BF];omega,λx d=>b x (DM d),?_⟩;unfold OK at *;exact c.sublist (List.take_sublist _ _)
theorem SN{a:List Pr}(h:LV a=true)(k:Nat)(g:k*20<a.length):NL (NU a k)=true:=by
 obtain⟨e,c,f⟩:=(ah a).1 h;refine yv (by rw[nC];omega) (λx b=>?_);unfold NU at b;obtain⟨p,d,rfl⟩:=DL.1 b;have:=c p (EU (DM d));unfold NZ US;simp[this.1,this.2]
theorem VZ{a:List Pr}(h:LV a=true)(k:Nat)(d:k*20<a.length):OE (a.take (k*20)) (NU a k)=0/\OA (a.take (k*20)) (NU a k)=a.take ((k+1)*20):=by
 obtain⟨g,i,c⟩:=(ah a).1 h
 have e:ML (a.take (k*20)) (NU a k)=a.take ((k+1)*20):=by
  have f:k*20+min 20 (a.length-k*20)<=a.length:=ω
  have:=SL a c (k*20) (min 20 (a.length-k*20)) f
  have b:((a.drop (k*20)).take (min 20 (a.length-k*20)))=((a.drop (k*20)).take 20):=by
   rw[<-BV];rw[<-GM,DA]
  rw[b]at this;unfold NU;rw[this]
  by_cases j:(k+1)*20<=a.length
  ·congr 1;omega
  rw[AV ω,AV ω]
 have b:OE (a.take (k*20)) (NU a k)=0:=by
  unfold OE;rw[YE h,SN h k d,e,AF σ,AF (by rw[BF];omega)]
 exact⟨b,by unfold OA;rw[AF b,e]⟩
end
section
open Tryz
open Go.RowKit
theorem WL{r k m:ByteArray}(h:KU r=[(k.size:Int)]++KU k++KU m)(g:k.size<=255):pc r=some (k,m):=by
 have e:=BY List.length h;simp only[AE,CA,AR,ME]at e;have f:=gx r ω
 have d:b0 r=k.size:=by
  rw[f]at h;simp only[List.singleton_append,DZ,JP]at h;omega
 unfold pc;rw[AF ω,d];have a:(KU k).length=k.size:=ME k
 have b:r.extract 1 (1+k.size)=k:=by
  apply ph
  rw[ir,h,BN,EY ρ,Nat.add_sub_cancel_left,EK a]
 have c:r.extract (1+k.size) r.size=m:=by
  apply ph
  rw[ir,h,EY (by rw[AE,a];simp),AV (by rw[ME];omega)]
 rw[b,c]
theorem bh{r m:ByteArray}{c:Ch}(d:NZ c=true)(h:KU r=MQ c++KU m):QI r=some (c,m):=by
 obtain⟨k,v,g⟩:=c;unfold NZ OU NY at d;simp only[BE,BC,JB,Bool.and_eq_false_iff,GV]at d;have i:=tS r
 cases g with
 | true =>
  have hv:v=empty:=by
   apply ph
   have:v.size=0:=by rcases d.2 with h|h<;>simp_all
   rw[xI];exact AB (by rw[ME];exact this)
  subst hv;have e:MQ (k,empty,true)=[1]++([(k.size:Int)]++KU k):=rfl;rw[e]at h
  have b:b0 r=1:=by
   have a:=BY List.length h;simp only[AE,CA,AR,ME]at a;rw[gx r ω]at h;simp only[List.singleton_append,DZ,JP]at h;omega
  have a:=WL (r:=r.extract 1 r.size) (k:=k) (m:=m) (by rw[i,h];simp) ω;unfold QI;rw[a];simp only[b,GZ]
 | false =>
  have e:MQ (k,v,false)=[0]++([(k.size:Int)]++KU k)++([(v.size:Int)]++KU v):=rfl;rw[e]at h
  have b:¬b0 r=1:=by
   have a:=BY List.length h;simp only[AE,CA,AR,ME]at a;rw[gx r ω]at h;simp only[List.singleton_append,DZ,JP]at h;omega
  have f:∀y∈([(v.size:Int)]++KU v)++KU m,0<=y/\y<=255:=by
   intro y a;have:=ie r y;rw[h]at this;exact this (by simp only[BN,BS]at a⊢;rcases a with a|a|a<;>simp[a])
  have a:=WL (r:=r.extract 1 r.size) (k:=k) (m:=strOfNums (([(v.size:Int)]++KU v)++KU m)) (by rw[i,h,ZL _ f];simp) ω;have j:=WL (r:=strOfNums (([(v.size:Int)]++KU v)++KU m)) (k:=v) (m:=m) (ZL _ f) ω;unfold QI;rw[a];simp only[b,IJ,j]
theorem WR:∀(l:List Ch) (n:Nat) (r:ByteArray) (o:List Ch),(∀x∈l,NZ x=true)->l.length<=n->KU r=l.flatMap MQ->∃b,run n r o=some (o++l,b)
 | [],n,r,o,_,_,h=>by
  have a:r.size=0:=by rw[<-ME,h];rfl
  exact⟨r,by rw[mL n o r a,EA]⟩
 | c::l,0,r,o,_,hn,_=>by simp at hn
 | c::l,n+1,r,o,hc,hn,h=>by
  rw[GI]at h;have i:1<=(MQ c).length:=by unfold MQ;split<;>simp<;>omega
  have a:¬r.size=0:=by
   have:=BY List.length h;rw[ME,AE]at this;omega
  have d:∀y∈l.flatMap MQ,0<=y/\y<=255:=by
   intro y e;have:=ie r y;rw[h]at this;exact this (List.mem_append_right _ e)
  have f:=bh (hc c EH) (m:=strOfNums (l.flatMap MQ)) (r:=r) (by rw[h,ZL _ d]);obtain⟨b,e⟩:=WR l n (strOfNums (l.flatMap MQ)) (o++[c]) (λx g=>hc x (DS _ g)) (by simp at hn;omega) (ZL _ d);refine⟨b,?_⟩;rw[run,AG a,f];simp only;rw[e,BN];rfl
theorem UU{x:Ch}(h:NZ x=true):1<=x.1.size/\x.1.size<=20/\x.2.1.size<=100:=by
 unfold NZ OU NY at h;simp only[BE,BC]at h;omega
theorem QD(b:List Ch)(h:∀x∈b,NZ x=true):KU (QY b)=b.flatMap MQ:=by
 refine ZL _ (λy a=>?_);obtain⟨x,c,a⟩:=IL.1 a;have:=UU (h x c);exact qQ x ω ω y a
theorem VX(b:List Ch)(h:NL b=true):(QY b).size≠0:=by
 intro a;obtain⟨c,d⟩:=WO h;have e:=QD b d;have:b.flatMap MQ=[]:=by rw[<-e];exact AB (by rw[ME];exact a)
 match b,c with
 | x::o',_ =>
  simp only[GI,List.append_eq_nil_iff]at this;have:=this.1;unfold MQ at this
  split at this<;>simp at this
theorem WQ(b:List Ch)(h:NL b=true):RU (QY b)=some b:=by
 obtain⟨d,a⟩:=WO h;obtain⟨e,c⟩:=WR b 21 (QY b) [] a ω (QD b a);unfold RU;rw[c,DQ];simp only;rw[AF ⟨VX b h,by unfold KZ;rw[AF h]⟩]
theorem al:(prog.info? 5).map (λi=>(i.zero,i.size,i.bytes))=some (some (.int .u8 0),1,1):=κ
def LM:ByteArray:=strOfNums (List.replicate 64 0)
theorem YM(w:World):Calls prog 180 #[] w λe a=>e=.returned (.string LM)/\Below w.heap.size w a:=by
 go_enter func180,ntmps180;go_wp2_with (at_make;refine yi rfl _ _ 22 rfl 5 _ 1 1 underlying22 al 64 rfl rfl ω ω ?_;intro e a c g;rw[xL _ rfl]at a;have f:=ES (P:=prog) e 22 5 underlying22 underlying5 w.heap.size 0 64 64 (List.replicate 64 0) rfl (λi b=>by rw[BH];have d:=a.cell i (.int .u8 0) (by rw[ED,AF b]);rw[d,AZ,ED,AF b];rfl) 9 underlying9;clear a);go_ret;exact⟨rfl,c⟩
theorem ik(n:Nat)(w:World)(K:8<=n)(L:n<=200):Calls prog 154 #[.int .i64 (n:Int)] w λe a=>∃g c,e=.returned (LE (some ⟨g,0,none⟩) n c none 0 0)/\w.heap.size<=g/\Row a g ((List.replicate n LM).map Value.string)/\Below w.heap.size w a:=by
 have G:(8:Int)<=(n:Int):=ω
 have H:(n:Int)<=200:=ω
 obtain⟨y,a,b,c,d⟩:=XI mn;have f:=Z (AH a (AH b (AH c d)));clear a b c d;go_enter func154,ntmps154;go_wp2;go_loopw [4] (λi wr=>∃(k:Nat) (v:Value),k<=n/\i=.int .i64 k/\Dsk w wr w.heap.size (w.heap.size+1) (w.heap.size+1+1) 9 134 v (.slice none 0 0) (List.replicate k LM) []) (λi _=>n-(intOf i).toNat)
 case atStart=>exact⟨0,_,AO _,rfl,Dsk.start _ _ _ _ _⟩
 case round =>
  obtain⟨k,v,M,rfl,a⟩:=hrel
  by_cases I:k<n
  ·have c:=Z a
   have z:=a.d0;have A:=a.fd0;clear a;go_wp2_with fail
   go_region_law (first|(refine step_append_lies _ ρ _ _ _ ρ (w.heap.size+1+1) 9 y (.string empty) 1 16 underlying23 f.l.1 f.l.2.1 f.l.2.2.1 f.l.2.2.2 rfl ω v (List.replicate k LM).length ((List.replicate k LM).map Value.string) ρ r.l ⟨h.heap.size,0,none⟩ 1 1 [.string LM] ρ rfl (World.news_of_block (AW h _)) (by intro u o;simp at o;subst o;rfl) ω (by rw[CU];unfold maxLen;omega) (by rw[CU];omega) ξ (h.heap.size+1) σ ?_;intro g b N j i m D;obtain⟨B,C⟩:=l.l.I i;have x:=Z j;have t:=Z i;have s:=Z m;clear j i m)|(refine LC ρ 180 #[] γ (YM _) ?_;rintro e h ⟨rfl,d⟩;refine⟨_,rfl,?_⟩;have p:=(c.l.drew.z d).d0;have q:=(c.l.drew.z d).fd0;have E:=(c.l.drew.z d).sz;have F:w.heap.size+1<h.heap.size:=ω;have r:=Z ((c.l.drew.z d).own.alloc (.cells #[.string LM] 9));have l:=Z ((c.l.drew.z d).alloc (.cells #[.string LM] 9))))
   all_goals
    have i:=l.l.push x.l t.l s.l σ;rw[CU,show List.replicate k LM++[LM]=List.replicate (k+1) LM by rw[KN]]at i;have j:=Z i;clear i;go_wp2;go_roundw
    case rel=>exact⟨k+1,_,ω,ν,j.l⟩
    case measure=>simp[intOf];omega
  have i:k=n:=ω
  subst i;have c:=MO a.own;rw[CU]at c
  obtain⟨g,b,rfl,j,l,d⟩:∃g b,v=.slice (some ⟨g,0,none⟩) k b/\w.heap.size+1+1<=g/\g<wr.heap.size/\Row wr g ((List.replicate k LM).map Value.string):=by
   rcases c with h|h
   ·omega
   exact h
  clear c;have c:=Z a.bel;have h:=Z d;clear d;have z:=a.d0;have A:=a.d1;have p:=a.r0;have q:=a.r1;have B:=a.fr0;have C:=a.fr1;clear a;go_wp2;refine AI (v:=LE (some ⟨g,0,none⟩) k b none 0 0) (by simp[results,results154,go_sem,p,q]) rfl ⟨g,b,rfl,ω,?_,?_⟩
  ·exact(h.l.other _ (by show w.heap.size≠g;omega) _).other _ (by show w.heap.size≠g;omega) _
  exact(c.l.setCell (Y _) _).setCell (Y _) _
end
section
open Tryz
abbrev il(m:Nat):List Value:=List.replicate m (.slice none 0 0)
end
end Go.Proofs.YtjdmogljfdffeaaGreatDoor
namespace Go.Proofs.YtjdmogljfdffeaaGreatDoor.nw
open _root_.ByteArray(empty)
open _root_.Go.Proofs.Tryz
open Go.RowKit
variable {w:World}
theorem new_s_no(n:Int)(w:World)(h:¬(8<=n/\n<=200)):Calls prog 154 #[.int .i64 n] w λe a=>e=.returned (LE none 0 0 none 0 0)/\Below w.heap.size w a:=by
 by_cases b:8<=n
 ·have a:200<n:=ω
  go_enter func154,ntmps154;go_wp2;exact AI (v:=LE none 0 0 none 0 0) (by simp[results,results154,go_sem]) rfl ⟨rfl,MF _ _⟩
 go_enter func154,ntmps154
 go_wp2;exact AI (v:=LE none 0 0 none 0 0) (by simp[results,results154,go_sem]) rfl ⟨rfl,MF _ _⟩
theorem f16{g:Nat}{a b c d e f i j k l m n o p q r:Value}(h:Row w g [a,b,c,d,e,f,i,j,k,l,m,n,o,p,q,r]):w.frozen? ⟨g,0,none⟩=false/\w.frozen? ⟨g,1,none⟩=false/\w.frozen? ⟨g,2,none⟩=false/\w.frozen? ⟨g,3,none⟩=false/\w.frozen? ⟨g,4,none⟩=false/\w.frozen? ⟨g,5,none⟩=false/\w.frozen? ⟨g,6,none⟩=false/\w.frozen? ⟨g,7,none⟩=false/\w.frozen? ⟨g,8,none⟩=false/\w.frozen? ⟨g,9,none⟩=false/\w.frozen? ⟨g,10,none⟩=false/\w.frozen? ⟨g,11,none⟩=false/\w.frozen? ⟨g,12,none⟩=false/\w.frozen? ⟨g,13,none⟩=false/\w.frozen? ⟨g,14,none⟩=false/\w.frozen? ⟨g,15,none⟩=false :=⟨h.E 0,h.E 1,h.E 2,h.E 3,h.E 4,h.E 5,h.E 6,h.E 7,h.E 8,h.E 9,h.E 10,h.E 11,h.E 12,h.E 13,h.E 14,h.E 15⟩
def newSS(n:Int):List ByteArray:=if 8<=n/\n<=200 then List.replicate n.toNat LM else []
theorem new_s_any(n:Int)(w:World):Calls prog 154 #[.int .i64 n] w λe b=>∃a c d f,e=.returned (LE a (newSS n).length c d 0 f)/\OwnS b a ((newSS n).map Value.string)/\(∀g,blk a (newSS n).length=some g->w.heap.size<=g)/\Below w.heap.size w b:=by
 by_cases h:8<=n/\n<=200
 ·obtain⟨m,rfl⟩:∃m:Nat,n=(m:Int):=⟨n.toNat,ω⟩
  have d:newSS (m:Int)=List.replicate m LM:=by simp[newSS,h]
  rw[d];refine(ik m w ω ω).A ?_;rintro e b ⟨g,c,rfl,j,k,f⟩
  exact⟨_,c,none,0,by rw[CU],.inr ⟨g,rfl,k⟩,λi a=>by rw[CU,MS g 0 m ω]at a;cases a;exact j,f⟩
 have d:newSS n=[]:=by simp[newSS,h]
 rw[d];refine(new_s_no n w h).A ?_;rintro e b ⟨rfl,f⟩;exact⟨none,0,none,0,rfl,.inl rfl,(λi a=>by cases a),f⟩
def worldV(f:Int)(a:Option Addr)(n c:Nat)(b:Option Addr)(d:Nat)(p:Option Addr)(m e:Nat):Value:=.agg #[.int .i64 f,.slice a n c,.slice b 0 d,.bool false,.int .i64 0,.int .i64 0,.int .i64 0,.int .i64 0,.int .i64 0,.int .i64 0,.int .i64 0,.int .i64 0,.int .i64 0,.slice none 0 0,.slice p m e,.slice none 0 0]
def NwPost(w d:World)(e:Ending)(j:Int)(b:List ByteArray)(m:Nat):Prop:=∃a c f h p i,e=.returned (worldV j a b.length c f h p m i)/\OwnS d a (b.map Value.string)/\OwnS d p (il m)/\(∀g,blk a b.length=some g->w.heap.size<=g/\∀k,blk p m=some k->g≠k)/\(∀g,blk p m=some g->w.heap.size<=g)/\Below w.heap.size w d
theorem OwnS.setw{a:Option Addr}{b:List Value}(h:OwnS w a b)(p:Addr)(d:∀g,a=some ⟨g,0,none⟩->b≠[]->p.block≠g)(v:Value):OwnS (w.setCell p v) a b:=by
 by_cases c:b=[]
 ·exact .inl c
 obtain⟨g,rfl,e⟩:=h.resolve_left c
 exact .inr ⟨g,rfl,e.other p (d g rfl c) v⟩
theorem row_atw{A:Array Value}{t:TypeId}{g:Nat}(a:w.heap.size=g):Row (w.alloc (.cells A t)) g A.toList:=by subst a;exact LU w A t
theorem nw_s_yes(n d:Int)(w:World)(q:8<=n/\n<=200)(Q:1<=d/\d<=8):Calls prog 118 #[.int .i64 n,.int .i64 d] w λe a=>NwPost w a e d (newSS n) 1:=by
 have O:decide (1<=d/\d<=8)=true:=AM Q;have hd:decide (8<=n/\n<=200)=true:=AM q;obtain⟨m,h⟩:∃m:Nat,(newSS n).length=m:=⟨_,rfl⟩;have S:m≠0:=by rw[<-h];unfold newSS;rw[AF q];simp;omega
 have cO:¬(m:Int)=0:=ω
 have f:=Z h;go_enter func118,ntmps118
 go_wp2_with (first|(go_at_call 154;refine(new_s_any n _).A ?_;rintro e r ⟨a,c,i,p,rfl,k,g,b⟩;rw[h]at g⊢;have l:=Z k;have j:=Z g;have K:=Z (((AC w.heap.size w).alloc (Y _) _).j (b.A σ));have R:=(LU w _ _).z b;obtain⟨z,A,B,C,D,E,F,G,H,I,s,t,u,v,x,y,M⟩:=c16 R;obtain⟨bQ,bT,bU,bV,bW,bY,bZ,cA,cC,cE,T,U,W,X,aY,aZ⟩:=f16 R;clear R;clear b k g)|(go_at_call 37;refine(QO _ _).A ?_;rw[O];rintro e L ⟨rfl,o⟩;rw[o];clear o L))
 have N:=l.l.lt m (λb=>it (by rw[f.l];exact b))
 have L:∀g,a=some ⟨g,0,none⟩->(newSS n).map Value.string≠[]->w.heap.size<g:=λg b k=>by
  have:=j.l g (by subst b;exact MS _ _ _ S);simp at this;omega
 refine AI (v:=worldV d a m c i p (some ⟨r.heap.size+1,0,none⟩) 1 1) (by simp[results,results118,go_sem,worldV,M,z,A,B,C,D,E,F,G,H,I,s,t,u,v,x,y]) rfl ⟨a,c,i,p,_,1,by rw[f.l],?_,?_,?_,?_,?_⟩
 ·refine OwnS.z ?_ ((AC _ _).alloc (Y _) _);refine OwnS.z ?_ ((AC _ _).alloc (Y _) _)
  iterate 16(refine OwnS.setw ?_ _ (λg b k=>by have:=L g b k;show w.heap.size≠g;omega) _)
  exact l.l
 ·exact .inr ⟨r.heap.size+1,rfl,row_atw σ⟩
 ·intro g b
  rw[f.l]at b;have P:=j.l g b;have R:=N g b;simp at P
  exact⟨ω,λk o=>by rw[MS _ _ _ ω]at o;cases o;omega⟩
 ·intro g b
  rw[MS _ _ _ ω]at b;cases b;omega
 refine Below.alloc ?_ τ _;refine Below.alloc ?_ τ _
 iterate 16(refine IA ?_ (by show w.heap.size<=w.heap.size;omega) _)
 exact K.l
end Go.Proofs.YtjdmogljfdffeaaGreatDoor.nw
namespace Go.Proofs.YtjdmogljfdffeaaGreatDoor
open _root_.ByteArray(empty)
section
open Tryz
open Go.RowKit
variable {p:Int}{cs xs:List Value}{R X c k m n:Nat}{a:Option Addr}{e:TypeId}{y:Value}{w w' w0:World}
theorem PE(a b:Nat)(g:a<4611686018427387904)(h:b<4611686018427387904):bits .xor .i64 (a:Int) (b:Int)=((a ^^^ b:Nat):Int):=by
 have i:a ^^^ b<2 ^ 62:=Nat.xor_lt_two_pow ω ω
 have d:(BitVec.ofInt 64 (a:Int)).toNat=a:=by
  rw[BitVec.ofInt_natCast,BitVec.toNat_ofNat];exact Nat.mod_eq_of_lt ω
 have f:(BitVec.ofInt 64 (b:Int)).toNat=b:=by
  rw[BitVec.ofInt_natCast,BitVec.toNat_ofNat];exact Nat.mod_eq_of_lt ω
 show IntKind.i64.wrap ((BitVec.ofInt 64 (a:Int) ^^^ BitVec.ofInt 64 (b:Int)).toNat:Int)=_;rw[BitVec.toNat_xor,d,f];simp[IntKind.wrap,IntKind.bits,IntKind.signed];omega
structure Rdr(w:World)(R:Nat)(a:Option Addr)(n c:Nat)(p:Int):Prop where
 b:w.cell? ⟨R,0,none⟩=some (.slice a n c)
 pc:w.cell? ⟨R,1,none⟩=some (.int .i64 p)
 f:w.frozen? ⟨R,1,none⟩=false
 bytes:∃g o,(n=0\/a=some ⟨g,o,none⟩)/\∀i,i<n->g≠R/\∃x:Int,w.cell? ⟨g,o+i,none⟩=some (.int .u8 x)/\0<=x/\x<=255
 p0:0<=p
 p1:p<=100000000
 n1:n<=2000
theorem KT(x:Int)(b:-9223372036854775808<=x)(d:x<=9223372036854775807):IntKind.i64.wrap x=x:=by
 simp[IntKind.wrap,IntKind.bits,IntKind.signed];omega
theorem au(R:Nat)(a:Option Addr)(n c:Nat)(p m:Int)(w:World)(h:Rdr w R a n c p):Calls prog 84 #[.pointer (some ⟨R,0,none⟩),.int .i64 m] w λe w'=>(∃v,e=.returned (.int .i64 v)/\0<=v/\(v=0\/v<m))/\(w'=w.setCell ⟨R,1,none⟩ (.int .i64 (p+1))\/w'=(w.setCell ⟨R,1,none⟩ (.int .i64 (p+1))).drew):=by
 have hb:=h.b;have hp:=h.pc;have hf:=h.f;have p0:=h.p0;have p1:=h.p1;have n1:=h.n1;obtain⟨g,o,G,d⟩:=h.bytes;have b:=Z d;clear h d;have P:IntKind.i64.wrap (p+1)=p+1:=by simp[IntKind.wrap,IntKind.bits,IntKind.signed];omega
 by_cases hm:m<1
 ·go_enter func84,ntmps84
  go_wp2;go_ret;exact⟨⟨0,rfl,ω,.inl rfl⟩,.inl rfl⟩
 by_cases u:n=0
 ·subst u
  go_enter func84,ntmps84;go_wp2;go_ret;exact⟨⟨0,rfl,ω,.inl rfl⟩,.inl rfl⟩
 obtain rfl:a=some ⟨g,o,none⟩:=G.resolve_left u
 have O:¬((n:Int)=0):=ω
 by_cases hk:p<(n:Int)
 ·obtain⟨k,rfl⟩:∃k:Nat,p=(k:Int):=⟨p.toNat,ω⟩
  obtain⟨l,x,r,A,B⟩:=b.l k ω;have t:(w.setCell ⟨R,1,none⟩ (.int .i64 ((k:Int)+1))).cell? ⟨g,o+k,none⟩=some (.int .u8 x):=(AP _ _ _ _ (λe=>l e.symm)).j r;go_enter func84,ntmps84;go_wp2;go_ret;exact⟨⟨x % m,rfl,Int.emod_nonneg _ ω,.inr (Int.emod_lt_of_pos _ ω)⟩,.inl rfl⟩
 obtain⟨k,rfl⟩:∃k:Nat,p=(k:Int):=⟨p.toNat,ω⟩
 obtain⟨i,f⟩:∃i:Nat,(k:Int) % (n:Int)=(i:Int):=⟨k % n,σ⟩;obtain⟨j,s⟩:∃j:Nat,((k:Int)*7+3) % (n:Int)=(j:Int):=⟨(k*7+3) % n,σ⟩;have H:i<n:=by have:=Int.emod_lt_of_pos (k:Int) (b:=(n:Int)) ω;omega
 have I:j<n:=by have:=Int.emod_lt_of_pos ((k:Int)*7+3) (b:=(n:Int)) ω;omega
 obtain⟨l,x,r,A,B⟩:=b.l i H;obtain⟨_,y,D,U,W⟩:=b.l j I;have t:(w.setCell ⟨R,1,none⟩ (.int .i64 ((k:Int)+1))).cell? ⟨g,o+i,none⟩=some (.int .u8 x):=(AP _ _ _ _ (λe=>l e.symm)).j r;have E:(w.setCell ⟨R,1,none⟩ (.int .i64 ((k:Int)+1))).cell? ⟨g,o+j,none⟩=some (.int .u8 y):=(AP _ _ _ _ (λe=>l e.symm)).j D;obtain⟨q,d⟩:∃q:Int,(k:Int) / (n:Int)=q:=⟨_,rfl⟩;have Q:0<=q:=by rw[<-d];exact Int.ediv_nonneg ω ω
 have S:q<=(k:Int):=by rw[<-d];exact Int.ediv_le_self _ ω
 have K:(k:Int).tmod (n:Int)=(i:Int):=by rw[DW ω];exact f
 have L:((k:Int)*7+3).tmod (n:Int)=(j:Int):=by rw[DW ω];exact s
 have T:(k:Int).tdiv (n:Int)=q:=by rw[Int.tdiv_eq_ediv_of_nonneg ω];exact d
 have aZ:(i:Int)<(n:Int):=ω
 have bE:(j:Int)<(n:Int):=ω
 have w1:IntKind.i64.wrap ((k:Int)*7)=(k:Int)*7:=by simp[IntKind.wrap,IntKind.bits,IntKind.signed];omega
 have w2:IntKind.i64.wrap ((k:Int)*7+3)=(k:Int)*7+3:=by simp[IntKind.wrap,IntKind.bits,IntKind.signed];omega
 clear b f s d;go_enter func84,ntmps84;go_wp2;have z:(w.setCell ⟨R,1,none⟩ (.int .i64 ((k:Int)+1))).cell? ⟨R,0,none⟩=some (.slice (some ⟨g,o,none⟩) n c):=γ
 have v:=Z (AH z (AH t E))
 go_region_held3 (λw'=>w'.cell? ⟨R,0,none⟩=some (.slice (some ⟨g,o,none⟩) n c)/\w'.cell? ⟨g,o+i,none⟩=some (.int .u8 x)/\w'.cell? ⟨g,o+j,none⟩=some (.int .u8 y))
  (first|assumption|exact v.l)
  (fail)
 obtain⟨b,d⟩:∃b,IntKind.i64.wrap (IntKind.i64.wrap (IntKind.i64.wrap (IntKind.i64.wrap (IntKind.i64.wrap x*131)+IntKind.i64.wrap (IntKind.i64.wrap y*1117))+IntKind.i64.wrap ((k:Int)*29))+IntKind.i64.wrap (IntKind.i64.wrap q*53))=b:=⟨_,rfl⟩
 have f:b=x*131+y*1117+(k:Int)*29+q*53:=by
  rw[<-d,KT x ω ω,KT y ω ω,KT q ω ω,KT (x*131) ω ω,KT (y*1117) ω ω,KT ((k:Int)*29) ω ω,KT (q*53) ω ω,KT (x*131+y*1117) ω ω,KT (x*131+y*1117+(k:Int)*29) ω ω,KT (x*131+y*1117+(k:Int)*29+q*53) ω ω]
 rw[d];have M:0<=b:=ω
 have N:b<=1000000000000:=ω
 clear d f;obtain⟨f,rfl⟩:∃f:Nat,b=(f:Int):=⟨b.toNat,ω⟩
 have C:bits .xor .i64 (f:Int) ((f:Int) / 64)=((f ^^^ (f / 64):Nat):Int):=by
  have e:((f:Int) / 64)=((f / 64:Nat):Int):=ω
  rw[e];exact PE f (f / 64) ω ω
 obtain⟨d,F⟩:∃d:Nat,f ^^^ (f / 64)=d:=⟨_,rfl⟩;rw[F]at C;have s:((d:Int)).tmod m=(d:Int) % m:=DW ω;go_wp2;go_ret;refine⟨⟨(d:Int) % m,?_,Int.emod_nonneg _ ω,.inr (Int.emod_lt_of_pos _ ω)⟩,.inr rfl⟩
 first|rfl|(rw[<-s];rfl)|(simp[s])
theorem Rdr.set(h:Rdr w R a n c p)(q:Int)(t:0<=q)(u:q<=100000000):Rdr (w.setCell ⟨R,1,none⟩ (.int .i64 q)) R a n c q:=by
 obtain⟨g,o,j,s⟩:=h.bytes;refine⟨(BZ w ⟨R,1,none⟩ ⟨R,0,none⟩ _ (λe=>absurd (BY Addr.off e) (by show ¬(1=0);decide))).j h.b,FD w _ _ h.pc,by rw[BL];exact h.f,⟨g,o,j,λi r=>?_⟩,t,u,h.n1⟩;obtain⟨b,x,l,d,f⟩:=s i r;exact⟨b,x,(AP _ _ _ _ (λe=>b e.symm)).j l,d,f⟩
theorem Rdr.drew(h:Rdr w R a n c p):Rdr w.drew R a n c p:=⟨h.b,h.pc,h.f,h.bytes,h.p0,h.p1,h.n1⟩
theorem QF(w:World)(R:Nat)(v:Value):w.grownBy (w.setCell ⟨R,1,none⟩ v) (some R) :=⟨rfl,rfl,rfl,by rw[BJ];exact Y _,λi d b=>BD _ _ _ _ (λe=>b (BY some e))⟩
theorem KX(R:Nat)(a:Option Addr)(n c:Nat)(p m:Int)(w:World)(h:Rdr w R a n c p)(f:p<100000000):Calls prog 84 #[.pointer (some ⟨R,0,none⟩),.int .i64 m] w λe w'=>(∃v,e=.returned (.int .i64 v)/\0<=v/\(v=0\/v<m))/\Rdr w' R a n c (p+1)/\w.grownBy w' (some R):=by
 have g:=h.p0
 refine(au R a n c p m w h).A λe w' d=>?_
 obtain⟨hv,rfl|rfl⟩:=d
 ·exact⟨hv,h.set (p+1) ω ω,QF w R _⟩
 refine⟨hv,(h.set (p+1) ω ω).drew,?_⟩
 have b:=QF w R (.int .i64 (p+1));exact⟨b.os,b.tape,b.output,b.size,b.block⟩
def Bys(w:World)(a:Option Addr)(n:Nat):Prop:=∃g o,(n=0\/a=some ⟨g,o,none⟩)/\∀i,i<n->g<w.heap.size/\∃x:Int,w.cell? ⟨g,o+i,none⟩=some (.int .u8 x)/\0<=x/\x<=255
theorem Bys.z(h:Bys w a n)(b:Below w.heap.size w w'):Bys w' a n:=by
 obtain⟨g,o,l,s⟩:=h;refine⟨g,o,l,λi r=>?_⟩;obtain⟨d,x,q,f,j⟩:=s i r;exact⟨AD d b.size,x,(b.cell (p:=⟨g,o+i,none⟩) d).j q,f,j⟩
theorem Bys.rdr(h:Bys w a n)(u:m<=n)(f:m<=2000)(c:Nat)(t:TypeId):Rdr (w.alloc (.cells #[.slice a m c,.int .i64 0] t)) w.heap.size a m c 0:=by
 obtain⟨g,o,j,r⟩:=h;refine⟨σ,σ,?_,⟨g,o,?_,λi s=>?_⟩,ω,ω,f⟩
 ·rw[DK]
  have e:w.heap[w.heap.size]?=none:=σ
  simp[World.frozen?,e]
 ·rcases j with h|h
  ·exact .inl ω
  exact .inr h
 obtain⟨q,x,l,b,d⟩:=r i ω
 exact⟨ω,x,(EN _ _ _ (by exact q)).j l,b,d⟩
theorem aq(a:Option Addr)(n c:Nat)(w:World)(h:Bys w a n)(q:n<=1048576)(l:n<=c):Calls prog 43 #[.slice a n c] w λe w'=>e=.returned (.pointer (some ⟨w.heap.size,0,none⟩))/\(∃m b,Rdr w' w.heap.size a m b 0)/\Below w.heap.size w w':=by
 by_cases f:n<=2000
 ·have d:(n:Int)<=2000:=ω
  go_enter func43,ntmps43;go_wp2;go_ret;exact⟨rfl,⟨n,c,h.rdr (Y _) f c _⟩,KW _ _⟩
 have d:2000<(n:Int):=ω
 have j:(2000:Int)<=(c:Int):=ω
 have b:=Z (h.rdr (m:=2000) ω (Y _) c 139);obtain⟨g,o,i,r⟩:=h;obtain rfl:a=some ⟨g,o,none⟩:=i.resolve_left ω;go_enter func43,ntmps43;go_wp2;go_ret;exact⟨rfl,⟨2000,c,b.l⟩,KW _ _⟩
theorem LZ{g i:Nat}{v:Value}(h:w.cell? ⟨g,i,none⟩=some v):g<w.heap.size:=by
 rcases FY g w.heap.size with b|b
 ·exact b
 exfalso
 have:w.heap[g]?=none:=DP b;simp[World.cell?,this]at h
theorem Rdr.z(h:Rdr w R a n c p)(b:Below w.heap.size w w'):Rdr w' R a n c p:=by
 obtain⟨g,o,r,t⟩:=h.bytes;have d:=LZ h.pc;refine⟨(b.cell (p:=⟨R,0,none⟩) d).j h.b,(b.cell (p:=⟨R,1,none⟩) d).j h.pc,(b.frozen (p:=⟨R,1,none⟩) d).j h.f,⟨g,o,r,λi s=>?_⟩,h.p0,h.p1,h.n1⟩;obtain⟨j,x,f,l,q⟩:=t i s;exact⟨j,x,(b.cell (p:=⟨g,o+i,none⟩) (LZ f)).j f,l,q⟩
theorem LK{b i:Nat}{v:Value}(f:w.grownBy w' (some R))(d:b≠R)(h:w.cell? ⟨b,i,none⟩=some v):w'.cell? ⟨b,i,none⟩=some v :=(CT (a:=⟨b,i,none⟩) (f.block b (LZ h) (λe=>d (by injection e)))).j h
theorem XX(s:ByteArray)(n:Int)(d:s.size<=64)(h:n<=1000):Hid (s.size*n.toNat+empty.size<=64000):=by
 show _<=_;have b:n.toNat<=1000:=ω
 have f:=Nat.mul_le_mul d b;have g:empty.size=0:=rfl;omega
theorem WI(s:ByteArray)(n:Int)(w:World)(x:s.size<=64)(l:n<=1000):Calls prog 119 #[.string s,.int .i64 n] w λe w'=>(∃t:ByteArray,e=.returned (.string t)/\t.size<=64000)/\Below w.heap.size w w':=by
 go_enter func119,ntmps119;go_wp2;go_loop [0,1,5] (λf b d=>∃(t u:ByteArray) (m:Int),f=.string t/\b=.int .i64 m/\d=.string u/\m<=1000/\Hid (t.size*m.toNat+u.size<=64000)/\t.size<=128000) (λ_ b _=>(intOf b).toNat)
 case atStart=>exact⟨s,empty,n,rfl,rfl,rfl,l,XX s n x l,ω⟩
 case round =>
  obtain⟨t,u,m,rfl,rfl,rfl,F,d,H⟩:=hrel
  by_cases D:0<m
  ·obtain⟨q,r,j,G⟩:∃q r:Nat,m.toNat=2*q+r/\r<2:=⟨m.toNat / 2,m.toNat % 2,ω,ω⟩
   have A:m=2*(q:Int)+(r:Int):=ω
   have b:=d.l;rw[j,Nat.mul_add]at b;have v:t.size*(2*q)=2*(t.size*q):=by rw[Nat.mul_left_comm]
   rw[v]at b;obtain⟨P,i⟩:∃P,t.size*q=P:=⟨_,rfl⟩;rw[i]at b
   have C:t.size<=64000:=by
    rcases FL r with h|h
    ·subst h
     have f:1<=q:=ω
     have:t.size<=t.size*q:=Nat.le_mul_of_pos_right _ f;omega
    have:t.size*1<=t.size*r:=Nat.mul_le_mul_left _ h
    omega
   have I:¬(9223372036854775807<t.size+t.size):=ω
   have E:m.tdiv 2=(q:Int):=by rw[Int.tdiv_eq_ediv_of_nonneg ω];omega
   have z:m / 2=(q:Int):=ω
   rcases FL r with h|h
   ·subst h
    have B:m % 2=0:=ω
    have g:¬(m % 2=1):=ω
    have o:¬(m.tmod 2=1):=by rw[DW ω];omega
    have f:Hid ((t++t).size*((q:Int)).toNat+u.size<=64000):=by
     show _<=_;rw[BM,BK,GD,i];omega
    clear d b j;go_wp2;exact⟨⟨_,_,_,rfl,rfl,rfl,ω,f.l,by rw[BK];omega⟩,by simp[intOf];omega⟩
   have g:r=1:=ω
   subst g;have g:m % 2=1:=ω
   have o:m.tmod 2=1:=by rw[DW ω];omega
   have B:¬(9223372036854775807<u.size+t.size):=ω
   have f:Hid ((t++t).size*((q:Int)).toNat+(u++t).size<=64000):=by
    show _<=_;rw[BM,BK,BK,GD,i];omega
   clear d b j;go_wp2;exact⟨⟨_,_,_,rfl,rfl,rfl,ω,(by rw[show((2*(q:Int)+1) / 2)=(q:Int) by omega];exact f.l),by rw[BK];omega⟩,by simp[intOf];omega⟩
  go_wp2
  go_ret;exact⟨⟨u,rfl,by have:=d.l;omega⟩,AC _ _⟩
def TU(W:World)(R:Nat)(a:Option Addr)(n c:Nat)(p:Int)(d:Int)(w:World):Prop:=(∃q,p<=q/\q<=p+d/\Rdr w R a n c q)/\W.grownBy w (some R)
theorem tg(t b:ByteArray){k:Int}(h:(t.size:Int)+k<=4):((t++b.extract 0 1).size:Int)+(k-1)<=4:=by
 rw[BK];have:(b.extract 0 1).size<=1:=by simp only[AK];omega
 omega
theorem bj(R:Nat)(a:Option Addr)(n c:Nat)(p:Int)(w:World)(h:Rdr w R a n c p)(L:p<99999000):Calls prog 161 #[.pointer (some ⟨R,0,none⟩)] w λe w'=>(∃t:ByteArray,e=.returned (.string t)/\t.size<=64000)/\TU w R a n c p 10 w':=by
 have I:=LZ h.pc;have O:=h.p0;go_enter func161,ntmps161;go_wp2_with fail;refine(KX R a n c p 8 _ h ω).A ?_;rintro e U ⟨⟨v,rfl,S,T⟩,d,b⟩
 by_cases s:v=0
 ·subst s
  go_wp2;go_ret;exact⟨⟨_,rfl,δ⟩,⟨p+1,ω,ω,d⟩,b⟩
 by_cases z:v=1
 ·subst z
  go_wp2;go_ret;exact⟨⟨_,rfl,δ⟩,⟨p+1,ω,ω,d⟩,b⟩
 by_cases A:v=2
 ·subst A
  go_wp2_with fail;refine(KX R a n c (p+1) 21 _ d ω).A ?_;rintro e D ⟨⟨u,rfl,u0,u1⟩,g,f⟩;have C:IntKind.i64.wrap (5+u)=5+u:=KT _ ω ω;go_wp2_with fail;refine(WI _ (5+u) _ δ ω).A ?_;rintro e E ⟨⟨t,rfl,j⟩,i⟩;go_wp2;go_ret;exact⟨⟨t,rfl,j⟩,⟨p+1+1,ω,ω,g.z i⟩,OS (OS b f) (RW _ i)⟩
 by_cases B:v=3
 ·subst B
  go_wp2;go_ret;exact⟨⟨_,rfl,δ⟩,⟨p+1,ω,ω,d⟩,b⟩
 go_wp2_with fail;refine(KX R a n c (p+1) 4 _ d ω).A ?_;rintro e D ⟨⟨u,rfl,u0,u1⟩,g,f⟩;have C:IntKind.i64.wrap (1+u)=1+u:=KT _ ω ω;have o:=Z g;have j:=Z (OS b f);clear d b g f h;go_wp2;go_loopw [3,4] (λd b wr=>∃(t:ByteArray) (k q:Int),d=.string t/\b=.int .i64 k/\0<=k/\k<=4/\(t.size:Int)+k<=4/\p<=q/\q+k<=p+6/\Rdr wr R a n c q/\w.grownBy wr (some R)) (λ_ b _=>(intOf b).toNat)
 case atStart=>exact⟨⟨#[]⟩,1+u,p+1+1,rfl,rfl,ω,ω,by show(0:Int)+(1+u)<=4;omega,ω,ω,o.l,j.l⟩
 case round =>
  obtain⟨t,k,q,rfl,rfl,M,N,H,P,Q,d,b⟩:=hrel
  by_cases K:0<k
  ·have f:=Z b
   clear b;go_wp2_with fail;refine(KX R a n c q 4 _ d ω).A ?_;rintro e E ⟨⟨x,rfl,F,G⟩,i,g⟩;have r:=Z i;have l:=Z (OS f.l g);clear i g d f;have g:IntKind.i64.wrap (k-1)=k-1:=KT _ ω ω;have i:t.size<=4:=ω
   have W:¬(9223372036854775807<t.size+1):=ω
   have f:x=0\/x=1\/x=2\/x=3:=ω
   clear F G;rcases f with rfl|rfl|rfl|rfl
   all_goals go_wp2
   all_goals go_roundw
   all_goals first
    | exact⟨_,k-1,q+1,rfl,rfl,ω,ω,tg _ _ ω,ω,ω,r.l,l.l⟩
    | (simp[intOf];omega)
  go_wp2
  go_ret;exact⟨⟨t,rfl,ω⟩,⟨q,ω,ω,d⟩,b⟩
theorem LB(w:World)(o:Obj):Below w.heap.size w (w.alloc o):=KW _ _
theorem UA{a b:World}{r:Option Nat}(h:a.grownBy b r)(p:Addr)(g:a.heap.size<=p.block)(v:Value):a.grownBy (b.setCell p v) r :=⟨h.os,h.tape,h.output,by rw[BJ];exact h.size,λi d f=>(BD _ _ _ _ (λe=>ω)).j (h.block i d f)⟩
theorem Rdr.keep{N:Nat}(h:Rdr w R a n c p)(d:R<N)(s:∀g o,a=some ⟨g,o,none⟩->0<n->g<N)(b:Below N w w'):Rdr w' R a n c p:=by
 obtain⟨g,o,f,u⟩:=h.bytes;refine⟨(b.cell (p:=⟨R,0,none⟩) d).j h.b,(b.cell (p:=⟨R,1,none⟩) d).j h.pc,(b.frozen (p:=⟨R,1,none⟩) d).j h.f,⟨g,o,f,λi t=>?_⟩,h.p0,h.p1,h.n1⟩;obtain⟨j,x,r,l,q⟩:=u i t;exact⟨j,x,(b.cell (p:=⟨g,o+i,none⟩) (s g o (f.resolve_left ω) ω)).j r,l,q⟩
theorem Rdr.lts(h:Rdr w R a n c p):R<w.heap.size/\∀g o,a=some ⟨g,o,none⟩->0<n->g<w.heap.size:=by
 refine⟨LZ h.pc,λg o f i=>?_⟩;obtain⟨o,q,b,j⟩:=h.bytes;have e:=b.resolve_left ω;rw[f]at e;injection e with e;injection e with d l;subst d;obtain⟨_,x,g,_⟩:=j 0 i;exact LZ g
def VY(b:List (ByteArray×ByteArray×Bool))(k v:Nat):Prop:=∀x∈b,x.1.size<=k/\x.2.1.size<=v
theorem NP{B:Nat}(h:w.ownsRow B e k y m cs):∃b d,y=.slice b m d:=by
 rcases MO h with ⟨d,f⟩|⟨g,b,d,_⟩
 ·exact⟨none,0,by rw[d,f]⟩
 exact⟨_,b,d⟩
structure BdS(w0 w:World)(e:TypeId)(k:Nat)(R:Nat)(a:Option Addr)(n c:Nat)(q:Int)(y:Value)(m:Nat)(cs:List Value):Prop where
 rd:Rdr w R a n c q
 own:w.ownsRow w0.heap.size e k y m cs
 gr:w0.grownBy w (some R)
 lR:R<w0.heap.size
 ga:∀g o,a=some ⟨g,o,none⟩->0<n->g<w0.heap.size
theorem BdS.pick{q d:Int}(h:BdS w0 w e k R a n c q y m cs)(f:Rdr w' R a n c d)(b:w.grownBy w' (some R)):BdS w0 w' e k R a n c d y m cs :=⟨f,h.own.kept b (.inr (λe=>by have:=(h.own.lt _ e).1;have:=h.lR;omega)),OS h.gr b,h.lR,h.ga⟩
theorem BdS.z{q:Int}(h:BdS w0 w e k R a n c q y m cs)(b:Below w.heap.size w w'):BdS w0 w' e k R a n c q y m cs :=⟨h.rd.z b,LR h.own b,OS h.gr (RW _ b),h.lR,h.ga⟩
theorem BdS.drew{q:Int}(h:BdS w0 w e k R a n c q y m cs):BdS w0 w.drew e k R a n c q y m cs:=h.z (AC _ _).drew
theorem BdS.lt{q:Int}(h:BdS w0 w e k R a n c q y m cs):w0.heap.size<=w.heap.size:=h.gr.size
theorem BdS.set{q:Int}(h:BdS w0 w e k R a n c q y m cs)(X i:Nat)(b:w0.heap.size<=X)(f:y.ownBlock≠some X)(v:Value):BdS w0 (w.setCell ⟨X,i,none⟩ v) e k R a n c q y m cs:=by
 have d:=h.lR;refine⟨h.rd.keep (N:=w0.heap.size) d h.ga ((AC _ _).setCell b _),AQ h.own f v,UA h.gr _ b _,d,h.ga⟩
theorem BdS.push{q:Int}{l:Value}{j:Nat}{d:List Value}(h:BdS w0 w e k R a n c q y m cs)(o:w'.ownsRow w0.heap.size e k l j d)(b:w.grownBy w' y.ownBlock):BdS w0 w' e k R a n c q l j d:=by
 have f:Below w0.heap.size w w':=MR b h.lt (λg e=>(h.own.lt _ e).1);exact⟨h.rd.keep (N:=w0.heap.size) h.lR h.ga f,o,⟨b.os.j h.gr.os,b.tape.j h.gr.tape,b.output.j h.gr.output,AL h.gr.size b.size,λi g r=>(f.block i g).j (h.gr.block i g r)⟩,h.lR,h.ga⟩
structure BdX(w0 w:World)(e:TypeId)(k:Nat)(R:Nat)(a:Option Addr)(n c:Nat)(q:Int)(y:Value)(m:Nat)(cs:List Value)(X:Nat)(xs:List Value):Prop where
 s:BdS w0 w e k R a n c q y m cs
 row:Row w X xs
 xo:y.ownBlock≠some X
 xb:w0.heap.size<=X
theorem BdX.ne{q:Int}(h:BdX w0 w e k R a n c q y m cs X xs):X≠R:=by have:=h.xb;have:=h.s.lR;omega
theorem BdX.pick{q d:Int}(h:BdX w0 w e k R a n c q y m cs X xs)(f:Rdr w' R a n c d)(b:w.grownBy w' (some R)):BdX w0 w' e k R a n c d y m cs X xs :=⟨h.s.pick f b,h.row.I b (λe=>h.ne (by injection e)),h.xo,h.xb⟩
theorem BdX.z{q:Int}(h:BdX w0 w e k R a n c q y m cs X xs)(b:Below w.heap.size w w'):BdX w0 w' e k R a n c q y m cs X xs :=⟨h.s.z b,h.row.z b,h.xo,h.xb⟩
theorem BdX.drew{q:Int}(h:BdX w0 w e k R a n c q y m cs X xs):BdX w0 w.drew e k R a n c q y m cs X xs:=h.z (AC _ _).drew
theorem BdX.set{q:Int}(h:BdX w0 w e k R a n c q y m cs X xs)(i:Nat)(b:i<xs.length)(v:Value):BdX w0 (w.setCell ⟨X,i,none⟩ v) e k R a n c q y m cs X (xs.set i v) :=⟨h.s.set X i h.xb h.xo v,h.row.set i b v,h.xo,h.xb⟩
theorem BdS.box{q:Int}(h:BdS w0 w e k R a n c q y m cs)(A:Array Value)(t:TypeId):BdX w0 (w.alloc (.cells A t)) e k R a n c q y m cs w.heap.size A.toList :=⟨h.z (LB _ _),LU _ _ _,λe=>by have:=(h.own.lt _ e).2;omega,h.lt⟩
theorem XY(w:World)(cs:Array Value)(t:TypeId):∀j u,cs.toList[j]?=some u->(w.alloc (.cells cs t)).cell? ((⟨w.heap.size,0,none⟩:Addr).add j)=some u:=World.news_of_block (AW w (.cells cs t))
theorem WA:(prog.info? 45).map (λi=>(i.zero,i.size,i.bytes))=some (some (.agg #[.string empty,.string empty,.bool false]),3,40):=κ
theorem PL{P:Program}{z:Value}{b d:Nat}(h:(P.info? e).map (λi=>(i.zero,i.size,i.bytes))=some (some z,b,d)):∃i,P.info? e=some i/\i.zero=some z/\i.size=b/\i.bytes=d:=by
 cases h1:P.info? e with
 | none=>rw[h1]at h;cases h
 | some i=>rw[h1]at h;simp at h;exact⟨i,rfl,h.1,h.2.1,h.2.2⟩
theorem im(k v:ByteArray)(g:Bool):∀u∈[Value.string k,.string v,.bool g],u.oneCell'=true:=by
 intro u b;simp only[DX,EE,GR]at b;rcases b with rfl|rfl|rfl<;>rfl
theorem QT(o:List (ByteArray×ByteArray×Bool))(c:ByteArray×ByteArray×Bool):MJ (o++[c])=MJ o++[.string c.1,.string c.2.1,.bool c.2.2]:=by rw[xq];rfl
theorem XR(R:Nat)(a:Option Addr)(n c:Nat)(p:Int)(w:World)(h:Rdr w R a n c p)(hp:p<99990000):Calls prog 126 #[.pointer (some ⟨R,0,none⟩)] w λe w'=>(∃v d,e=.returned v/\w'.ownsRow w.heap.size 45 3 v d.length (MJ d)/\(1<=d.length/\d.length<=20)/\VY d 3 100)/\TU w R a n c p 600 w':=by
 have p0:=h.p0;obtain⟨i0,b,f,g,i⟩:=PL WA;have HI:=Z (AH b (AH f (AH g i)));clear b f g i
 have b:BdS w (w.alloc (.cells #[] 45)) 45 3 R a n c p (.slice (some ⟨w.heap.size,0,none⟩) 0 0) 0 [] :=⟨h.z (LB _ _),CJ _ #[] 0 (Y _) σ σ,RW _ (LB _ _),h.lts.1,h.lts.2⟩
 clear h;go_enter func126,ntmps126;go_wp2_with fail;refine(KX R a n c p 4 _ b.rd ω).A ?_;rintro e w1 ⟨⟨v,rfl,j,l⟩,i,g⟩;have f:=b.pick i g;have hv:IntKind.i64.wrap (1+v)=1+v:=KT _ ω ω;clear b i g;go_wp2_with fail;refine(KX R a n c (p+1) 10 _ f.rd ω).A ?_;rintro e w2 ⟨⟨u,rfl,u0,u1⟩,i,g⟩;have b:=f.pick i g;clear f i g;go_upto_if 13 with fail;go_cut [4] from 11 to 16 (λf r=>∃(N q:Int),f=.int .i64 N/\1<=N/\N<=20/\p<=q/\q<=p+3/\BdS w r 45 3 R a n c q (.slice (some ⟨w.heap.size,0,none⟩) 0 0) 0 [])
 case first =>
  by_cases i:u=0
  ·subst i
   go_wp2_with fail;refine(KX R a n c (p+1+1) 2 _ b.rd ω).A ?_;rintro e s ⟨⟨z,rfl,B,I⟩,g,f⟩;have Q:=b.pick g f;have o:IntKind.i64.wrap (20-z)=20-z:=KT _ ω ω;clear b g f;go_wp2_with fail;go_meet;exact⟨20-z,p+1+1+1,rfl,ω,ω,ω,ω,Q⟩
  go_wp2_with fail
  go_meet;exact⟨1+v,p+1+1,rfl,ω,ω,ω,ω,b⟩
 case rest =>
 obtain⟨N,q,rfl,N0,N1,dU,dV,Q⟩:=hcut;clear b u0 u1 hv j l;go_wp2;go_loopw [3,5] (λy f wr=>∃(d:List (ByteArray×ByteArray×Bool)) (q:Int) (b:Value),b=y/\f=.int .i64 (d.length:Int)/\(d.length:Int)<=N/\p<=q/\q<=p+3+20*(d.length:Int)/\VY d 3 100/\BdS w wr 45 3 R a n c q y d.length (MJ d)) (λ_ f _=>(N-intOf f).toNat)
 case atStart=>exact⟨[],q,_,rfl,rfl,τ,ω,τ,(λx G=>by simp at G),Q⟩
 case round =>
  obtain⟨d,q,y,rfl,rfl,hl,q0,q1,f,F⟩:=hrel;have aX:=Z f;clear f;have cT:d.length<=20:=ω
  by_cases dR:(d.length:Int)<N
  ·have dM:¬N<=(d.length:Int):=ω
   obtain⟨D,E,rfl⟩:=NP F.own;have eB:IntKind.i64.wrap ((d.length:Int)+1)=(d.length:Int)+1:=KT _ ω ω;go_upto_region 8 with fail;go_cut [6] from 17 to 58 (λg r=>∃(X:Nat) (i:ByteArray) (f:Bool),g=.pointer (some ⟨X,0,none⟩)/\i.size=2/\BdX w r 45 3 R a n c (q+1+1) (.slice D d.length E) d.length (MJ d) X [.string i,.string ⟨#[]⟩,.bool f])
   case first =>
    refine AN (S:=λw'=>True) κ (trivial) (λj=>?_);refine V 0 (.pointer (some ⟨R,0,none⟩)) rfl j (V 5 (.pointer (some ⟨R,0,none⟩)) rfl j ?_);simp only[J];refine DH (rs:=[1,9]) κ σ ?_;refine AY rfl (λs l=>?_) (AY rfl (λs l=>?_) DE)
    ·refine LC ρ _ _ γ (KX R a n c q 8 _ F.drew.rd ω) ?_
     rintro e w4 ⟨⟨P,rfl,H,K⟩,o,g⟩;refine⟨_,rfl,?_⟩;have I:=F.drew.pick o g;clear o g;obtain⟨x,rfl⟩:∃k:Nat,P=(k:Int):=⟨P.toNat,ω⟩;have cY:(x:Int)<=8:=ω
     have aW:x<8:=ω
     clear H K;have cQ:((⟨#[97,98,99,100,101,102,103,104]⟩:ByteArray).extract x 8).size=8-x:=by simp only[AK];show min 8 8-x=8-x;omega
     have aV:(1:Int)<=(((8-x:Nat)):Int):=ω
     obtain⟨A,T⟩:∃z,((⟨#[97,98,99,100,101,102,103,104]⟩:ByteArray).extract x 8).extract 0 1=z:=⟨_,rfl⟩;have cS:A.size=1:=by rw[<-T];simp only[AK];show min 1 (min 8 8-x)-0=1;omega
     obtain⟨i,S⟩:∃z,(⟨#[107]⟩:ByteArray)++A=z:=⟨_,rfl⟩;have M:i.size=2:=by rw[<-S,BK];show 1+A.size=2;omega
     have dH:¬(9223372036854775807<1+A.size):=ω
     refine l.l _ _ j (λ_=>?_)
     try simp only[J]
     refine V 2 (.string ((⟨#[97,98,99,100,101,102,103,104]⟩:ByteArray).extract x 8)) rfl j (V 3 (.string A) rfl j (V 4 (.string i) rfl j ?_));simp only[J];refine DH (rs:=[6,9]) κ σ ?_;refine AY rfl (λs l=>?_) (AY rfl (λs l=>?_) DE)
     ·refine LC ρ _ _ γ (KX R a n c (q+1) 4 _ I.rd ω) ?_
      rintro e K ⟨⟨H,rfl,u0,u1⟩,o,g⟩;refine⟨_,rfl,?_⟩;have L:=I.pick o g;clear o g;obtain⟨f,O⟩:∃g:Bool,(H == 0)=g:=⟨_,rfl⟩;have aR:decide (H=0)=f:=by rw[<-O];rfl
      refine l.l _ _ j (λ_=>?_)
      try simp only[J]
      refine V 7 (.bool f) rfl j (V 8 (.agg #[.string i,.string ⟨#[]⟩,.bool f]) rfl j ?_);simp only[J];refine RD 9 rfl (λs l=>?_);go_simp;have B:=(L.box #[.string ⟨#[]⟩,.string ⟨#[]⟩,.bool false] 45);obtain⟨X,t⟩:∃z,z=K.heap.size:=⟨_,rfl⟩;obtain⟨r,o⟩:∃z,z=(K.alloc (.cells #[.string ⟨#[]⟩,.string ⟨#[]⟩,.bool false] 45)):=⟨_,rfl⟩;rw[<-o,<-t]at B;rw[<-o,<-t];clear o t;refine l.l _ _ j (λ_=>?_)
      try simp only[J]
      refine RD 10 rfl (λs l=>?_);have o:=B;obtain⟨U,l1,l2⟩:=o.row.k3;obtain⟨t,cF,cH⟩:=o.row.z3;have W:=o.row.lt;go_simp;refine l.l _ _ j (λ_=>?_)
      try simp only[J]
      refine DN ?_;have C:BdX w (((r.setCell ⟨X,0,none⟩ (.string i)).setCell ⟨X,1,none⟩ (.string ⟨#[]⟩)).setCell ⟨X,2,none⟩ (.bool f)) 45 3 R a n c (q+1+1) (.slice D d.length E) d.length (MJ d) X [.string i,.string ⟨#[]⟩,.bool f]:=((o.set 0 σ (.string i)).set 1 σ (.string ⟨#[]⟩)).set 2 σ (.bool f);go_wp2_with fail;go_meet;exact⟨X,i,f,rfl,M,C⟩
     go_simp
     have B:=(I.box #[.string ⟨#[]⟩,.string ⟨#[]⟩,.bool false] 45);obtain⟨X,t⟩:∃z,z=w4.heap.size:=⟨_,rfl⟩;obtain⟨r,o⟩:∃z,z=(w4.alloc (.cells #[.string ⟨#[]⟩,.string ⟨#[]⟩,.bool false] 45)):=⟨_,rfl⟩;rw[<-o,<-t]at B;rw[<-o,<-t];clear o t;refine l.l _ _ j (λ_=>?_)
     try simp only[J]
     refine RD 6 rfl (λs l=>?_);refine LC ρ _ _ γ (KX R a n c (q+1) 4 _ B.s.rd ω) ?_;rintro e K ⟨⟨H,rfl,u0,u1⟩,o,g⟩;refine⟨_,rfl,?_⟩;have L:=B.pick o g;clear o g;obtain⟨f,O⟩:∃g:Bool,(H == 0)=g:=⟨_,rfl⟩;have aR:decide (H=0)=f:=by rw[<-O];rfl
     refine l.l _ _ j (λ_=>?_)
     try simp only[J]
     refine V 7 (.bool f) rfl j (V 8 (.agg #[.string i,.string ⟨#[]⟩,.bool f]) rfl j ?_);simp only[J];refine RD 10 rfl (λs l=>?_);have o:=L;obtain⟨U,l1,l2⟩:=o.row.k3;obtain⟨t,cF,cH⟩:=o.row.z3;have W:=o.row.lt;go_simp;refine l.l _ _ j (λ_=>?_)
     try simp only[J]
     refine DN ?_;have C:BdX w (((K.setCell ⟨X,0,none⟩ (.string i)).setCell ⟨X,1,none⟩ (.string ⟨#[]⟩)).setCell ⟨X,2,none⟩ (.bool f)) 45 3 R a n c (q+1+1) (.slice D d.length E) d.length (MJ d) X [.string i,.string ⟨#[]⟩,.bool f]:=((o.set 0 σ (.string i)).set 1 σ (.string ⟨#[]⟩)).set 2 σ (.bool f);go_wp2_with fail;go_meet;exact⟨X,i,f,rfl,M,C⟩
    go_simp
    have B:=(F.box #[.string ⟨#[]⟩,.string ⟨#[]⟩,.bool false] 45).drew;obtain⟨X,t⟩:∃z,z=wr.heap.size:=⟨_,rfl⟩;obtain⟨r,o⟩:∃z,z=(wr.alloc (.cells #[.string ⟨#[]⟩,.string ⟨#[]⟩,.bool false] 45)).drew:=⟨_,rfl⟩;rw[<-o,<-t]at B;rw[<-o,<-t];clear o t;refine l.l _ _ j (λ_=>?_)
    try simp only[J]
    refine RD 1 rfl (λs l=>?_);refine LC ρ _ _ γ (KX R a n c q 8 _ B.s.rd ω) ?_;rintro e w4 ⟨⟨P,rfl,H,K⟩,o,g⟩;refine⟨_,rfl,?_⟩;have I:=B.pick o g;clear o g;obtain⟨x,rfl⟩:∃k:Nat,P=(k:Int):=⟨P.toNat,ω⟩;have cY:(x:Int)<=8:=ω
    have aW:x<8:=ω
    clear H K;have cQ:((⟨#[97,98,99,100,101,102,103,104]⟩:ByteArray).extract x 8).size=8-x:=by simp only[AK];show min 8 8-x=8-x;omega
    have aV:(1:Int)<=(((8-x:Nat)):Int):=ω
    obtain⟨A,T⟩:∃z,((⟨#[97,98,99,100,101,102,103,104]⟩:ByteArray).extract x 8).extract 0 1=z:=⟨_,rfl⟩;have cS:A.size=1:=by rw[<-T];simp only[AK];show min 1 (min 8 8-x)-0=1;omega
    obtain⟨i,S⟩:∃z,(⟨#[107]⟩:ByteArray)++A=z:=⟨_,rfl⟩;have M:i.size=2:=by rw[<-S,BK];show 1+A.size=2;omega
    have dH:¬(9223372036854775807<1+A.size):=ω
    refine l.l _ _ j (λ_=>?_)
    try simp only[J]
    refine V 2 (.string ((⟨#[97,98,99,100,101,102,103,104]⟩:ByteArray).extract x 8)) rfl j (V 3 (.string A) rfl j (V 4 (.string i) rfl j ?_));simp only[J];refine RD 6 rfl (λs l=>?_);refine LC ρ _ _ γ (KX R a n c (q+1) 4 _ I.s.rd ω) ?_;rintro e K ⟨⟨H,rfl,u0,u1⟩,o,g⟩;refine⟨_,rfl,?_⟩;have L:=I.pick o g;clear o g;obtain⟨f,O⟩:∃g:Bool,(H == 0)=g:=⟨_,rfl⟩;have aR:decide (H=0)=f:=by rw[<-O];rfl
    refine l.l _ _ j (λ_=>?_)
    try simp only[J]
    refine V 7 (.bool f) rfl j (V 8 (.agg #[.string i,.string ⟨#[]⟩,.bool f]) rfl j ?_);simp only[J];refine RD 10 rfl (λs l=>?_);have o:=L;obtain⟨U,l1,l2⟩:=o.row.k3;obtain⟨t,cF,cH⟩:=o.row.z3;have W:=o.row.lt;go_simp;refine l.l _ _ j (λ_=>?_)
    try simp only[J]
    refine DN ?_;have C:BdX w (((K.setCell ⟨X,0,none⟩ (.string i)).setCell ⟨X,1,none⟩ (.string ⟨#[]⟩)).setCell ⟨X,2,none⟩ (.bool f)) 45 3 R a n c (q+1+1) (.slice D d.length E) d.length (MJ d) X [.string i,.string ⟨#[]⟩,.bool f]:=((o.set 0 σ (.string i)).set 1 σ (.string ⟨#[]⟩)).set 2 σ (.bool f);go_wp2_with fail;go_meet;exact⟨X,i,f,rfl,M,C⟩
   case rest =>
   obtain⟨X,i,f,rfl,M,C⟩:=hcut;clear F;go_upto_if 32 with fail;go_cut [] from 17 to 58 (λr=>∃(o:ByteArray) (A:Int),o.size<=3/\q<=A/\A<=q+3/\BdX w r 45 3 R a n c A (.slice D d.length E) d.length (MJ d) X [.string o,.string ⟨#[]⟩,.bool f])
   case first =>
    by_cases S:8<N
    ·go_upto_region 10 with fail
     refine YH (8) (S:=λw'=>w'.cell? ⟨X,0,none⟩=some (.string i)) κ (C.drew.row.y 0) (λj=>?_);refine MZ 0 (.pointer (some ⟨X,0,none⟩)) rfl j (MZ 1 (.string i) rfl j (MZ 2 (.pointer (some ⟨R,0,none⟩)) rfl j ?_));simp only[J];refine OY 3 rfl (λs l=>?_);refine LC ρ _ _ γ (KX R a n c (q+1+1) 3 _ C.drew.s.rd ω) ?_;rintro e L ⟨⟨H,rfl,B,I⟩,z,g⟩;refine⟨_,rfl,?_⟩;have t:=C.drew.pick z g;clear z g;obtain⟨z,rfl⟩:∃k:Nat,H=(k:Int):=⟨H.toNat,ω⟩;have eF:(z:Int)<=3:=ω
     have P:z<3:=ω
     clear B I;have T:((⟨#[120,121,122]⟩:ByteArray).extract z 3).size=3-z:=by simp only[AK];show min 3 3-z=3-z;omega
     have O:(1:Int)<=(((3-z:Nat)):Int):=ω
     obtain⟨g,K⟩:∃x,((⟨#[120,121,122]⟩:ByteArray).extract z 3).extract 0 1=x:=⟨_,rfl⟩;have dQ:g.size=1:=by rw[<-K];simp only[AK];show min 1 (min 3 3-z)-0=1;omega
     have zk:¬(9223372036854775807<i.size+g.size):=ω
     refine l.l _ _ (t.row.y 0) (λB=>?_)
     try simp only[J]
     refine MZ 4 (.string ((⟨#[120,121,122]⟩:ByteArray).extract z 3)) rfl B (MZ 5 (.string g) rfl B (MZ 6 (.string (i++g)) rfl B (MZ 7 (.pointer (some ⟨X,0,none⟩)) rfl B ?_)));simp only[J];refine RZ (rs:=[8]) κ σ ?_;refine AllReadyT.last rfl (λs l=>?_);have U:=t.row.y 0;have lf:=t.row.E 0;have W:=t.row.lt;go_simp;refine l.l _ _ trivial (λ_=>?_)
     try simp only[J]
     refine XH κ ?_ _;have I:BdX w (L.setCell ⟨X,0,none⟩ (.string (i++g))) 45 3 R a n c (q+1+1+1) (.slice D d.length E) d.length (MJ d) X [.string (i++g),.string ⟨#[]⟩,.bool f]:=t.set 0 σ (.string (i++g));go_wp2_with fail;go_meet;exact⟨i++g,q+1+1+1,by rw[BK];omega,ω,ω,I⟩
    go_wp2_with fail
    go_meet;exact⟨i,q+1+1,ω,ω,ω,C⟩
   case rest =>
   obtain⟨o,A,U,eG,eH,l⟩:=hcut;obtain⟨s,z,B⟩:=l.row.k3;have H:=l.row.lt;go_upto_if 43 with fail;clear s z B H;go_cut [] from 17 to 58 (λr=>∃(t:ByteArray) (j:Int),t.size<=64000/\q<=j/\j<=q+15/\BdX w r 45 3 R a n c j (.slice D d.length E) d.length (MJ d) X [.string o,.string t,.bool f])
   case first =>
    cases f with
    | true =>
     go_wp2_with fail;go_meet;exact⟨⟨#[]⟩,A,δ,ω,ω,l⟩
    | false =>
     go_wp2_with fail;refine(bj R a n c A _ l.s.rd ω).A ?_;rintro e P ⟨⟨t,rfl,O⟩,⟨K,S,T,z⟩,s⟩;have g:=l.pick z s;clear z s;obtain⟨s,z,B⟩:=g.row.k3;have I:=g.row.E 1;have H:=g.row.lt;have L:BdX w (P.setCell ⟨X,1,none⟩ (.string t)) 45 3 R a n c K (.slice D d.length E) d.length (MJ d) X [.string o,.string t,.bool false]:=g.set 1 σ (.string t);go_wp2_with fail;go_meet;exact⟨t,K,O,ω,ω,L⟩
   case rest =>
   obtain⟨t,j,O,eI,eJ,g⟩:=hcut;obtain⟨s,z,B⟩:=g.row.k3;have I:=g.row.E 1;have H:=g.row.lt;go_upto_if 50 with fail;go_cut [] from 17 to 58 (λr=>∃(t:ByteArray),t.size<=100/\BdX w r 45 3 R a n c j (.slice D d.length E) d.length (MJ d) X [.string o,.string t,.bool f])
   case first =>
    by_cases L:t.size<=100
    ·have P:¬(100<(t.size:Int)):=ω
     go_wp2_with fail;go_meet;exact⟨t,L,g⟩
    have P:100<(t.size:Int):=ω
    have S:(100:Int)<=(t.size:Int):=ω
    have K:BdX w (_) 45 3 R a n c j (.slice D d.length E) d.length (MJ d) X [.string o,.string (t.extract 0 100),.bool f]:=g.set 1 σ (.string (t.extract 0 100));go_wp2_with fail;go_meet;exact⟨t.extract 0 100,by simp only[AK];omega,K⟩
   case rest =>
   clear s z B I H g;obtain⟨z,W,s⟩:=hcut;obtain⟨H,K,x2⟩:=s.row.k3;have xl:=s.row.lt;have B:=s.s.z (LB _ (.cells #[.string o,.string z,.bool f] 45));have T:=Z B.own;have eC:=s.s.lt
   go_wp2_with (first|(at_builtin;refine QN _ rfl _ _ 40 rfl w.heap.size underlying40 HI.l rfl ω _ d.length _ rfl T.l ⟨wc.heap.size,0,none⟩ 1 1 [.string o,.string z,.bool f] rfl rfl (XY _ _ _) (im _ _ _) τ (wc.heap.size+1) σ ?_;intro g cap eM L I P bJ;have S:=B.push L I;clear L I P))
   go_roundw
   case rel =>
    refine⟨d++[(o,z,f)],j,_,rfl,σ,τ,ω,τ,?_,?_⟩
    ·intro x G
     rcases BS.1 G with G|G
     ·exact aX.l x G
     simp at G;subst G;exact⟨U,W⟩
    rw[QT,AE];exact S
   all_goals (simp[intOf];omega)
  go_wp2
  go_ret;exact⟨⟨_,rfl,d,F.own,⟨ω,cT⟩,aX.l⟩,⟨q,q0,ω,F.rd⟩,F.gr⟩
theorem OX(R:Nat)(a:Option Addr)(n c:Nat)(p:Int)(w:World)(h:Rdr w R a n c p)(i:p<100000000):Calls prog 122 #[.pointer (some ⟨R,0,none⟩)] w λe w'=>(∃v,e=.returned (.int .i64 v)/\1<=v/\v<=8)/\Rdr w' R a n c (p+1)/\w.grownBy w' (some R):=by
 have x:=LZ h.pc;go_enter func122,ntmps122;go_wp2_with fail;refine(KX R a n c p 6 _ (h.z ((AC _ _).alloc (Y _) _)) i).A ?_;rintro e z ⟨⟨v,rfl,j,l⟩,d,b⟩;have o:=LK (b:=w.heap.size) (i:=0) b ω (v:=.int .i64 8) σ;have q:=LK (b:=w.heap.size) (i:=1) b ω (v:=.int .i64 8) σ;have r:=LK (b:=w.heap.size) (i:=2) b ω (v:=.int .i64 4) σ;have s:=LK (b:=w.heap.size) (i:=3) b ω (v:=.int .i64 2) σ;have t:=LK (b:=w.heap.size) (i:=4) b ω (v:=.int .i64 1) σ;have u:=LK (b:=w.heap.size) (i:=5) b ω (v:=.int .i64 1) σ;have f:=Z (OS (RW (some R) ((AC _ _).alloc (Y _) (.cells #[.int .i64 8,.int .i64 8,.int .i64 4,.int .i64 2,.int .i64 1,.int .i64 1] 3))) b);have g:=Z d;clear b d;have hv:v=0\/v=1\/v=2\/v=3\/v=4\/v=5:=ω
 clear j l;rcases hv with rfl|rfl|rfl|rfl|rfl|rfl<;>(go_wp2;go_ret;exact⟨⟨_,rfl,ω,ω⟩,g.l,f.l⟩)
end
section
open Tryz
open Go.RowKit Go.ChangeShapes Go.WideShapes Go.Deep
section
variable {H:Type} {enc:TypeId×Value->H} {P:Program} {w:World} {base:Nat} {spare:Nat->Bool} {XbJ:Bool}
theorem VW{a:Addr}{i:Nat}{v:Value}(h:w.cell? (a.add i)=some v)(c:∃u,w.cell? (a.add 0)=some u):∃b o,a=⟨b,o,none⟩:=by
 obtain⟨b,o,s⟩:=a;obtain⟨u,e⟩:=c;have d:s=none:=by simpa[Addr.add] using World.cell?_spot e
 exact⟨b,o,by rw[d]⟩
theorem VV(b o i:Nat):(⟨b,o,none⟩:Addr).add i=⟨b,o+i,none⟩:=by unfold Addr.add;split<;>simp_all
end
end
section
open Tryz
open Go.RowKit Go.ChangeShapes Go.WideShapes Go.Deep
section
variable {H:Type} {enc:TypeId×Value->H} {P:Program} {w:World} {base:Nat} {spare:Nat->Bool} {XbJ:Bool}
theorem SM{t e:TypeId}{m:Nat}{v:Value}{x:DataW H×List MemPlace}(u:P.underlying t=some (.slice e))(r:P.underlying e=some (.int .u8))(q:P.cellsOf e=1)
  (h:DataW.trod enc P w base spare XbJ m t [v]=some x):∃a n c,v=.slice a n c/\Bys w a n/\n<=c/\n<=maxLen:=by
 rcases open_ints u r q h with ⟨c,_⟩|⟨a,g,j,l,c,_,s,A,y,_,d,n⟩
 ·simp at c
  exact⟨none,0,0,by simpa using c,⟨0,0,.inl rfl,λi f=>absurd f ω⟩,Y _,AO _⟩
 simp at c
 have z:g<=l.length:=by rw[y];split<;>omega
 refine⟨some a,g,j,c,?_,s,ω⟩
 by_cases p:g=0
 ·subst p
  exact⟨0,0,.inl rfl,λi f=>absurd f ω⟩
 obtain⟨b,o,rfl⟩:=VW (d 0 ω) ⟨_,d 0 ω⟩
 have k:=DI w _ (d 0 ω);rw[VV]at k;refine⟨b,o,.inr rfl,λi f=>⟨k,l.getD i 0,?_,?_⟩⟩
 ·have:=d i ω
  rwa [VV]at this
 rw[AZ]
 exact range_u8 n i
end
