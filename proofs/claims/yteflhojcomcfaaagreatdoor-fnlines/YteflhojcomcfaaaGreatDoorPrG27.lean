import Derived.Test.YteflhojcomcfaaaGreatDoorPrG21
import Derived.Test.YteflhojcomcfaaaGreatDoorPrG44
import Derived.Shelf.Spec.SlicesInsert
import Derived.Lib.AppendZerosOnto
import Derived.Lib.Overlaps
import Derived.Laws.Externs
import Derived.Laws.CopyRow
import Derived.Laws.CopyOwn
set_option maxHeartbeats 16000000
set_option maxRecDepth 8000
set_option linter.all false
namespace Go.Proofs.YteflhojcomcfaaaGreatDoor
open _root_.ByteArray(empty)
section
open Tryz
open Go.RowKit
variable {aA lf nm wd:Int}{base g:Nat}{v:Ra}{w w':Q9}
theorem gu(a:Q5)(b:List (Q4×Q4))(c:Nat)(w:Q9)(h:Prs w a b)(u:b.length<=1048576):Calls prog 135 #[LX a b.length c] w λe w'=>mt w w' e b:=by
 obtain⟨x,e,i,k,m⟩:=ZR kt;have f:=LE (I e (I i (I k m)));clear e i k m
 have o:∀e i,Q3 w ((w.alloc e).alloc i):=λe i=>(LH _ _).alloc j _
 go_enter func135,ntmps135;go_wp2_with (at_builtin;refine oW z _ _ 40 z 151 x _ 2 32 underlying40 f.j.1 f.j.2.1 f.j.2.2.1 f.j.2.2.2 _ z (.inl z) _ z b.length _ (yF (h.I (o _ _)) _ _ underlying40 c) u d ?_;intro n e m r k aA;have t:m.cell? (Ki (w.heap.size+1) 0)=some (Y none 0 0):=OG aA l;have A:m.frozen? (Ki (w.heap.size+1) 0)=false:=UL aA l;have s:=LE ((o _ _).E (aA.J ξ));have i:=LE (vM (w:=w) k q);have y:w.heap.size+1<m.heap.size:=AC j aA.size;clear k aA);refine H (v:=LX n b.length e) (by simp[results,results135,go_sem,t]) z ⟨n,e,z,r,?_,λg k=>(i.j.2 g k).1,s.j.setCell (by show w.heap.size<=w.heap.size+1;omega) _⟩;rcases i.j.1 with k|⟨g,rfl,k⟩
 .exact .inl k
 by_cases p:b.length=0
 .exact .inl (by rw[AD p];rfl)
 have:=(i.j.2 g (ND _ _ _ p)).2
 exact .inr ⟨g,z,k.other _ (by show w.heap.size+1≠g;rw[this];simp<;>omega) _⟩
theorem n4:(prog.info? 167).map (λi=>(i.zero,i.size,i.bytes))=some (some (.agg #[Q1 false,Z 0,Ow empty]),3,32):=h
structure Wrt(w:Q9)(base g:Nat)(v:Ra)(os:List OpT)(at_ nm lf wd:Int):Prop where
 row:Row w g [v,Z at_,Z nm,Z lf,Z wd]
 own:w.ownsRow base 167 3 v os.length (LG os)
 ge:base<=g
 ne:v.ownBlock≠some g
theorem Wrt.I{b:List OpT}(h:Wrt w base g v b aA nm lf wd)(a:Q3 w w'):Wrt w' base g v b aA nm lf wd:=⟨h.row.I a,MK h.own a,h.ge,h.ne⟩
theorem ef(b:Bool)(n:Int)(s:Q4):∀u∈[Q1 b,Z n,Ow s],u.oneCell'=true:=by
 intro u a;simp only[DZ,EY,IX]at a;rcases a with rfl|rfl|rfl<;>rfl
theorem Bz(n h:Int)(i:0<=h)(j:h<=1)(w:Q9):Calls prog 148 #[Z n,Z h] w λe w'=>e=Q2 (Z (2+h*hv n))/\w'=w:=by
 have c:0<=hv n/\hv n<=99:=by by_cases h:8<=n/\n<=200;have:=QS h;omega;rw[eh h];omega
 obtain⟨Q,b⟩:=x (hv n);rw[<-b.j]at c⊢;obtain⟨q,a⟩:=u (h*Q)
 have aA:0<=q/\q<=99:=by
  rcases(show h=0\/h=1 by omega) with e|e
  .subst e;omega
  subst e;omega
 have d:IntKind.i64.wrap (h*Q)=q:=by rw[<-a];simp[IntKind.wrap,IntKind.bits,IntKind.signed];omega
 have f:IntKind.i64.wrap (2+q)=2+q:=by simp[IntKind.wrap,IntKind.bits,IntKind.signed];omega
 rw[<-a];clear a;go_enter func148,ntmps148;go_wp2_with (go_at_call 66;refine(it _ _).J ?_;rw[<-b.j];refine OF ?_);go_ret;exact⟨z,z⟩
theorem vf(W S L T H F R U O:Int)(a:Q5)(n c:Nat)(w:Q9)(k:0<=H)(l:H<=1)(r:1<=F)(s:F<=999999000)(u0:0<=U)(u1:U<=99):Calls prog 193 #[NA W S L T H F R U O a n c] w λe w'=>∃g,e=Q2 (Dr g 0)/\Wrt w' w.heap.size g (Y none 0 0) [] (2+H*hv S+U) (F+U) L W/\Q3 w w':=by
 have t:0<=hv S/\hv S<=99:=by by_cases h:8<=S/\S<=200;have:=QS h;omega;rw[eh h];omega
 obtain⟨q,b⟩:=u (H*hv S)
 have m:0<=q/\q<=99:=by
  rcases(show H=0\/H=1 by omega) with e|e
  .subst e;omega
  subst e;omega
 have i:=LE (λw'=>Bz S H k l w');rw[<-b]at i⊢;clear b;have o:IntKind.i64.wrap (2+q+U)=2+q+U:=by simp[IntKind.wrap,IntKind.bits,IntKind.signed];omega
 have p:IntKind.i64.wrap (F+U)=F+U:=by simp[IntKind.wrap,IntKind.bits,IntKind.signed];omega
 unfold NA;obtain⟨f,d⟩:=u (w.alloc (.cells (sK W S L T H F R U O (Y a n c)) 44))
 have j:Hid (∀w',Q3 f w'->w'.cell? (Ki w.heap.size 0)=some (Z W)/\w'.cell? (Ki w.heap.size 1)=some (Z S)/\w'.cell? (Ki w.heap.size 2)=some (Z L)/\w'.cell? (Ki w.heap.size 4)=some (Z H)/\w'.cell? (Ki w.heap.size 5)=some (Z F)/\w'.cell? (Ki w.heap.size 7)=some (Z U)):=λw' b=>by
  have aA:w.heap.size<f.heap.size:=by rw[d];simp
  refine⟨(b.cell (p:=(Ki w.heap.size 0)) aA).E ?_,(b.cell (p:=(Ki w.heap.size 1)) aA).E ?_,(b.cell (p:=(Ki w.heap.size 2)) aA).E ?_,(b.cell (p:=(Ki w.heap.size 4)) aA).E ?_,(b.cell (p:=(Ki w.heap.size 5)) aA).E ?_,(b.cell (p:=(Ki w.heap.size 7)) aA).E ?_⟩<;>(rw[d];go_simp)
 have b:Hid (Q3 w f):=by show Below _ _ _;rw[d];exact LH _ _
 go_enter func193,ntmps193;go_wp2_with fail;rw[<-d];clear d
 go_region_held3 (λw'=>w'.cell? (Ki w.heap.size 0)=some (Z W)/\w'.cell? (Ki w.heap.size 1)=some (Z S)/\w'.cell? (Ki w.heap.size 2)=some (Z L)/\w'.cell? (Ki w.heap.size 4)=some (Z H)/\w'.cell? (Ki w.heap.size 5)=some (Z F)/\w'.cell? (Ki w.heap.size 7)=some (Z U))
  (first|assumption|exact j.j _ ((D).drew)|exact j.j _ ((D).drew.alloc C _))
  (first|(go_at_call 148;refine(i.j _).J ?_;rintro e d ⟨rfl,rfl⟩))
 all_goals
  go_wp2;go_ret;refine⟨f.heap.size,z,⟨km (w:=f.drew) z,BU _ _ _ _,b.j.size,by simp[Value.ownBlock]⟩,b.j.E (((D).drew.alloc C _).J b.j.size)⟩
theorem uh(base g:Nat)(v:Ra)(a:List OpT)(p nm lf wd:Int)(w:Q9)(h:Wrt w base g v a p nm lf wd)(A:base<=w.heap.size)(E:a.length<=1000):Calls prog 195 #[Dr g 0] w λe w'=>(∃x,e=Q2 x)/\(∃b,Wrt w' base g b (a++[(true,0,empty)]) p nm lf wd)/\Below base w w':=by
 obtain⟨F,b,c,f,i⟩:=ZR n4;have u:=LE (I b (I c (I f i)));clear b c f i
 obtain⟨r,s,rfl⟩:∃r s,v=Y r a.length s:=by
  rcases MS h.own with ⟨c,i⟩|⟨g,b,c,_⟩
  .exact⟨none,0,by rw[c,i]⟩
  exact⟨_,b,c⟩
 have H:=h.row.y 0;have K:=h.row.A 0;have G:=h.row.lt;have o:=LE (h.own.alloc (.cells #[Q1 true,Z 0,Ow ⟨#[]⟩] 167));go_enter func195,ntmps195;go_wp2_with (at_builtin;refine SX _ z _ _ 113 z base underlying113 u.j z d _ a.length _ z o.j (Ki w.heap.size 0) 1 1 [Q1 true,Z 0,Ow ⟨#[]⟩] z z (World.news_of_block (AV w _)) (ef _ _ _) q (w.heap.size+1) j ?_;intro b c t k aA l C;have f:=LE ((h.row.alloc _).V aA (λe=>h.ne e.symm));have J:=f.j.y 0;have L:=f.j.A 0;have y:=LE k;have x:=LE (UJ ((@D base w).alloc A _) o.j aA q);have m:b≠g:=(by rcases l with e|e;exactλi=>h.ne (by rw[<-i];exact e);omega);have n:=LE m;clear k aA l m);go_end0;have l:=f.j.set 0 j (Y (Hw b 0) (a.length+1) c)
 refine⟨⟨_,z⟩,⟨Y (Hw b 0) (a.length+1) c,l,?_,h.ge,by simp[Value.ownBlock];exact n.j⟩,x.j.setCell (p:=(Ki g 0)) h.ge _⟩;have m:t.grownBy (t.setCell (Ki g 0) (Y (Hw b 0) (a.length+1) c)) (some g):=⟨z,z,z,by simp[World.setCell],λk _ B=>BM _ _ _ k (λe=>B (by rw[e]))⟩;have:=y.j.kept m (.inr (by simp[Value.ownBlock];exact n.j));rw[AK,MA];exact this
theorem Wrt.set{c:List OpT}(h:Wrt w base g v c aA nm lf wd)(b o:Nat)(f:b<base)(u:Ra):Wrt (w.setCell (Ki b o) u) base g v c aA nm lf wd:=by
 have d:w.grownBy (w.setCell (Ki b o) u) (some b):=⟨rfl,rfl,rfl,by simp[World.setCell],λk _ a=>BM _ _ _ k (λe=>a (by rw[e]))⟩;refine⟨h.row.other _ (by show b≠g;have:=h.ge;omega) _,h.own.kept d ?_,h.ge,h.ne⟩
 cases a:v.ownBlock with
 | none=>exact .inl rfl
 | some k =>
  refine .inr λe=>?_
  cases e
  have:=(h.own.lt b a).1;omega
theorem qi{W d:Q9}{c aA:Nat}{f:Q5}{i:Nat}{a:List OpT}{x:OpT}{l:Int}{o:Obj}(h:Wrt w base g (Y f a.length i) a l nm lf wd)(D:base<=w.heap.size)(C:Below base W w)
  (u:d.ownsRow base 167 3 (Y (Hw c 0) (a.length+1) aA) (a.length+1) (LG a++[Q1 x.1,Z x.2.1,Ow x.2.2]))(r:(w.alloc o).grownBy d (Y f a.length i).ownBlock)
  (A:(Y f a.length i).ownBlock=some c\/c=w.heap.size+1):Row d g [Y f a.length i,Z l,Z nm,Z lf,Z wd]/\Wrt (d.setCell (Ki g 0) (Y (Hw c 0) (a.length+1) aA)) base g (Y (Hw c 0) (a.length+1) aA) (a++[x]) l nm lf wd/\Below base W d/\Below base W (d.setCell (Ki g 0) (Y (Hw c 0) (a.length+1) aA)):=by
 have t:=(h.row.alloc o).V r (λe=>h.ne e.symm);have E:=h.row.lt
 have m:c≠g:=by
  rcases A with e|e
  .exactλb=>h.ne (by rw[<-b];exact e)
  omega
 have p:=UJ (C.alloc D _) (h.own.alloc o) r q;have y:=t.set 0 j (Y (Hw c 0) (a.length+1) aA);refine⟨t,⟨y,?_,h.ge,by simp[Value.ownBlock];exact m⟩,p,p.setCell (p:=(Ki g 0)) h.ge _⟩;have B:d.grownBy (d.setCell (Ki g 0) (Y (Hw c 0) (a.length+1) aA)) (some g):=⟨z,z,z,by simp[World.setCell],λk _ b=>BM _ _ _ k (λe=>b (by rw[e]))⟩;have:=u.kept B (.inr (by simp[Value.ownBlock];exact m));obtain⟨b,n,s⟩:=x;rw[AK,MA];exact this
theorem Wrt.sl{c:List OpT}(h:Wrt w base g v c aA nm lf wd):∃a b,v=Y a c.length b:=by
 rcases MS h.own with ⟨b,d⟩|⟨g,a,b,_⟩
 .exact⟨none,0,by rw[b,d]⟩
 exact⟨_,a,b⟩
theorem Wrt.count{b:List OpT}{x y:Int}(h:Wrt w base g v b aA nm lf wd):Wrt ((w.setCell (Ki g 1) (Z x)).setCell (Ki g 2) (Z y)) base g v b x y lf wd:=by
 refine⟨(h.row.set 1 σ (Z x)).set 2 σ (Z y),?_,h.ge,h.ne⟩;have c:w.grownBy ((w.setCell (Ki g 1) (Z x)).setCell (Ki g 2) (Z y)) (some g):=⟨rfl,rfl,rfl,by simp[World.setCell],λk _ a=>(BM _ _ _ k (λe=>a (by rw[e]))).E (BM _ _ _ k (λe=>a (by rw[e])))⟩;exact h.own.kept c (.inr h.ne)
structure WK(g:Nat)(w:Q9)(v:Ra)(w':Q9)(v':Ra):Prop where
 size:w.heap.size<=w'.heap.size
 own:∀k,v'.ownBlock=some k->v.ownBlock=some k\/w.heap.size<=k
 blk:∀b,b<w.heap.size->b≠g->some b≠v.ownBlock->w'.heap[b]?=w.heap[b]?
theorem WK.start(g:Nat)(w:Q9)(v:Ra):WK g w v w v:=⟨AA,λ_ h=>.inl h,λ_ _ _ _=>rfl⟩
theorem WK.E{l m:Q9}{f i:Ra}(h:WK g w v l f)(k:WK g l f m i):WK g w v m i :=⟨AJ h.size k.size,λj n=>(k.own j n).elim (h.own j) (λe=>.inr (AJ h.size e)),λb d a c=>(k.blk b (AC d h.size) a (λe=>(h.own b e.symm).elim (λe=>c e.symm) (λe=>ω))).E (h.blk b d a c)⟩
theorem WK.I{c d:Q9}{a:Ra}(h:WK g w v c a)(k:Q3 c d):WK g w v d a:=h.E ⟨k.size,λ_ h=>.inl h,λb e _ _=>k.block b e⟩
theorem Row.wk{k:Nat}{j:Ra}{a:List Ra}(h:Row w k a)(b:WK g w v w' j)(c:k≠g)(d:some k≠v.ownBlock):Row w' k a:=by
 have e:=b.blk k h.lt c d;refine⟨AC h.lt b.size,λi v hv=>(?_:w'.cell? (Ki k i)=some v),λi f=>?_⟩
 .rw[<-h.cell i v hv];simp[World.cell?,e]
 rw[<-h.froz i f];simp[World.frozen?,e]
theorem Ae{c:Q9}{r:Option Nat}{o:Obj}{u x y:Ra}(h:(w.alloc o).grownBy c r):∀b,b<w.heap.size->b≠g->some b≠r->(((c.setCell (Ki g 0) u).setCell (Ki g 1) x).setCell (Ki g 2) y).heap[b]?=w.heap[b]?:=λb f a d=>by
 rw[BM _ _ _ b (λe=>a (by rw[e])),BM _ _ _ b (λe=>a (by rw[e])),BM _ _ _ b (λe=>a (by rw[e])),h.block b q d];exact((@D w.heap.size w).alloc C o).block b f
theorem sN(base g:Nat)(v:Ra)(i:List OpT)(c nm lf wd:Int)(m:Q4)(w:Q9)(a:Wrt w base g v i c nm lf wd)(C:base<=w.heap.size)(hl:i.length<=1000)(bF:0<=c)(bG:c<=100000)(bH:0<=nm)(bI:nm<=2000000000):Calls prog 252 #[Dr g 0,Ow m] w λe w'=>(∃x,e=Q2 x)/\∃b,Wrt w' base g b (i++[(false,c,m)]) (c+1) (nm+1) lf wd/\Below base w w'/\WK g w v w' b:=by
 obtain⟨i0,b,e,k,n⟩:=ZR n4;have V:=LE (I b (I e (I k n)));clear b e k n;obtain⟨F,G,rfl⟩:=a.sl;have q0:w.drew.cell? (Ki g 0)=some (Y F i.length G):=a.row.drew.y 0;have qa:(w.drew.alloc (.cells #[Q1 false,Z c,Ow m] 167)).cell? (Ki g 0)=some (Y F i.length G):=(a.row.drew.alloc _).y 0;have bJ:w.cell? (Ki g 0)=some (Y F i.length G):=a.row.y 0;have lg:=a.row.lt;have W:=LE a;have d:=LE (MK a.own ((D).drew.alloc AA (.cells #[Q1 false,Z c,Ow m] 167)));have R:Hid ((w.drew.alloc (.cells #[Q1 false,Z c,Ow m] 167)).cell? (Ki g 1)=some (Z c)/\g<(w.drew.alloc (.cells #[Q1 false,Z c,Ow m] 167)).heap.size):=⟨(a.row.drew.alloc _).y 1,(a.row.drew.alloc _).lt⟩;go_enter func252,ntmps252;go_wp2_with fail
 refine AN (S:=λw'=>w'.cell? (Ki g 1)=some (Z c)/\g<w'.heap.size) κ (⟨a.row.drew.y 1,a.row.drew.lt⟩) (λe=>?_);refine TY 0 (Dr g 0) z e (TY 1 (Dr g 0) z e (TY 2 (Dr g 0) z e (TY 3 (Dr g 0) z e (TY 5 (Dr g 0) z e (TY 6 (Dr g 0) z e (TY 7 (Dr g 1) z e (TY 8 (Z c) z e (TY 9 (Ow m) z e (TY 10 (.agg #[Q1 false,Z c,Ow m]) z e ?_)))))))));simp only[PS];refine EU (rs:=[4,11]) κ j ?_;refine DA z (λK b=>?_) (DA z (λK b=>?_) EQ)
 focus
  go_simp;refine b.j _ _ e (λ_=>?_);clear b K
  try simp only[PS]
  refine RD 11 z (λK b=>?_);go_simp;refine b.j _ _ (R.j) (λaZ=>?_)
 rotate_left
 focus
  go_simp;refine b.j _ _ (R.j) (λX=>?_);clear b K
  try simp only[PS]
  refine RD 4 z (λK b=>?_);go_simp;refine b.j _ _ X (λ_=>?_)
 rotate_left
 all_goals
  clear b K
  try simp only[PS]
  refine RD 12 z (λK b=>?_);refine UG _ f _ _ _ f base underlying113 V.j z ω (Y F i.length G) i.length _ f d.j (Ki w.heap.size 0) 1 1 [Q1 false,Z c,Ow m] f z (World.news_of_block (AV w.drew _)) (ef _ _ _) ξ (w.heap.size+1) j ?_;intro o q U H A B bE;have p:=qi (x:=(false,c,m)) W.j C D H (jx A) B;have aA:=LE p;have S:=p.1.y 0;have E:=p.1.y 1;have T:=p.1.A 0;have r:=p.1.lt;have Q:=LE (jx A);have P:=LE B
 .clear H A B p
  refine b.j _ _ (⟨E,r⟩) (λp=>?_);clear b K
  try simp only[PS]
  refine TY 13 (Dr g 0) z p (TY 14 (Dr g 0) z p ?_);simp only[PS];refine RD 15 z (λK b=>?_);go_simp;refine b.j _ _ (⟨l,by simpa[World.setCell] using r⟩) (λA=>?_);clear b K
  try simp only[PS]
  refine DN ?_;have n:=aA.j.2.1.row.y 1;have N:=aA.j.2.1.row.y 2;have L:=aA.j.2.1.row.A 1;have M:=aA.j.2.1.row.A 2;have J:=aA.j.2.1.row.lt;clear S E T r;have s:=LE (λx y=>Ae (g:=g) (u:=Y (Hw o 0) (i.length+1) q) (x:=x) (y:=y) Q.j);obtain⟨h,k⟩:=u (U.setCell (Ki g 0) (Y (Hw o 0) (i.length+1) q));rw[<-k]at n N L M aA s J⊢;clear k;go_wp2;go_end0;refine⟨⟨_,z⟩,Y (Hw o 0) (i.length+1) q,aA.j.2.1.count,(aA.j.2.2.2.setCell (p:=(Ki g 1)) a.ge _).setCell (p:=(Ki g 2)) a.ge _,((aA.j.2.2.2.setCell (p:=(Ki g 1)) a.ge _).setCell (p:=(Ki g 2)) a.ge _).size,λk t=>?_,s.j _ _⟩;have:k=o:=by simp[Value.ownBlock]at t;exact t.symm
  subst this;rcases P.j with n|n
  .exact .inl n
  right;omega
 clear H A B p
 refine b.j _ _ (⟨E,r⟩) (λO=>?_);clear b K
 try simp only[PS]
 refine TY 13 (Dr g 0) z O (TY 14 (Dr g 0) z O ?_);simp only[PS];refine RD 15 z (λK b=>?_);go_simp;refine b.j _ _ (⟨l,by simpa[World.setCell] using r⟩) (λbC=>?_);clear b K
 try simp only[PS]
 refine DN ?_;have n:=aA.j.2.1.row.y 1;have N:=aA.j.2.1.row.y 2;have L:=aA.j.2.1.row.A 1;have M:=aA.j.2.1.row.A 2;have J:=aA.j.2.1.row.lt;clear S E T r;have s:=LE (λx y=>Ae (g:=g) (u:=Y (Hw o 0) (i.length+1) q) (x:=x) (y:=y) Q.j);obtain⟨h,k⟩:=u (U.setCell (Ki g 0) (Y (Hw o 0) (i.length+1) q));rw[<-k]at n N L M aA s J⊢;clear k;go_wp2;go_end0;refine⟨⟨_,z⟩,Y (Hw o 0) (i.length+1) q,aA.j.2.1.count,(aA.j.2.2.2.setCell (p:=(Ki g 1)) a.ge _).setCell (p:=(Ki g 2)) a.ge _,((aA.j.2.2.2.setCell (p:=(Ki g 1)) a.ge _).setCell (p:=(Ki g 2)) a.ge _).size,λk t=>?_,s.j _ _⟩;have:k=o:=by simp[Value.ownBlock]at t;exact t.symm
 subst this;rcases P.j with n|n
 .exact .inl n
 right;omega
theorem tA(base g:Nat)(v:Ra)(k:List OpT)(c nm lf wd:Int)(w:Q9)(a:Wrt w base g v k c nm lf wd)(i:base<=w.heap.size)(B:k.length<=1000)(r:0<=c)(s:c<=100000)(y:0<=nm)(A:nm<=2000000000):Calls prog 217 #[Dr g 0] w λe w'=>(∃x,e=Q2 x)/\∃m,Wrt w' base g m (k++[(false,c,NB 3 lf nm empty wd)]) (c+1) (nm+1) lf wd/\Below base w w'/\WK g w v w' m:=by
 have G:=a.row.y 2;have F:=a.row.lt;go_enter func217,ntmps217;go_wp2_with fail;refine AN (S:=λw'=>w'.cell? (Ki g 3)=some (Z lf)/\w'.cell? (Ki g 4)=some (Z wd)) h (⟨a.row.drew.y 3,a.row.drew.y 4⟩) (λaA=>?_);refine TY 0 (Dr g 0) z aA (TY 1 (Dr g 0) z aA (TY 2 (Dr g 0) z aA (TY 3 (Dr g 3) z aA (TY 4 (Z lf) z aA (TY 5 (Dr g 0) z aA (TY 6 (Dr g 0) z aA (TY 7 (Dr g 2) z aA (TY 10 (Dr g 0) z aA (TY 11 (Dr g 0) z aA (TY 12 (Dr g 4) z aA (TY 13 (Z wd) z aA ?_)))))))))));simp only[PS];refine RD 8 z (λK b=>?_);go_simp;refine b.j _ _ aA (λ_=>?_);clear b K
 try simp only[PS]
 refine TY 9 (.agg #[Z 3,Z lf,Z nm,Ow ⟨#[]⟩]) z aA ?_;simp only[PS];refine RD 14 z (λK b=>?_);refine LM f 274 #[OD 3 lf nm ⟨#[]⟩,Z wd] l (ma 3 lf nm empty wd _ j) ?_;rintro e p ⟨rfl,t⟩;refine⟨_,z,?_⟩;have d:Q3 w p:=(D).drew.E t;have n:=a.I d;refine b.j _ _ (⟨n.row.y 3,n.row.y 4⟩) (λC=>?_);clear b K
 try simp only[PS]
 refine RD 15 z (λK b=>?_);refine LM f 252 #[Dr g 0,Ow (NB 3 lf nm empty wd)] l (sN base g v k c nm lf wd _ _ n (AJ i d.size) B r s y A) ?_;rintro e H ⟨⟨x,rfl⟩,m,o,u,q⟩;refine⟨_,z,?_⟩;refine b.j _ _ (⟨o.row.y 3,o.row.y 4⟩) (λE=>?_);clear b K
 try simp only[PS]
 refine DN ?_;go_end0;exact⟨⟨_,z⟩,m,o,(d.J i).E u,(⟨d.size,λ_ a=>.inl a,λb i _ _=>d.block b i⟩:WK g w v p v).E q⟩
theorem wH(T a F R S L:Int)(w:Q9)(D:0<=T)(u:T<=1000000000)(C:0<=a)(s:a<=1)(hF:0<=F)(r:F<=999999000):Calls prog 213 #[OI T a F R,Z S,Z L] w λe w'=>e=Q2 (OI (T+1) (1-a) (F+hv S) L)/\Q3 w w':=by
 have o:0<=hv S/\hv S<=99:=by by_cases b:8<=S/\S<=200;have:=QS b;omega;rw[eh b];omega
 have i:=LE (λw'=>it S w');obtain⟨Q,k⟩:=x (hv S);rw[<-k.j]at o i⊢;have y:IntKind.i64.wrap (T+1)=T+1:=by simp[IntKind.wrap,IntKind.bits,IntKind.signed];omega
 have A:IntKind.i64.wrap (1-a)=1-a:=by simp[IntKind.wrap,IntKind.bits,IntKind.signed];omega
 have B:IntKind.i64.wrap (F+Q)=F+Q:=by simp[IntKind.wrap,IntKind.bits,IntKind.signed];omega
 have m:∀ {n:Array Ra} {d:Array Ra} {t p:TypeId},Q3 w ((w.alloc (.cells n t)).alloc (.cells d p)):=(LH _ _).alloc j _;go_enter func213,ntmps213;go_wp2_with fail;refine AN (S:=λw'=>w'.cell? (Ki w.heap.size 0)=some (Z T)/\w'.cell? (Ki w.heap.size 1)=some (Z a)/\w'.cell? (Ki w.heap.size 2)=some (Z F)) h (⟨l,l,l⟩) (λaA=>?_);refine TY 0 (Dr w.heap.size 0) z aA (TY 1 (Z T) z aA (TY 2 (Z (T+1)) z aA (TY 3 (Dr w.heap.size 1) z aA (TY 4 (Z a) z aA (TY 5 (Z (1-a)) z aA (TY 6 (Dr w.heap.size 2) z aA (TY 7 (Z F) z aA (TY 8 (Z S) z aA (TY 11 (Z L) z aA ?_)))))))));simp only[PS];refine RD 9 z (λK c=>?_);refine LM f 66 #[Z S] l (i.j _) ?_
 rintro e E ⟨rfl,rfl⟩;refine⟨_,z,?_⟩;refine c.j _ _ aA (λ_=>?_);clear c K
 try simp only[PS]
 refine TY 10 (Z (F+Q)) z aA (TY 12 (.agg #[Z (T+1),Z (1-a),Z (F+Q),Z L]) z aA ?_);simp only[PS];refine RD 13 z (λK c=>?_);go_simp;refine c.j _ _ (⟨l,l,l⟩) (λq=>?_);clear c K
 try simp only[PS]
 refine DN ?_;go_wp2;refine H (v:=OI (T+1) (1-a) (F+Q) L) (by simp[results,results213,go_sem]) z ⟨z,?_⟩;exact m.drew
theorem zH(base g:Nat)(v:Ra)(p:List OpT)(k nm lf:Int)(n m:Nat)(aA:Q4)(w:Q9)(a:Wrt w base g v p k nm lf (n:Int))(A:base<=w.heap.size)(ht:aA.size<=100000)(X:p.length+(PK aA lf nm n m).length<=1000)(f:n+m=56)(P:1<=n)(Q:n<=8)(bQ:0<=k)(bR:k<=10000)(bY:0<=nm)(bZ:nm<=1900000000):Calls prog 194 #[Dr g 0,Ow aA] w λe w'=>(∃x,e=Q2 x)/\∃o,Wrt w' base g o (p++NE k (PK aA lf nm n m)) (k+((PK aA lf nm n m).length:Int)) (nm+((PK aA lf nm n m).length:Int)) lf (n:Int)/\Below base w w'/\WK g w v w' o:=by
 have C:=LE (λW=>Pz aA lf nm n m W d f P Q d d);obtain⟨c,hcut⟩:=u (PK aA lf nm n m);rw[<-hcut]at C X⊢;clear hcut;go_enter func194,ntmps194;go_wp2_with fail;refine AN (S:=λw'=>w'.cell? (Ki g 2)=some (Z nm)/\w'.cell? (Ki g 3)=some (Z lf)/\w'.cell? (Ki g 4)=some (Z (n:Int))) κ (⟨a.row.drew.y 2,a.row.drew.y 3,a.row.drew.y 4⟩) (λb=>?_);refine TY 0 (Ow aA) z b (TY 1 (Dr g 0) z b (TY 2 (Dr g 0) z b (TY 3 (Dr g 3) z b (TY 4 (Z lf) z b (TY 5 (Dr g 0) z b (TY 6 (Dr g 0) z b (TY 7 (Dr g 2) z b (TY 8 (Z nm) z b (TY 9 (Dr g 0) z b (TY 10 (Dr g 0) z b (TY 11 (Dr g 4) z b ?_)))))))))))
 simp only[PS];refine TY 12 (Z (n:Int)) z b (TY 15 (Z 0) z b ?_);simp only[PS];refine RD 13 z (λK y=>?_);refine LM ρ 251 #[Ow aA,Z lf,Z nm,Z (n:Int)] γ (C.j _) ?_;rintro e B ⟨l,c4,rfl,t,s,r⟩;refine⟨_,z,?_⟩;have j:Q3 w B:=(AB).drew.E r;have i:=a.I j;refine y.j _ _ (⟨i.row.y 2,i.row.y 3,i.row.y 4⟩) (λq=>?_);clear y K
 try simp only[PS]
 refine TY 14 (Z (c.length:Int)) z q ?_;simp only[PS];refine DN ?_;have J:=LE t;have I:=LE s;have L:=LE i;have E:=LE j;have S:=j.size;clear t s i j r b q;go_wp2_with fail;go_loopw [21] (λi wr=>∃j:Nat,j<=c.length/\i=Z (j:Int)/\∃o,Wrt wr base g o (p++NE k (c.take j)) (k+(j:Int)) (nm+(j:Int)) lf (n:Int)/\Below base w wr/\WK g B v wr o) (λi _=>c.length-(intOf i).toNat)
 case atStart =>
  refine⟨0,AL,z,v,?_,E.j.J A,WK.start _ _ _⟩;rw[FZ,Pm,FT];simpa using L.j
 case round =>
  obtain⟨j,hj,rfl,o,q,s,i⟩:=hrel
  by_cases r:j<c.length
  .have cC:=i.size
   obtain⟨y,rfl,R⟩:=J.j.resolve_left (by intro e;have:=BD List.length e;simp at this;rw[this]at r;simp at r);have bT:w.heap.size<=y:=I.j y (ND _ _ _ d);have bU:=a.row.lt;have b:=R.wk i d (λe=>by have:=(a.own.lt y e.symm).2;omega);have O:=b.cell j (Ow (c.getD j empty)) (by simp[r,List.getD]);obtain⟨F,t⟩:=u (c.getD j empty);rw[<-t]at O;have D:=b.lt;have bE:(j:Int)<(c.length:Int):=d
   have bW:(0:Int)<=(j:Int):=d
   have U:base<=wr.heap.size:=d
   have G:=LE (sN base g o (p++NE k (c.take j)) (k+(j:Int)) (nm+(j:Int)) lf (n:Int) F wr q U (by simp[TN];omega) d d d d);have H:=LE s;have K:=LE t;have bV:=q.row.lt;have M:=LE i;clear q s b i t;go_wp2_with (go_at_call 252;refine G.j.J ?_;rintro e w5 ⟨⟨x,rfl⟩,h,N,b,t⟩);have cA:=b.size;have T:p++NE k (c.take (j+1))=p++NE k (c.take j)++[(false,k+(j:Int),F)]:=by rw[ib c j empty r,pM,<-K.j,BY,AZ,show min j c.length=j by omega]
   refine⟨⟨j+1,d,ν,h,?_,H.j.E b,M.j.E t⟩,by simp[intOf];omega⟩;rw[T];have V:k+((j+1:Nat):Int)=k+(j:Int)+1:=d
   have W:nm+((j+1:Nat):Int)=nm+(j:Int)+1:=d
   rw[V,W];exact N
  have t:j=c.length:=d
  subst t;go_wp2_with fail;go_end0;rw[DG]at q;exact⟨⟨_,z⟩,o,q,s,(⟨S,λ_ a=>.inl a,λb A _ _=>E.j.block b A⟩:WK g w v B v).E i⟩
theorem qW(t h f l:Int)(a:0<=t)(w:Q9):Calls prog 267 #[OI t h f l] w λe w'=>e=Q2 (Z (t % 2))/\Q3 w w':=by
 go_enter func267,ntmps267;go_wp2;go_ret;exact⟨z,LH _ _⟩
theorem Gw(base g:Nat)(v:Ra)(y:List OpT)(bT nm lf wd t A a b:Int)(w:Q9)(c:Wrt w base g v y bT nm lf wd)(X:base<=w.heap.size)(hl:y.length<=1000)(ht:0<=t):Calls prog 216 #[Dr g 0,OI t A a b] w λe w'=>(∃x,e=Q2 x)/\(∃i,Wrt w' base g i (y++[(false,t % 2,QE t A a b wd)]) bT nm lf wd)/\Below base w w':=by
 obtain⟨i0,i,k,m,n⟩:=ZR n4;have V:=LE (AG i (AG k (AG m n)));clear i k m n;obtain⟨u,C,rfl⟩:=c.sl;have W:=LE (λw'=>zI t A a b wd w');obtain⟨s,i⟩:=nMz (QE t A a b wd);rw[<-i]at W⊢;clear i;have lg:=c.row.lt;obtain⟨N,i⟩:=nMz (w.alloc (.cells #[Z t,Z A,Z a,Z b] 39));have U:Q3 w N:=by rw[i];exact LH _ _
 have cP:N.heap.size=w.heap.size+1:=by rw[i];simp
 have M:Row N w.heap.size [Z t,Z A,Z a,Z b]:=by rw[i];exact LZ w _ _
 have P:=c.I U;have cQ:=P.row.y 0;go_enter func216,ntmps216;go_wp2_with fail;rw[<-i];clear i;refine AN (S:=λw'=>w'.cell? (Ki w.heap.size 0)=some (Z t)/\w'.cell? (Ki w.heap.size 1)=some (Z A)/\w'.cell? (Ki w.heap.size 2)=some (Z a)/\w'.cell? (Ki w.heap.size 3)=some (Z b)/\w'.cell? (Ki g 4)=some (Z wd)) κ (⟨M.drew.y 0,M.drew.y 1,M.drew.y 2,M.drew.y 3,P.row.drew.y 4⟩) (λG=>?_);refine TY 0 (Dr g 0) z G (TY 1 (Dr g 0) z G (TY 2 (Dr g 0) z G (TY 3 (Dr g 0) z G (TY 5 (.agg #[Z t,Z A,Z a,Z b]) z G (TY 7 (.agg #[Z t,Z A,Z a,Z b]) z G (TY 8 (Dr g 0) z G (TY 9 (Dr g 0) z G (TY 10 (Dr g 4) z G (TY 11 (Z wd) z G ?_)))))))))
 simp only[PS];refine EU (rs:=[4,6]) κ j ?_;refine DA z (λK i=>?_) (DA z (λK i=>?_) EQ)
 focus
  go_simp;refine i.j _ _ G (λ_=>?_);clear i K
  try simp only[PS]
  refine RD 6 z (λK i=>?_);refine LM f _ _ l (qW t A a b ht _) ?_;rintro e w4 ⟨rfl,bQ⟩;refine⟨_,z,?_⟩;have F:Q3 N w4:=(D).drew.E bQ;have S:=P.I F;have L:=M.I F;have cO:=S.row.y 0;refine i.j _ _ (⟨L.y 0,L.y 1,L.y 2,L.y 3,S.row.y 4⟩) (λcL=>?_);clear i K
  try simp only[PS]
  refine RD 12 z (λK i=>?_);refine LM f 273 #[OI t A a b,Z wd] l (W.j _) ?_;rintro e x ⟨rfl,T⟩;refine⟨_,z,?_⟩;have o:Q3 N x:=F.E (T.J F.size);have q:=P.I o;have r:=M.I o;have cJ:=q.row.y 0;have cI:=q.row.lt;have H:=q.I ((D).alloc AA (.cells #[Q1 false,Z (t % 2),Ow s] 167));have n:=r.alloc (.cells #[Q1 false,Z (t % 2),Ow s] 167);refine i.j _ _ (⟨r.y 0,r.y 1,r.y 2,r.y 3,q.row.y 4⟩) (λbI=>?_);clear i K
  try simp only[PS]
  refine TY 13 (.agg #[Q1 false,Z (t % 2),Ow s]) z bI ?_;simp only[PS];refine RD 14 z (λK i=>?_);go_simp;refine i.j _ _ (⟨n.y 0,n.y 1,n.y 2,n.y 3,H.row.y 4⟩) (λcM=>?_);clear i K
  try simp only[PS]
  refine RD 15 z (λK i=>?_);refine UG _ f _ _ _ f base underlying113 V.j z d (Y u y.length C) y.length _ f H.own (Ki x.heap.size 0) 1 1 [Q1 false,Z (t % 2),Ow s] f z (World.news_of_block (AV x _)) (ef _ _ _) (by have:=o.size;simp<;>omega) (x.heap.size+1) j ?_;intro R O w9 B aA E I;have k:=qi (W:=w) (x:=(false,t % 2,s)) q (by have:=o.size;omega) ((U.J X).E (o.J d)) B aA E;have m:=n.V aA (λe=>by have:=(c.own.lt w.heap.size e.symm).2;omega);have J:=LE k;have q9:=k.1.y 0;have Q:=k.1.y 4;have r9:=k.1.A 0;have bR:=k.1.lt;have h:w.heap.size≠g:=d
  clear B aA E k;refine i.j _ _ (⟨m.y 0,m.y 1,m.y 2,m.y 3,Q⟩) (λaZ=>?_);clear i K
  try simp only[PS]
  refine TY 16 (Dr g 0) z aZ (TY 17 (Dr g 0) z aZ ?_);simp only[PS];refine RD 18 z (λK i=>?_);go_simp;have p:=m.other (Ki g 0) (by show g≠w.heap.size;omega) (Y (Hw R 0) (y.length+1) O);refine i.j _ _ (⟨p.y 0,p.y 1,p.y 2,p.y 3,J.j.2.1.row.y 4⟩) (λcN=>?_)
 rotate_left
 focus
  refine LM f _ _ l (qW t A a b ht _) ?_;rintro e w4 ⟨rfl,bQ⟩;refine⟨_,z,?_⟩;have F:Q3 N w4:=(D).drew.E bQ;have S:=P.I F;have L:=M.I F;have cO:=S.row.y 0;refine i.j _ _ (⟨L.y 0,L.y 1,L.y 2,L.y 3,S.row.y 4⟩) (λbJ=>?_);clear i K
  try simp only[PS]
  refine EU (rs:=[4,12]) κ j ?_;refine DA z (λK i=>?_) (DA z (λK i=>?_) EQ)
  focus
   go_simp;refine i.j _ _ bJ (λ_=>?_);clear i K
   try simp only[PS]
   refine RD 12 z (λK i=>?_);refine LM f 273 #[OI t A a b,Z wd] l (W.j _) ?_;rintro e x ⟨rfl,T⟩;refine⟨_,z,?_⟩;have o:Q3 N x:=F.E (T.J F.size);have q:=P.I o;have r:=M.I o;have cJ:=q.row.y 0;have cI:=q.row.lt;have H:=q.I ((D).alloc AA (.cells #[Q1 false,Z (t % 2),Ow s] 167));have n:=r.alloc (.cells #[Q1 false,Z (t % 2),Ow s] 167);refine i.j _ _ (⟨r.y 0,r.y 1,r.y 2,r.y 3,q.row.y 4⟩) (λbP=>?_);clear i K
   try simp only[PS]
   refine TY 13 (.agg #[Q1 false,Z (t % 2),Ow s]) z bP ?_;simp only[PS];refine RD 14 z (λK i=>?_);go_simp;refine i.j _ _ (⟨n.y 0,n.y 1,n.y 2,n.y 3,H.row.y 4⟩) (λbU=>?_);clear i K
   try simp only[PS]
   refine RD 15 z (λK i=>?_);refine UG _ f _ _ _ f base underlying113 V.j z d (Y u y.length C) y.length _ f H.own (Ki x.heap.size 0) 1 1 [Q1 false,Z (t % 2),Ow s] f z (World.news_of_block (AV x _)) (ef _ _ _) (by have:=o.size;simp<;>omega) (x.heap.size+1) j ?_;intro R O w9 B aA E I;have k:=qi (W:=w) (x:=(false,t % 2,s)) q (by have:=o.size;omega) ((U.J X).E (o.J d)) B aA E;have m:=n.V aA (λe=>by have:=(c.own.lt w.heap.size e.symm).2;omega);have J:=LE k;have q9:=k.1.y 0;have Q:=k.1.y 4;have r9:=k.1.A 0;have bR:=k.1.lt;have h:w.heap.size≠g:=d
   clear B aA E k;refine i.j _ _ (⟨m.y 0,m.y 1,m.y 2,m.y 3,Q⟩) (λaR=>?_);clear i K
   try simp only[PS]
   refine TY 16 (Dr g 0) z aR (TY 17 (Dr g 0) z aR ?_);simp only[PS];refine RD 18 z (λK i=>?_);go_simp;have p:=m.other (Ki g 0) (by show g≠w.heap.size;omega) (Y (Hw R 0) (y.length+1) O);refine i.j _ _ (⟨p.y 0,p.y 1,p.y 2,p.y 3,J.j.2.1.row.y 4⟩) (λbV=>?_)
  rotate_left
  focus
   refine LM f 273 #[OI t A a b,Z wd] l (W.j _) ?_;rintro e x ⟨rfl,T⟩;refine⟨_,z,?_⟩;have o:Q3 N x:=F.E (T.J F.size);have q:=P.I o;have r:=M.I o;have cJ:=q.row.y 0;have cI:=q.row.lt;have H:=q.I ((D).alloc AA (.cells #[Q1 false,Z (t % 2),Ow s] 167));have n:=r.alloc (.cells #[Q1 false,Z (t % 2),Ow s] 167);refine i.j _ _ (⟨r.y 0,r.y 1,r.y 2,r.y 3,q.row.y 4⟩) (λaS=>?_);clear i K
   try simp only[PS]
   refine TY 13 (.agg #[Q1 false,Z (t % 2),Ow s]) z aS ?_;simp only[PS];refine EU (rs:=[4,14]) κ j ?_;refine DA z (λK i=>?_) (DA z (λK i=>?_) EQ)
   focus
    go_simp;refine i.j _ _ aS (λ_=>?_);clear i K
    try simp only[PS]
    refine RD 14 z (λK i=>?_);go_simp;refine i.j _ _ (⟨n.y 0,n.y 1,n.y 2,n.y 3,H.row.y 4⟩) (λbW=>?_);clear i K
    try simp only[PS]
    refine RD 15 z (λK i=>?_);refine UG _ f _ _ _ f base underlying113 V.j z d (Y u y.length C) y.length _ f H.own (Ki x.heap.size 0) 1 1 [Q1 false,Z (t % 2),Ow s] f z (World.news_of_block (AV x _)) (ef _ _ _) (by have:=o.size;simp<;>omega) (x.heap.size+1) j ?_;intro R O w9 B aA E I;have k:=qi (W:=w) (x:=(false,t % 2,s)) q (by have:=o.size;omega) ((U.J X).E (o.J d)) B aA E;have m:=n.V aA (λe=>by have:=(c.own.lt w.heap.size e.symm).2;omega);have J:=LE k;have q9:=k.1.y 0;have Q:=k.1.y 4;have r9:=k.1.A 0;have bR:=k.1.lt;have h:w.heap.size≠g:=d
    clear B aA E k;refine i.j _ _ (⟨m.y 0,m.y 1,m.y 2,m.y 3,Q⟩) (λaT=>?_);clear i K
    try simp only[PS]
    refine TY 16 (Dr g 0) z aT (TY 17 (Dr g 0) z aT ?_);simp only[PS];refine RD 18 z (λK i=>?_);go_simp;have p:=m.other (Ki g 0) (by show g≠w.heap.size;omega) (Y (Hw R 0) (y.length+1) O);refine i.j _ _ (⟨p.y 0,p.y 1,p.y 2,p.y 3,J.j.2.1.row.y 4⟩) (λbY=>?_)
   rotate_left
   focus
    go_simp;refine i.j _ _ (⟨n.y 0,n.y 1,n.y 2,n.y 3,H.row.y 4⟩) (λaY=>?_);clear i K
    try simp only[PS]
    refine RD 4 z (λK i=>?_);go_simp;refine i.j _ _ aY (λ_=>?_);clear i K
    try simp only[PS]
    refine RD 15 z (λK i=>?_);refine UG _ f _ _ _ f base underlying113 V.j z d (Y u y.length C) y.length _ f H.own (Ki x.heap.size 0) 1 1 [Q1 false,Z (t % 2),Ow s] f z (World.news_of_block (AV x _)) (ef _ _ _) (by have:=o.size;simp<;>omega) (x.heap.size+1) j ?_;intro R O w9 B aA E I;have k:=qi (W:=w) (x:=(false,t % 2,s)) q (by have:=o.size;omega) ((U.J X).E (o.J d)) B aA E;have m:=n.V aA (λe=>by have:=(c.own.lt w.heap.size e.symm).2;omega);have J:=LE k;have q9:=k.1.y 0;have Q:=k.1.y 4;have r9:=k.1.A 0;have bR:=k.1.lt;have h:w.heap.size≠g:=d
    clear B aA E k;refine i.j _ _ (⟨m.y 0,m.y 1,m.y 2,m.y 3,Q⟩) (λk=>?_);clear i K
    try simp only[PS]
    refine TY 16 (Dr g 0) z k (TY 17 (Dr g 0) z k ?_);simp only[PS];refine RD 18 z (λK i=>?_);go_simp;have p:=m.other (Ki g 0) (by show g≠w.heap.size;omega) (Y (Hw R 0) (y.length+1) O);refine i.j _ _ (⟨p.y 0,p.y 1,p.y 2,p.y 3,J.j.2.1.row.y 4⟩) (λB=>?_)
   rotate_left
  rotate_left 2
 rotate_left 3
 all_goals
  clear i K
  try simp only[PS]
  refine DN ?_;go_end0;exact⟨⟨_,z⟩,⟨_,J.j.2.1⟩,J.j.2.2.2⟩
theorem Jn(base g:Nat)(v:Ra)(b:List OpT)(aA nm lf wd:Int)(w:Q9)(h:Wrt w base g v b aA nm lf wd)(m:base<=w.heap.size)(y:b.length<=1000)(p:0<=aA)(q:aA<=100000)(r:0<=nm)(s:nm<=2000000000):Calls prog 214 #[Dr g 0] w λe w'=>e=Q2 (.func (.func 271) #[] #[Dr w.heap.size 0])/\Row w' w.heap.size [Dr g 0]/\(∃c,Wrt w' base g c (b++[(false,aA,NB 3 lf nm empty wd)]) (aA+1) (nm+1) lf wd/\∀k,c.ownBlock=some k->k≠w.heap.size)/\Below base w w':=by
 have A:∀(l:Fn) (first a:Array Ra) (w:Q9),(Instr.makeFunc l first a).run prog w=.ok (.func l first a) w:=λ_ _ _ _=>z
 have f:∀o,Q3 w (w.alloc o):=λo=>LH _ _
 have n:=LE (tA base g v b aA nm lf wd _ (h.I (f (.cells #[Dr g 0] 218))) (AJ m (f _).size) y p q r s);go_enter func214,ntmps214;go_wp2_with (go_at_call 217;refine n.j.J ?_;rintro e C ⟨⟨x,rfl⟩,c,t,o,j⟩);go_ret;have B:=h.row.lt;refine⟨z,(LZ w #[Dr g 0] 218).wk j d (λe=>by have:=(h.own.lt w.heap.size e.symm).2;omega),⟨c,t,λk u e=>?_⟩,((f _).J m).E o⟩;subst e;rcases j.own _ u with i|i
 .have:=(h.own.lt _ i).2;omega
 rw[BG]at i;omega
theorem L9(base g B:Nat)(v:Ra)(o:List OpT)(c nm lf:Int)(n m:Nat)(p:Q5)(b:List Ch)(j:Nat)(w:Q9)(a:Wrt w base g v o c nm lf (n:Int))(u:Row w B [Dr g 0])(E:B≠g)(F:some B≠v.ownBlock)(O:Chs w p b)(M:b.length<=1048576)(N:∀x∈b,x.1.size<=1048576/\x.2.1.size<=1048576)(k:base<=w.heap.size)(U:o.length+(PK (MN b) lf nm n m).length<=1000)(V:n+m=56)(R:1<=n)(S:n<=8)(H:0<=c)(I:c<=10000)(P:0<=nm)(Q:nm<=1900000000):Calls prog 271 #[Y p b.length j,Dr B 0] w λe w'=>(∃x,e=Q2 x)/\∃q,Wrt w' base g q (o++NE c (PK (MN b) lf nm n m)) (c+((PK (MN b) lf nm n m).length:Int)) (nm+((PK (MN b) lf nm n m).length:Int)) lf (n:Int)/\Below base w w'/\WK g w v w' q:=by
 have A:=LE (λW (T:Chs W p b)=>nT p b j W T M N);have h:=iw b;go_enter func271,ntmps271;go_wp2_with fail;refine AN (S:=λw'=>w'.cell? (Ki B 0)=some (Dr g 0)) κ (u.drew.y 0) (λt=>?_);refine TY 0 (Dr g 0) z t (TY 1 (Y p b.length j) z t ?_);simp only[PS];refine RD 2 z (λK i=>?_);refine LM f 191 #[Y p b.length j] l (A.j _ (O.I (D).drew)) ?_;rintro e y ⟨rfl,J⟩;refine⟨_,z,?_⟩;have aA:Q3 w y:=(D).drew.E J;have s:=u.I aA;refine i.j _ _ (s.y 0) (λX=>?_);clear i K
 try simp only[PS]
 refine RD 3 z (λK i=>?_);refine LM f 194 #[Dr g 0,Ow (MN b)] l (zH base g v o c nm lf n m _ _ (a.I aA) (AJ k aA.size) ω U V R S H I P Q) ?_;rintro e w5 ⟨⟨x,rfl⟩,q,G,L,r⟩;refine⟨_,z,?_⟩;have C:=s.wk r E F;refine i.j _ _ (C.y 0) (λd=>?_);clear i K
 try simp only[PS]
 refine DN ?_;go_end0;exact⟨⟨_,z⟩,q,G,(aA.J k).E L,(⟨aA.size,λ_ a=>.inl a,λb k _ _=>aA.block b k⟩:WK g w v y v).E r⟩
theorem oR{e:TypeId}{s:Nat}{n:Nat}{f:List Ra}(h:w.ownsRow base e s v n f)(i:∀b,base<=b->b<w.heap.size->w'.heap[b]?=w.heap[b]?):w'.ownsRow base e s v n f:=by
 refine⟨h.1,?_⟩;rcases h.2 with j|⟨g,a,b,rfl,d,c,aA⟩
 .exact .inl j
 exact .inr ⟨g,a,b,z,d,(i g d (AR.1 c).1).E c,aA⟩
theorem Bat.span{aA:List (List Ch)}(h:Bat w base v aA)(a:∀b,base<=b->b<w.heap.size->w'.heap[b]?=w.heap[b]?):Bat w' base v aA:=by
 obtain⟨f,b,c,d⟩:=h;exact⟨f,oR b a,λi e=>oR (c i e) a,d⟩
theorem Cz(q:Int)(l r:List Q4):NE q (l++r)=NE q l++NE (q+(l.length:Int)) r:=by
 unfold NE;rw[List.mapIdx_append]
 congr 1
 apply KW
 .simp
 intro i a b
 simp;omega
theorem Row.below2{N:Nat}{b:List Ra}(h:Row w g b)(c:g<N)(a:Below N w w'):Row w' g b :=⟨AC h.lt a.size,λi v hv=>(a.cell (p:=(Ki g i)) c).E (h.cell i v hv),λi d=>(a.frozen (p:=(Ki g i)) c).E (h.froz i d)⟩
def tQ(w w':Q9)(x:Ending)(d:Dd)(a:Q5)(c:Nat):Prop:=∃b e,x=Q2 (MT d a c b e)/\d.ops.length<=e/\OwnS w' b (LG d.ops)/\(∀g,blk b d.ops.length=some g->w.heap.size<=g)/\Q3 w w'
theorem Mz(S L T f F R U O:Int)(n m:Nat)(a:Q5)(y:List Pr)(c:Nat)(w:Q9)(s:Prs w a y)(hc:y.length<=c)(hl:y.length<=1048576)(hs:∀r∈y,r.1.size<=1048576/\r.2.size<=1048576)(hm:n+m=56)(eR:1<=n)(eT:n<=8)(gX:bi (n:Int) S L T f F y)(aZ:T+1<=1000000000/\F+hv S<=999999000):Calls prog 152 #[NA (n:Int) S L T f F R U O a y.length c] w λr w'=>tQ w w' r (am (n:Int) S L T f F y) a c:=by
 obtain⟨D,hS,hL,hT,hH,hF,i⟩:=gX;have hQ:=QS hS;have cW:=LE (λw'=>wH T f F R S L w' d d d d d d);have b:VO (T+1) (1-f) (F+hv S) L=true:=by unfold VO;simp;omega
 have K:=LE (λw'=>yh (T+1) (1-f) (F+hv S) L w');rw[b]at K;have p:=LE (λw'=>vf (n:Int) S L (T+1) (1-f) (F+hv S) L 0 0 a y.length c w' d d d d d d);unfold am;unfold NA at p⊢;have G:(n:Int).toNat=n:=d
 have I:56-n=m:=d
 rw[G,I];obtain⟨Q,HQ⟩:=nHz (hv S);rw[<-HQ.j]at hQ cW K p i aZ⊢;obtain⟨o,k⟩:=nMz (2+(1-f)*Q)
 have iV:2<=o/\o<=101:=by
  rcases(show f=0\/f=1 by omega) with e|e
  .subst e;omega
  subst e;omega
 rw[<-k]at p⊢;simp only[Int.add_zero]at p;clear k G I b;obtain⟨iM,iN⟩:=aZ;obtain⟨t,e⟩:=nMz (NC y);have gK:=gi y
 have fS:Hid (∀b∈t,b.length<=1048576/\∀r∈b,r.1.size<=1048576/\r.2.1.size<=1048576):=by
  intro b B;rw[e]at B;obtain⟨N,h2⟩:=tg B;exact⟨d,λr k=>hs _ (h2 r k)⟩
 have M:=LE (λw' k=>wE a y c w' k hc hl hs);have aU:=LE (λk=>mu L (F+Q) n m hm eR eT (t.take k))
 have aK:Hid (∀k,MY (t.take k) (n:Int)<=Q-1):=λk=>by
  have:=vV t k (n:Int);rw[<-e]at i;omega
 rw[<-e]at gK M⊢;clear e i;have dV:Hid (Q3 w ((w.alloc (.cells (sK (n:Int) S L T f F R U O (Y a y.length c)) 44)).alloc (.cells (dK 0 0 0 0 0 0 0 0 0 0 (Y none 0 0) (Y none 0 0)) 115))):=(LH _ _).alloc j _;go_enter func152,ntmps152;go_wp2_with fail;refine(cW.j _).J ?_;rintro e w1 ⟨rfl,A⟩;have i:=((LZ w (sK (n:Int) S L T f F R U O (Y a y.length c)) 44).alloc (.cells (dK 0 0 0 0 0 0 0 0 0 0 (Y none 0 0) (Y none 0 0)) 115)).I A;have B:=(km (w:=w.alloc (.cells (sK (n:Int) S L T f F R U O (Y a y.length c)) 44)) (A:=(dK 0 0 0 0 0 0 0 0 0 0 (Y none 0 0) (Y none 0 0))) (t:=115) (g:=w.heap.size+1) j).I A;have N:=LE (dV.j.E (A.J τ));obtain⟨G,I,P,V,W,X,h,q,x,H⟩:=i.k10;have u:=i.A 0;have bY:=i.A 1;have bZ:=i.A 2;have cA:=i.A 3
 have cC:=i.A 4;have cE:=i.A 5;have cF:=i.A 6;have cH:=i.A 7;have cI:=i.A 8;have cJ:=i.A 9;have E:=LE i;have J:=LE B;clear i B A;go_wp2_with fail;refine(K.j _).J ?_;rintro e w2 ⟨rfl,A⟩;clear G u I bY P bZ V cA W cC X cE h cF q cH x cI H cJ;have i:=((((E.j.set 3 j _).set 4 j _).set 5 j _).set 6 j _).I A;have B:=((((J.j.other (Ki w.heap.size 3) (by show w.heap.size≠_;omega) _).other (Ki w.heap.size 4) (by show w.heap.size≠_;omega) _).other (Ki w.heap.size 5) (by show w.heap.size≠_;omega) _).other (Ki w.heap.size 6) (by show w.heap.size≠_;omega) _).I A;have G:=((((N.j.setCell (p:=(Ki w.heap.size 3)) C (Z (T+1))).setCell (p:=(Ki w.heap.size 4)) C (Z (1-f))).setCell (p:=(Ki w.heap.size 5)) C (Z (F+Q))).setCell (p:=(Ki w.heap.size 6)) C (Z L))
 have eB:=LE (G.E (A.J G.size));simp only[DM,DS]at i;clear A G N E J;obtain⟨G,I,P,V,W,X,h,q,x,H⟩:=i.k10;have u:=i.A 0;have bY:=i.A 1;have bZ:=i.A 2;have cA:=i.A 3;have cC:=i.A 4;have cE:=i.A 5;have cF:=i.A 6;have cH:=i.A 7;have cI:=i.A 8;have cJ:=i.A 9;have E:=LE i;have J:=LE B;clear i B;go_wp2_with fail;clear G u I bY P bZ V cA W cC X cE h cF q cH x cI H cJ;obtain⟨A,G⟩:=nMz ((w2.setCell (Ki w.heap.size 7) (Z 0)).setCell (Ki w.heap.size 8) (Z 0));have i:Row A (w.heap.size) (sJ (n:Int) S L (T+1) (1-f) (F+Q) L 0 0 (Y a y.length c)):=by rw[G];exact(E.j.set 7 j _).set 8 j _
 have B:Row A (w.heap.size+1) (dJ 0 0 0 0 0 0 0 0 0 0 (Y none 0 0) (Y none 0 0)):=by rw[G];exact(J.j.other (Ki w.heap.size 7) (by show w.heap.size≠_;omega) _).other (Ki w.heap.size 8) (by show w.heap.size≠_;omega) _
 have I:Q3 w A:=by rw[G];exact(eB.j.setCell (p:=(Ki w.heap.size 7)) C _).setCell (p:=(Ki w.heap.size 8)) C _
 rw[<-G];clear G E J eB;refine(p.j _).J ?_;rintro e w4 ⟨g,rfl,D,G⟩;have iO:=D.ge;have iP:=D.row.lt;have gZ:=G.size;have N:=LE D;have P:=LE G;have E:=LE i;have J:=LE B;have cL:=LE I;have cP:=i.lt;have dM:=B.lt;clear D G i B I p cW K dV;go_wp2_with fail;refine(Jn A.heap.size g _ _ o (F+Q) L (n:Int) _ N.j gZ j d d d d).J ?_;rintro e w5 ⟨rfl,D,⟨v5,I,V⟩,K⟩;have p:Q3 A w5:=P.j.E K;have i:=E.j.I p;have G:=i.y 9;have iW:=K.size;have iL:=D.lt;clear i;go_wp2_with fail;clear G;refine(M.j _ (s.I (cL.j.E (p.J cL.j.size)))).J ?_;rintro e w6 ⟨v6,rfl,B,i⟩;obtain⟨va,vc,rfl,_⟩:=B.bts;have iX:=i.size;have fJ:=LE B;have fO:=LE (D.I i);have eE:=LE V
 have G:∀k,v5.ownBlock=some k->k<w5.heap.size:=λk hk=>(I.own.lt k hk).2
 have fT:=LE G;have fW:=LE (I.I i);have fI:=LE (p.E (i.J p.size));clear B D V G I i K p M N P;go_wp2_with fail;go_loopw [30] (λi wr=>∃k:Nat,k<=t.length/\i=Z (k:Int)/\∃v',Wrt wr A.heap.size g v' (NE o (QA L (F+Q) n m (t.take k))) (o+((QA L (F+Q) n m (t.take k)).length:Int)) (F+Q+((QA L (F+Q) n m (t.take k)).length:Int)) L (n:Int)/\Q3 A wr/\WK g w6 v5 wr v') (λi _=>t.length-(intOf i).toNat)
 case atStart =>
  refine⟨0,AL,z,v5,?_,fI.j,WK.start _ _ _⟩;rw[FZ,oh];have i:NE o [NB 3 L (F+Q) empty (n:Int)]=[]++[(false,o,NB 3 L (F+Q) empty (n:Int))]:=by simp[NE]
  rw[i];exact fW.j
 case round =>
  obtain⟨k,hk,rfl,v',D,K,M⟩:=hrel;have hN:((QA L (F+Q) n m (t.take k)).length:Int)<=99:=by have N:=aU.j k;have h2:=aK.j k;omega
  obtain⟨aA,i⟩:=nMz (QA L (F+Q) n m (t.take k));rw[<-i]at D hN;have fA:A.heap.size<=wr.heap.size:=K.size
  by_cases dN:k<t.length
  .have V:=fJ.j.span (w':=wr) (λb N h2=>M.blk b h2 d (λe=>by have:=fT.j b e.symm;omega))
   obtain⟨iZ,i6,h,W⟩:=V.bts
   cases h
   obtain⟨gl,p,X,rfl,gN,gL,P⟩:=W.at dN;have gW:(k:Int)<(t.length:Int):=d
   have iS:(0:Int)<=(k:Int):=d
   have G:=fS.j (t.getD k []) (by simp[List.getD,dN]);have gI:((QA L (F+Q) n m (t.take (k+1))).length:Int)<=99:=by have N:=aU.j (k+1);have h2:=aK.j (k+1);omega
   have I:QA L (F+Q) n m (t.take (k+1))=aA++PK (MN (t.getD k [])) L (F+Q+(aA.length:Int)) n m:=by rw[ib t k [] dN,xd,<-i]
   obtain⟨b,B⟩:=nMz (t.getD k []);rw[<-B]at gL P G I;rw[I,AK]at gI;have x:=LE (L9 A.heap.size g w4.heap.size v' (NE o aA) (o+(aA.length:Int)) (F+Q+(aA.length:Int)) L n m p b X wr D (fO.j.wk M d (λe=>eE.j _ e.symm z)) d (λe=>by rcases M.own _ e.symm with N|N;exact eE.j _ N z;omega) P G.1 G.2 fA (by rw[TN];omega) hm eR eT d d d d);have q:=LE I;have cS:=LE K;have u:=LE M;clear B I i G P K V W M D;go_wp2_with (go_at_call 271;refine x.j.J ?_;rintro e H ⟨⟨r,rfl⟩,W,V,P,B⟩);refine⟨⟨k+1,d,ν,W,?_,cS.j.E P,u.j.E B⟩,by simp[intOf];omega⟩;rw[q.j,Cz,AK];have G:o+((aA.length+(PK (MN b) L (F+Q+(aA.length:Int)) n m).length:Nat):Int)=o+(aA.length:Int)+((PK (MN b) L (F+Q+(aA.length:Int)) n m).length:Int):=d
   have I:F+Q+((aA.length+(PK (MN b) L (F+Q+(aA.length:Int)) n m).length:Nat):Int)=F+Q+(aA.length:Int)+((PK (MN b) L (F+Q+(aA.length:Int)) n m).length:Int):=d
   rw[G,I];exact V
  have gV:k=t.length:=d
  subst gV;have p:aA=QA L (F+Q) n m t:=by rw[i,DG]
  clear i;have fH:=LE p;obtain⟨ya,yc,rfl⟩:=D.sl;rw[TN]at D;have y0:=D.row.y 0;have i:=E.j.I K;have B:=J.j.I K;have iR:=D.row.lt;obtain⟨G,I,P,V,W,X,h,q,x,H⟩:=i.k10;have u:=i.A 0;have bY:=i.A 1;have bZ:=i.A 2;have cA:=i.A 3;have cC:=i.A 4;have cE:=i.A 5;have cF:=i.A 6;have cH:=i.A 7;have cI:=i.A 8;have cJ:=i.A 9;have eG:=LE D;have cS:=LE K;have eH:=LE i;have eI:=LE B;clear D K i B M p;go_wp2_with fail;clear G u I bY P bZ V cA W cC X cE h cF q cH x cI H cJ;clear y0;obtain⟨H,p⟩:=nMz (wr.setCell (Ki w.heap.size 7) (Z (aA.length:Int)));rw[<-p];have V:=eG.j.set w.heap.size 7 cP (Z (aA.length:Int));have i:=eH.j.set 7 j (Z (aA.length:Int));have B:=eI.j.other (Ki w.heap.size 7) (by show w.heap.size≠_;omega) (Z (aA.length:Int))
  have eP:Q3 w H:=by rw[p];exact(cL.j.E (cS.j.J cL.j.size)).setCell (p:=(Ki w.heap.size 7)) C _
  have eX:A.heap.size<=H.heap.size:=by rw[p];simpa[World.setCell] using fA
  simp only[DM,DS]at i;rw[<-p]at V i B;clear p eH eI eG;refine(uh A.heap.size g _ _ _ _ _ _ _ V eX (by rw[TN];omega)).J ?_;rintro e w8 ⟨⟨I,rfl⟩,⟨v8,p⟩,W⟩;have x:=i.below2 cP W;have fF:=B.below2 dM W;have eY:A.heap.size<=w8.heap.size:=AJ eX W.size;obtain⟨x0,x1,x2,x3,x4,x5,x6,x7,I,G⟩:=x.k10;have eF:=LE p;clear p;go_wp2_with fail;refine(Gw A.heap.size g _ _ _ _ _ _ _ _ _ _ _ eF.j eY (by simp[TN];omega) d).J ?_;rintro e w9 ⟨⟨i7,rfl⟩,⟨v9,eK⟩,X⟩;clear x0 x1 x2 x3 x4 x5 x6 x7 I G;have fE:=x.below2 cP X;have fG:=fF.below2 dM X;have eZ:A.heap.size<=w9.heap.size:=AJ eY X.size;go_wp2_with fail;refine(uh A.heap.size g _ _ _ _ _ _ _ eK eZ (by simp[TN];omega)).J ?_;rintro e M ⟨⟨iA,rfl⟩,⟨iY,K⟩,P⟩;have bF:=fE.below2 cP P;have q:=fG.below2 dM P;have gY:A.heap.size<=M.heap.size:=AJ eZ P.size
  have eQ:Q3 w M:=((eP.E (W.J d)).E (X.J d)).E (P.J d);have fQ:=LE eQ;obtain⟨za,zc,rfl⟩:=K.sl;have h:(NE o aA++[(true,0,empty)]++[(false,(T+1) % 2,QE (T+1) (1-f) (F+Q) L (n:Int))]++[(true,0,empty)]).length=aA.length+3:=by simp[TN]
  obtain⟨D,p,dL,ez,gS,gU,u⟩:∃D p,aA.length+3<=p/\Y za (NE o aA++[(true,0,empty)]++[(false,(T+1) % 2,QE (T+1) (1-f) (F+Q) L (n:Int))]++[(true,0,empty)]).length zc=Y (Hw D 0) (aA.length+3) p/\A.heap.size<=D/\D<M.heap.size/\Row M D (LG (NE o aA++[(true,0,empty)]++[(false,(T+1) % 2,QE (T+1) (1-f) (F+Q) L (n:Int))]++[(true,0,empty)])):=by
   rcases MS K.own with ⟨G,I⟩|⟨g,p,G,I,e3,e4⟩
   .simp at I
   exact⟨g,p,by have:=wt K.own;injection G with _ _ e;omega,by rw[G,h],I,e3,e4⟩
  have y0:=K.row.y 0;rw[ez]at y0;have gM:=K.row.lt;have iQ:w.heap.size≠g:=d
  have gQ:w.heap.size+1≠g:=d
  have gR:¬g=w.heap.size+1:=d
  obtain⟨x0,x1,x2,x3,x4,x5,x6,x7,I,G⟩:=bF.k10;obtain⟨d0,d1,d2,d3,d4,d5,d6,d7,d8,d9,fY,fZ⟩:=q.k12;obtain⟨iB,iC,iD,iE,iF,iG,iH,iI,iJ,iK,gE,gF⟩:=q.z12;have iT:w.heap.size<M.heap.size:=d
  have iU:w.heap.size+1<M.heap.size:=d
  have cT:=LE u;clear K P X W eP eQ eK V i B x fF fE fG bF q eF u ez;go_wp2_with fail;refine AN (S:=λw'=>w'.cell? (Ki w.heap.size 0)=some (Z (n:Int))/\w'.cell? (Ki w.heap.size 1)=some (Z S)/\w'.cell? (Ki w.heap.size 2)=some (Z L)/\w'.cell? (Ki w.heap.size 3)=some (Z (T+1))/\w'.cell? (Ki w.heap.size 4)=some (Z (1-f))/\w'.cell? (Ki w.heap.size 5)=some (Z (F+Q))/\w'.cell? (Ki w.heap.size 6)=some (Z L)/\w'.cell? (Ki w.heap.size 7)=some (Z (aA.length:Int))/\w'.cell? (Ki w.heap.size 8)=some (Z 0)/\w'.cell? (Ki w.heap.size 9)=some (Y a y.length c)/\w'.cell? (Ki g 0)=some (Y (Hw D 0) (aA.length+3) p)) κ (⟨l,l,l,l,l,l,l,l,l,l,l⟩) (λi=>?_);refine TY 0 (.agg (sK (n:Int) S L (T+1) (1-f) (F+Q) L (aA.length:Int) 0 (Y a y.length c))) z i (TY 1 (Dr g 0) z i (TY 2 (Dr g 0) z i (TY 3 (Dr g 0) z i (TY 4 (Y (Hw D 0) (aA.length+3) p) z i (TY 5 (.agg #[Z 0,Z (n:Int),Z S,Z L,Z (T+1),Z (1-f),Z (F+Q),Z L,Z (aA.length:Int),Z 0,Y a y.length c,Y (Hw D 0) (aA.length+3) p]) z i ?_)))))
  simp only[PS];refine RD 6 z (λK B=>?_);go_simp;refine B.j _ _ (⟨l,l,l,l,l,l,l,l,l,l,l⟩) (λP=>?_);clear B K
  try simp only[PS]
  refine DN ?_;go_wp2;rw[<-fH.j];have K:NE o aA++[(true,0,empty),(false,(T+1) % 2,QE (T+1) (1-f) (F+Q) L (n:Int)),(true,0,empty)]=(NE o aA++[(true,0,empty)]++[(false,(T+1) % 2,QE (T+1) (1-f) (F+Q) L (n:Int))]++[(true,0,empty)]):=j
  rw[K];refine AE (v:=MT ⟨0,(n:Int),S,L,T+1,1-f,F+Q,L,(aA.length:Int),0,y,(NE o aA++[(true,0,empty)]++[(false,(T+1) % 2,QE (T+1) (1-f) (F+Q) L (n:Int))]++[(true,0,empty)])⟩ a c (Hw D 0) p) (by simp[results,results152,go_sem,MT,TN,d0,d1,d2,d3,d4,d5,d6,d7,d8,d9,fY,fZ]) z ⟨_,p,z,by rw[h];exact dL,?_,?_,?_⟩
  .refine .inr ⟨D,z,?_⟩
   refine Row.drew ?_
   iterate 12(refine Row.other ?_ _ (by show w.heap.size+1≠D;omega) _)
   exact cT.j
  .exactλg B=>by change blk _ (NE o aA++[(true,0,empty)]++[(false,(T+1) % 2,QE (T+1) (1-f) (F+Q) L (n:Int))]++[(true,0,empty)]).length=_ at B;rw[h,ND _ _ _ d]at B;cases B;omega
  refine Below.drew ?_
  iterate 12(refine GS ?_ (by show w.heap.size<=w.heap.size+1;omega) _)
  exact fQ.j
theorem Dz(W S L T b F R U O:Int)(a:Q5)(i:List Pr)(c:Nat)(w:Q9)(A:bi W S L T b F i)(aA:¬(T+1<=1000000000/\F+hv S<=999999000)):Calls prog 152 #[NA W S L T b F R U O a i.length c] w λe w'=>e=Q2 (MT (LO 4) none 0 none 0)/\Q3 w w':=by
 obtain⟨hW,hS,hL,hT,hH,hF,aJ⟩:=A;have hQ:=QS hS;have o:=LE (λw'=>wH T b F R S L w' d d d d d d)
 have e:VO (T+1) (1-b) (F+hv S) L=false:=by
  refine me _ _ _ _ ?_
  by_cases f:T+1<=1000000000
  .exact .inr (.inr (.inr d))
  exact .inl d
 have l:=LE (λw'=>yh (T+1) (1-b) (F+hv S) L w');rw[e]at l;unfold NA;obtain⟨Q,p⟩:=nHz (hv S);rw[<-p.j]at hQ o l aA;clear e aA;have r:Hid (Q3 w ((w.alloc (.cells (sK W S L T b F R U O (Y a i.length c)) 44)).alloc (.cells (dK 0 0 0 0 0 0 0 0 0 0 (Y none 0 0) (Y none 0 0)) 115))):=(LH _ _).alloc σ _;go_enter func152,ntmps152;go_wp2_with fail;refine(o.j _).J ?_;rintro e w1 ⟨rfl,k⟩;have f:=((LZ w (sK W S L T b F R U O (Y a i.length c)) 44).alloc (.cells (dK 0 0 0 0 0 0 0 0 0 0 (Y none 0 0) (Y none 0 0)) 115)).I k;have h:=(km (w:=w.alloc (.cells (sK W S L T b F R U O (Y a i.length c)) 44)) (A:=(dK 0 0 0 0 0 0 0 0 0 0 (Y none 0 0) (Y none 0 0))) (t:=115) (g:=w.heap.size+1) σ).I k;have m:=LE (r.j.E (k.J τ));have t:=LE f;have n:=LE h
 obtain⟨s,u,y,B,D,E,G,I,J,K⟩:=f.k10;have M:=f.A 0;have N:=f.A 1;have P:=f.A 2;have V:=f.A 3;have X:=f.A 4;have q:=f.A 5;have x:=f.A 6;have H:=f.A 7;have j:=f.A 8;have bT:=f.A 9;clear f h k;go_wp2_with fail;refine(l.j _).J ?_;rintro e w2 ⟨rfl,f⟩;clear s M u N y P B V D X E q G x I H J j K bT;have h:=((((n.j.other (Ki w.heap.size 3) (by show w.heap.size≠_;omega) _).other (Ki w.heap.size 4) (by show w.heap.size≠_;omega) _).other (Ki w.heap.size 5) (by show w.heap.size≠_;omega) _).other (Ki w.heap.size 6) (by show w.heap.size≠_;omega) _).I f;have k:=((((m.j.setCell (p:=(Ki w.heap.size 3)) C (Z (T+1))).setCell (p:=(Ki w.heap.size 4)) C (Z (1-b))).setCell (p:=(Ki w.heap.size 5)) C (Z (F+Q))).setCell (p:=(Ki w.heap.size 6)) C (Z L))
 have s:=LE (k.E (f.J k.size));obtain⟨B,D,E,G,I,J,K,M,N,P,u,y⟩:=h.k12;obtain⟨q,x,H,j,bZ,cA,cC,cE,cF,cH,V,X⟩:=h.z12;have cI:=h.lt;clear f k m t n h;go_wp2_with fail;refine AE (v:=MT (LO 4) none 0 none 0) (by simp[results,results152,go_sem,MT,LO,B,D,E,G,I,J,K,M,N,P,u,y]) z ⟨z,?_⟩
 iterate 12(refine GS ?_ (by show w.heap.size<=w.heap.size+1;omega) _)
 exact s.j
end
section
open Tryz
open Go.RowKit Go.Lib
variable {P:Program}{w:Q9}
theorem qw(w:Q9)(l B C d:TypeId)(k g o e p:Nat)(a:Addr)(f s:Nat)(b:Array Ra)(t:TypeId)(c:List Ra)(n:Nat)
  (A:P.underlying l=some (.slice d))(m:(P.info? d).map (·.size)=some k)
  (y:w.heap[g]?=some (.cells b t (0,0)))(z:Nat.min f e=n)(x:c.length=n*k)
  (r:∀j v,c[j]?=some v->w.cell? (a.add j)=some v)(q:o+c.length<=b.size)(u:∀v∈c,v.oneCell'=true):(Builtin.copy_ #[l,B] C #[Y (Hw g o) e p,Y (some a) f s]).run P w =
   .ok (goInt n) (w.setRow g (b.toList.take o++c++b.toList.drop (o+c.length)).toArray):=by
 have j:=run_loadCells_list (P:=P) w a c r;have h:=KR P g o t c 0 b w y (by simpa using q) u
 cases hq:P.info? d with
 | none=>simp[hq]at m
 | some i =>
  have v:i.size=k:=by simpa[hq] using m
  simp only[IQ]at h;rw[x]at j;simp[Builtin.copy_,GG A,Builtin.lenOf,Builtin.firstCells,sizeOf,typeInfo,hq,v,z,j,h]
theorem I7(w:Q9)(t A e:TypeId)(k g d h:Nat)(a:Addr)(n c:Nat)(b:Array Ra)(o:TypeId)(f:List Ra)
  (z:P.underlying t=some (.slice e))(m:(P.info? e).map (·.size)=some k)
  (y:w.heap[g]?=some (.cells b o (0,0)))(p:d+n<=h)(x:f.length=n*k)
  (s:∀j v,f[j]?=some v->w.cell? (a.add j)=some v)(r:d*k+f.length<=b.size)(u:∀v∈f,v.oneCell'=true):(Builtin.append_ #[t,t] A #[Y (Hw g 0) d h,Y (some a) n c]).run P w =
   .ok (Y (Hw g 0) (d+n) h) (w.setRow g (b.toList.take (d*k)++f++b.toList.drop (d*k+f.length)).toArray):=by
 have l:=run_loadCells_list (P:=P) w a f s;have j:=KR P g (d*k) o f 0 b w y (by simpa using r) u;have q:((Ki g 0):Addr).add (d*k)=(Ki g (d*k)):=by rw[IA];simp
 cases hq:P.info? e with
 | none=>simp[hq]at m
 | some i =>
  have v:i.size=k:=by simpa[hq] using m
  simp only[IQ]at j;rw[x]at l;simp[Builtin.append_,GG z,Builtin.lenOf,Builtin.firstCells,sizeOf,typeInfo,hq,v,l,j,p,q]
theorem Ir(w:Q9)(t q e:TypeId)(z:Ra)(p:P.underlying t=some (.slice e))(hv:∀w,(zeroValue e).run P w=.ok z w)(g o n c:Nat)(r:0<n)(a:Array Ra)(h:TypeId)(b:List Ra)
  (l:w.heap[g]?=some (.cells a h (0,0)))(j:(Builtin.zeroCells z.cells n).toList=b)(i:o+b.length<=a.size)(k:∀v∈b,v.oneCell'=true):(Builtin.clear_ #[t] q #[Y (Hw g o) n c]).run P w=.ok (.tuple #[]) (w.setRow g (a.toList.take o++b++a.toList.drop (o+b.length)).toArray):=by
 have f:=KR P g o h b 0 a w l (by simpa using i) k;simp only[IQ]at f;obtain⟨m,rfl⟩:∃m,n=m+1:=⟨n-1,d⟩;simp[Builtin.clear_,GG p,hv,j,f]
theorem sf(w:Q9)(g:Nat)(a:Array Ra):w.grownBy (w.setRow g a) (some g):=⟨z,z,z,by simp[World.setRow],λk _ b=>LD w g k a (λe=>b (by rw[e]))⟩
theorem yS{c d:Q9}{r:Option Nat}(h:w.grownBy c r)(k:c.grownBy d r):w.grownBy d r :=⟨k.os.E h.os,k.tape.E h.tape,k.output.E h.output,AJ h.size k.size,λj b a=>(k.block j (AC b h.size) a).E (h.block j b a)⟩
theorem ex{g:Nat}{cur:List Ra}{t:TypeId}{a:Nat×Nat}(h:w.heap[g]?=some (.cells cur.toArray t a)){j:Nat}{v:Ra}(hv:cur[j]?=some v):w.cell? (Ki g j)=some v:=by
 simp[World.cell?,h,hv]
theorem uW{b:Array Oper}{o:Oper}{a:Act}{K:Act->Q9->Prop}{Q:Exit->Act->Q9->Prop}{E:Prop}
  (k:o.guard=none)(d x:Operand)(c e:TypeId)(h:o.op=Op.call { callee:=Callee.builtin Builtin.append,args:=#[d,x],argTypes:=#[c,e] })
  (v u:Ra)(j:a.eval d=v)(n:a.eval x=u){f:Ra}{g:Q9}(l:(Builtin.append_ #[c,e] o.type #[v,u]).run P w=.ok f g)(i:K (a.put o.dst f) g):if Region.wanted o (yielded b a.tmps)=true then Oper.wp P o a w K Q else E:=by
 have m:Region.wanted o (yielded b a.tmps)=true:=by simp[Region.wanted,k]
 rw[G m];unfold Oper.wp;simp[execOp,h,resolve,invoke,builtin,j,n,l,Result.andThen];exact i
end
section
open Tryz
open Go.RowKit Go.Lib
theorem my:(prog.info? 151).map (·.size)=some 2:=h
theorem C0(w:Q9):(zeroValue 151).run prog w=.ok (.agg #[Ow empty,Ow empty]) w:=h
def jf(a:List Ra)(n p:Nat):List Ra:=a.take (p*2)++(a.drop (p*2+2)).take ((n-p-1)*2)++[Ow empty,Ow empty]++a.drop (n*2)
theorem Kg(a:List Ra)(n p:Nat)(h:n*2<=a.length)(i:p<n)(b c:List Ra)(g:b=(a.drop (p*2+2)).take ((n-p-1)*2))(f:c=a.take (p*2)++b++a.drop (p*2+b.length)):b.length=(n-p-1)*2/\c.length=a.length/\c.take ((n-1)*2)++[Ow empty,Ow empty]++c.drop ((n-1)*2+2)=jf a n p:=by
 have d:b.length=(n-p-1)*2:=by rw[g,AZ,BS];omega
 have e:(a.take (p*2)++b).length=(n-1)*2:=by rw[AK,AZ,d];omega
 refine⟨d,by rw[f,AK,e,BS,d];omega,?_⟩;unfold jf;rw[<-g,f,GZ e,List.drop_append,EA (by rw[e];omega),e,EL,GO,d]
 congr 2
 omega
theorem Fx(g n b p:Nat)(f:List Ra)(w:Q9)(l:w.heap[g]?=some (.cells f.toArray 151 (0,0)))(S:f.length=b*2)(T:n<=b)(R:n<=100000)(H:p<n)(A:∀v∈f.take (n*2),v.oneCell'=true):Calls prog 344 #[Y (Hw g 0) n b,Z (p:Int),Z ((p:Int)+1)] w λe s=>e=Q2 (Y (Hw g 0) (n-1) b)/\w.grownBy s (some g) /\
   s.heap[g]?=some (.cells (jf f n p).toArray 151 (0,0)):=by
 have Q:¬((p:Int)=(p:Int)+1):=d
 have J:(p:Int)<=(p:Int)+1:=d
 have L:(p:Int)+1<=(n:Int):=d
 have I:(0:Int)<=(p:Int):=d
 have M:(0:Int)<=(p:Int)+1:=d
 have N:(n:Int)<=(b:Int):=d
 have O:(p:Int)<=(b:Int):=d
 have P:((p:Int)+1).toNat=p+1:=d
 have F:p+(n-(p+1))=n-1:=d
 obtain⟨e,m⟩:=u ((f.drop (p*2+2)).take ((n-p-1)*2));obtain⟨i,r⟩:=u (f.take (p*2)++e++f.drop (p*2+e.length));obtain⟨o,G,y⟩:=Kg f n p d H e i m r
 have x:∀v∈e,v.oneCell'=true:=λv hv=>A v (by rw[m,show(n-p-1)*2=n*2-(p*2+2) by omega,<-FX]at hv;exact FA hv)
 have t:∀(D:Addr),(D=(Ki g ((p+1)*2))\/e=[])->∀a v,e[a]?=some v->w.drew.cell? (D.add a)=some v:=λD k a v c=>by
  rcases k with rfl|a
  .rw[IA]
   refine ex (w:=w.drew) (cur:=f) l ?_;rw[m,FQ]at c
   split at c
   .rw[FE]at c
    rw[<-c];congr 1;omega
   cases c
  rw[a]at c;cases c
 have v:Hid (∀D c a,(D=(Ki g ((p+1)*2))\/e=[])->(Builtin.append_ #[40,40] a #[Y (Hw g 0) p b,Y (some D) (n-(p+1)) c]).run prog w.drew=.ok (Y (Hw g 0) (n-1) b) (w.drew.setRow g i.toArray)):=λD c a k=>by
  have:=I7 (P:=prog) w.drew 40 a 151 2 g p b D (n-(p+1)) c f.toArray 151 e underlying40 my l d (by rw[o];omega) (t D k) (by rw[o];simp;omega) x;rw[F]at this;rw[this,r]
 have C:Hid (∀c a,(Builtin.clear_ #[40] a #[Y (Hw g ((n-1)*2)) (n-(n-1)) c]).run prog (w.drew.setRow g i.toArray)=.ok (.tuple #[]) ((w.drew.setRow g i.toArray).setRow g (jf f n p).toArray)):=λc a=>by
  rw[show n-(n-1)=1 by omega];have:=Ir (P:=prog) (w.drew.setRow g i.toArray) 40 a 151 _ underlying40 C0 g ((n-1)*2) 1 c d i.toArray 151 [Ow empty,Ow empty] (IY w.drew g f.toArray i.toArray 151 (0,0) l) h q (bp _ _);rw[this,<-y];simp
 have c:b=p+1->e=[]:=λa=>AD (by rw[o];omega)
 have E:=LE c;have B:=LE l;clear c t m r o G y x A l;go_enter func344,ntmps344
 by_cases o:b=p+1
 focus
  have k:((Ki g 0):Addr)=(Ki g ((p+1)*2))\/e=[]:=.inr (E.j o)
 rotate_left
 rotate_left
 all_goals
  go_wp2_with fail;refine AN (S:=λs=>True) h (trivial) (λc=>?_);refine TY 0 (Y (Hw g 0) n b) z c (TY 1 (Z (p:Int)) z c (TY 2 (Y (Hw g 0) p b) z c (TY 3 (Y (Hw g 0) n b) z c (TY 4 (Z ((p:Int)+1)) z c ?_))));simp only[PS]
 focus
  refine TY 5 (Y (Hw g 0) (n-(p+1)) (b-(p+1))) z c ?_;simp only[PS];refine RD 6 z (λK a=>?_);refine uW z _ _ 40 40 z (Y (Hw g 0) p b) (Y (Hw g 0) (n-(p+1)) (b-(p+1))) (by simp[Act.eval,Act.put]) (by simp[Act.eval,Act.put]) (v.j _ _ _ k) ?_;refine a.j _ _ (trivial) (λm=>?_);clear a K
  try simp only[PS]
  refine EU (rs:=[7]) h j ?_
 rotate_left
 focus
  refine TY 5 (Y (Hw g ((p+1)*2)) (n-(p+1)) (b-(p+1))) z c ?_;simp only[PS];refine RD 6 z (λK a=>?_);refine uW z _ _ 40 40 z (Y (Hw g 0) p b) (Y (Hw g ((p+1)*2)) (n-(p+1)) (b-(p+1))) (by simp[Act.eval,Act.put]) (by simp[Act.eval,Act.put]) (v.j _ _ _ (.inl z)) ?_;refine a.j _ _ (trivial) (λm=>?_);clear a K
  try simp only[PS]
  refine EU (rs:=[7]) h j ?_
 rotate_left
 all_goals
  refine DA z (λK a=>?_) EQ;go_simp;refine a.j _ _ m (λ_=>?_);clear a K
  try simp only[PS]
  refine DN ?_;have a:=C.j;go_wp2_with fail;go_ret
  exact⟨by first|rfl|(rw[o];rfl),yS (XJ (sf w.drew g _)) (sf _ g _),IY _ g _ _ 151 (0,0) (IY w.drew g f.toArray i.toArray 151 (0,0) B.j)⟩
end
section
open Tryz
open Go.RowKit Go.Lib
def ig(a:List Ra)(n p:Nat)(b c:Q4):List Ra:=a.take (p*2)++[Ow b,Ow c]++(a.drop (p*2)).take ((n-p)*2)++a.drop (n*2+2)
theorem Hj(a:List Ra)(n p:Nat)(h i:Q4)(j:n*2+2<=a.length)(k:p<n)(b c:List Ra)(g:b=(a.drop (p*2)).take ((n-p)*2))(f:c=a.take ((p+1)*2)++b++a.drop ((p+1)*2+b.length)):b.length=(n-p)*2/\c.length=a.length/\c.take (p*2)++[Ow h,Ow i]++c.drop (p*2+2)=ig a n p h i:=by
 have e:b.length=(n-p)*2:=by rw[g,AZ,BS];omega
 have d:(a.take ((p+1)*2)).length=(p+1)*2:=by rw[AZ];omega
 refine⟨e,by rw[f,AK,AK,d,BS,e];omega,?_⟩;unfold ig;rw[<-g,f,BY (a.take ((p+1)*2)),JW (by rw[d];omega),IL,show min (p*2) ((p+1)*2)=p*2 by omega];rw[show p*2+2=(p+1)*2 by omega,KA d,e];rw[show(p+1)*2+(n-p)*2=n*2+2 by omega];simp
theorem Oa(g n a p c:Nat)(f i:Q4)(b:List Ra)(w:Q9)(o:w.heap[g]?=some (.cells b.toArray 151 (0,0)))(hv:w.heap[c]?=some (.cells #[Ow f,Ow i] 151 (0,0)))(B:c≠g)(L:b.length=a*2)(hn:n<a)(hc:n<=100000)(M:p<n)(D:∀v∈b.take (n*2),v.oneCell'=true):Calls prog 348 #[Y (Hw g 0) n a,Z (p:Int),Y (Hw c 0) 1 1] w λe x=>e=Q2 (Y (Hw g 0) (n+1) a)/\w.grownBy x (some g) /\
   x.heap[g]?=some (.cells (ig b n p f i).toArray 151 (0,0)):=by
 have bB:¬((p:Int)=(n:Int)):=d
 have O:(0:Int)<=(p:Int):=d
 have P:(p:Int)<=(n:Int):=d
 have Q:(p:Int)<=(n:Int)+1:=d
 have R:(p:Int)+1<=(n:Int)+1:=d
 have S:(0:Int)<=(p:Int)+1:=d
 have T:¬((a:Int)<(n:Int)+1):=d
 have U:(n:Int)+1<=(a:Int):=d
 have V:(0:Int)<=(n:Int)+1:=d
 have X:¬(a=p):=d
 have q:¬(a=p+1):=d
 have aY:((p:Int)+1).toNat=p+1:=d
 have aZ:IntKind.i64.wrap ((p:Int)+1)=(p:Int)+1:=by simp[IntKind.wrap,IntKind.bits,IntKind.signed];omega
 have N:((n:Int)+1).toNat=n+1:=d
 have G:∀j e,(callFunc 349 #[Y (Hw c 0) 1 1,Y (Hw g ((p+1)*2)) j e]).run prog w=.ok (.value (Q1 false)) w:=λj e=>by
  rw[EH func349 h h h (e:=Extern.SlicesOverlaps.overlaps #[40,40] #[4]) h,
   Lib.run_overlaps_apart w 40 4 151 underlying40 2 sizeOf151 (Ki c 0) (Ki g ((p+1)*2)) 1 1 j e B 151 151 2 (a*2) (by simp[World.shape?,hv]) (by simp[World.shape?,o,L]) d (by simp[World.frozen?,hv]) (by simp[World.frozen?,hv])]
  rfl
 obtain⟨m,r⟩:=u ((b.drop (p*2)).take ((n-p)*2));obtain⟨l,s⟩:=u (b.take ((p+1)*2)++m++b.drop ((p+1)*2+m.length));obtain⟨t,H,C⟩:=Hj b n p f i d M m l r s
 have A:∀v∈m,v.oneCell'=true:=λv hv=>D v (by rw[r,show(n-p)*2=n*2-p*2 by omega,<-FX]at hv;exact FA hv)
 have y:∀j v,m[j]?=some v->w.drew.cell? (((Ki g (p*2)):Addr).add j)=some v:=λj v e=>by
  rw[IA];refine ex (w:=w.drew) (cur:=b) o ?_;rw[r,FQ]at e
  split at e
  .rw[FE]at e;exact e
  cases e
 have E:Hid (∀k,(Builtin.copy_ #[40,40] k #[Y (Hw g ((p+1)*2)) (n+1-(p+1)) (a-(p+1)),Y (Hw g (p*2)) (n+1-p) (a-p)]).run prog w.drew=.ok (goInt ((n-p:Nat):Int)) (w.drew.setRow g l.toArray)):=λk=>by
  have:=qw (P:=prog) w.drew 40 40 k 151 2 g ((p+1)*2) (n+1-(p+1)) (a-(p+1)) (Ki g (p*2)) (n+1-p) (a-p) b.toArray 151 m (n-p) underlying40 my o (by simp only[KP];split<;>omega) t y (by rw[t];simp;omega) A;rw[this,s]
 have F:Hid (∀W:Q9,W.heap[g]?=some (.cells l.toArray 151 (0,0))->W.heap[c]?=some (.cells #[Ow f,Ow i] 151 (0,0))->∀k,(Builtin.copy_ #[40,40] k #[Y (Hw g (p*2)) (n+1-p) (a-p),Y (Hw c 0) 1 1]).run prog W=.ok (goInt 1) (W.setRow g (ig b n p f i).toArray)):=λW J I k=>by
  have:=qw (P:=prog) W 40 40 k 151 2 g (p*2) (n+1-p) (a-p) (Ki c 0) 1 1 l.toArray 151 [Ow f,Ow i] 1 underlying40 my J (by simp only[KP];split<;>omega) z (λj v e=>by rw[IA,BK];exact ex (cur:=[Ow f,Ow i]) I e) τ (bp _ _);rw[this,<-C];simp
 have k:=LE o;have v:=LE hv;clear y r s t H C A D o hv;go_enter func348,ntmps348;go_wp2_with (simp only[G]);refine AN (S:=λx=>True) h (trivial) (λe=>?_);refine TY 0 (Y (Hw g 0) (n+1) a) z e (TY 1 (Z (p:Int)) z e (TY 2 (Z 1) z e (TY 3 (Z ((p:Int)+1)) z e (TY 4 (Y (Hw g ((p+1)*2)) (n+1-(p+1)) (a-(p+1))) z e (TY 5 (Y (Hw g 0) (n+1) a) z e (TY 6 (Z (p:Int)) z e (TY 7 (Y (Hw g (p*2)) (n+1-p) (a-p)) z e ?_)))))));simp only[PS];refine RD 8 z (λK j=>?_);refine step_copy_runI z _ _ 40 40 z (Y (Hw g ((p+1)*2)) (n+1-(p+1)) (a-(p+1))) (Y (Hw g (p*2)) (n+1-p) (a-p)) (by simp[Act.eval,Act.put]) (by simp[Act.eval,Act.put]) (E.j _) ?_;refine j.j _ _ (trivial) (λr=>?_);clear j K
 try simp only[PS]
 refine DN ?_;have j:=IY w.drew g b.toArray l.toArray 151 (0,0) k.j;have s:(w.drew.setRow g l.toArray).heap[c]?=some (.cells #[Ow f,Ow i] 151 (0,0)):=(LD w.drew g c _ B).E v.j;have t:=F.j _ j s;clear e r;go_wp2_with fail;go_ret;exact⟨z,yS (XJ (sf w.drew g _)) (sf _ g _),IY _ g _ _ 151 (0,0) j⟩
theorem Qe(n:Nat):(Builtin.zeroCells (Value.agg #[Ow empty,Ow empty]).cells n).size=n*2:=by simp[Builtin.zeroCells,Value.cells]
theorem Md(g n p o:Nat)(l m:Q4)(b:List Ra)(w:Q9)(B:w.heap[g]?=some (.cells b.toArray 151 (0,0)))(hv:w.heap[o]?=some (.cells #[Ow l,Ow m] 151 (0,0)))(hl:b.length=n*2)(hc:n<=100000)(hp:p<n)(W:∀v∈b.take (n*2),v.oneCell'=true):Calls prog 348 #[Y (Hw g 0) n n,Z (p:Int),Y (Hw o 0) 1 1] w λe E=>∃(G:Nat) (r:List Ra),e=Q2 (Y (Hw w.heap.size 0) (n+1) G)/\n+1<=G/\G<=maxLen/\r.length=G*2/\r.take ((n+1)*2)=b.take (p*2)++[Ow l,Ow m]++b.drop (p*2)/\Q3 w E/\w.heap.size<E.heap.size /\
   E.heap[w.heap.size]?=some (.cells r.toArray 151 (0,0)):=by
 obtain⟨X,R,U,V,J⟩:=ZR kt;have bU:g<w.heap.size:=(AR.1 B).1;have bV:o<w.heap.size:=(AR.1 hv).1;have cM:¬((p:Int)=(n:Int)):=d
 have bY:(0:Int)<=(p:Int):=d
 have bZ:(p:Int)<=(n:Int):=d
 have cA:(p:Int)<=(n:Int)+1:=d
 have cC:(p:Int)+1<=(n:Int)+1:=d
 have cE:(0:Int)<=(p:Int)+1:=d
 have cF:(n:Int)<(n:Int)+1:=d
 have cH:¬(n=p):=d
 have cJ:((p:Int)+1).toNat=p+1:=d
 have cL:IntKind.i64.wrap ((p:Int)+1)=(p:Int)+1:=by simp[IntKind.wrap,IntKind.bits,IntKind.signed];omega
 have y:(n:Int)+1-(p:Int)=((n+1-p:Nat):Int):=d
 have s:p+(n+1-p)=n+1:=d
 have x:(Builtin.firstCells X.size p (Y (Hw g 0) p n)).run prog w.drew=.ok (b.take (p*2)).toArray w.drew:=by
  rw[V]
  exact GI w.drew 2 p (Ki g 0) p n (b.take (p*2)) (by rw[AZ];omega) (λj v k=>by
   rw[IA,BK];rw[FQ]at k
   split at k
   .exact ex (w:=w.drew) (cur:=b) B k
   .cases k)
 obtain⟨G,i⟩:=u (grownCap w (n+1) n 151);have q:n+1<=G:=by rw[i];exact JL w _ _ _
 have O:G<=maxLen:=by rw[i];exact IR w (n+1) n _ (by unfold maxLen;omega)
 obtain⟨c,f⟩:∃c:List Ra,c=b.take (p*2)++(Builtin.zeroCells (Value.agg #[Ow empty,Ow empty]).cells (n+1-p)).toList++(Builtin.zeroCells (Value.agg #[Ow empty,Ow empty]).cells (G-(n+1))).toList:=⟨_,z⟩;have t:c.toArray=(b.take (p*2)).toArray++Builtin.zeroCells (Value.agg #[Ow empty,Ow empty]).cells (n+1-p)++Builtin.zeroCells (Value.agg #[Ow empty,Ow empty]).cells (G-(n+1)):=by rw[f];apply IH;simp
 have bT:c.length=G*2:=by rw[f];simp only[AK,AZ,Array.length_toList,Qe];omega
 have P:c.take (p*2)=b.take (p*2):=by rw[f,BY];exact GZ (by rw[AZ];omega)
 have S:∀e,(Builtin.append_ #[40,3] e #[Y (Hw g 0) p n,Z ((n:Int)+1-(p:Int))]).run prog w=.ok (Y (Hw w.heap.size 0) (n+1) G) (w.drew.alloc (.cells c.toArray 151)):=λe=>by
  have a:=Lib.run_append_grow_zeros (P:=prog) w 40 3 e 151 X _ .i64 .i64 underlying40 underlying3 R U (Hw g 0) p n (b.take (p*2)) x (n+1-p) d d d d (by rw[J];omega) (by rw[J,s];exact growslice_fits d d);rw[s,<-i]at a;rw[y,a,t]
 have bJ:G<=9223372036854775807:=O;have bW:¬(G=p):=d
 have bP:¬(G=p+1):=d
 clear y s x f t i;obtain⟨a,f⟩:=u (w.drew.alloc (.cells c.toArray 151));rw[<-f]at S;have x:Q3 w a:=by rw[f];exact(AB).drew.alloc C _
 have T:a.heap.size=w.heap.size+1:=by rw[f];rw[BG];rfl
 have H:a.heap[w.heap.size]?=some (.cells c.toArray 151 (0,0)):=by rw[f];exact AV w.drew _
 have Q:a.heap[o]?=some (.cells #[Ow l,Ow m] 151 (0,0)):=(x.block o bV).E hv;have M:a.heap[g]?=some (.cells b.toArray 151 (0,0)):=(x.block g bU).E B;clear f;obtain⟨i,y⟩:=u (c.take (p*2)++[Ow l,Ow m]++c.drop (p*2+2));have F:i.length=G*2:=by rw[y];simp only[AK,AZ,BS,BN,AU];omega
 have L:∀e,(Builtin.copy_ #[40,40] e #[Y (Hw w.heap.size (p*2)) (n+1-p) (G-p),Y (Hw o 0) 1 1]).run prog a=.ok (goInt 1) (a.setRow w.heap.size i.toArray):=λe=>by
  have:=qw (P:=prog) a 40 40 e 151 2 w.heap.size (p*2) (n+1-p) (G-p) (Ki o 0) 1 1 c.toArray 151 [Ow l,Ow m] 1 underlying40 my H (by simp only[KP];split<;>omega) z (λj v k=>by rw[IA,BK];exact ex (cur:=[Ow l,Ow m]) Q k) τ (bp _ _);rw[this,y];simp
 obtain⟨f,s⟩:=u (a.setRow w.heap.size i.toArray);rw[<-s]at L;have I:f.heap[w.heap.size]?=some (.cells i.toArray 151 (0,0)):=by rw[s];exact IY a w.heap.size _ _ 151 (0,0) H
 have N:f.heap[g]?=some (.cells b.toArray 151 (0,0)):=by rw[s];exact(LD a w.heap.size g _ d).E M
 have K:Q3 w f:=by rw[s];exact below_setRow x C _
 have cI:f.heap.size=w.heap.size+1:=by rw[s];simpa[World.setRow] using T
 clear s;have s:(b.drop (p*2)).length=(n-p)*2:=by rw[BS];omega
 obtain⟨t,A⟩:=u (i.take ((p+1)*2)++b.drop (p*2)++i.drop ((p+1)*2+(n-p)*2))
 have h:Hid (∀e,(Builtin.copy_ #[40,40] e #[Y (Hw w.heap.size ((p+1)*2)) (n+1-(p+1)) (G-(p+1)),Y (Hw g (p*2)) (n-p) (n-p)]).run prog f.drew=.ok (goInt ((n-p:Nat):Int)) (f.drew.setRow w.heap.size t.toArray)):=λe=>by
  have:=qw (P:=prog) f.drew 40 40 e 151 2 w.heap.size ((p+1)*2) (n+1-(p+1)) (G-(p+1)) (Ki g (p*2)) (n-p) (n-p) i.toArray 151 (b.drop (p*2)) (n-p) underlying40 my I (by simp only[KP];split<;>omega) s (λj v k=>by rw[IA];rw[FE]at k;exact ex (w:=f.drew) (cur:=b) N k) (by rw[s];simp;omega) (λv hv=>W v (by rw[AS d];exact FA hv));rw[this,A,s]
 have e:t.length=G*2/\t.take ((n+1)*2)=b.take (p*2)++[Ow l,Ow m]++b.drop (p*2):=by
  have k:i.take ((p+1)*2)=b.take (p*2)++[Ow l,Ow m]:=by
   rw[y,P];exact GZ τ
  have j:(i.take ((p+1)*2)++b.drop (p*2)).length=(n+1)*2:=by rw[AK,s,AZ,F];omega
  refine⟨by rw[A,AK,j,BS,F];omega,?_⟩;rw[A,GZ j,k]
 have j:=LE e;have D:=LE I;have v:=LE K;clear R U V J bT P y F H Q M I N x K T s A e B hv W;go_enter func348,ntmps348
 go_wp2_with (first
  | (at_builtin;refine Lib.wpList_append_run _ rfl _ _ _ _ rfl _ _ rfl rfl _ _ (S _) ?_)
  | (at_builtin;refine wpList_copy_runI _ rfl _ _ 40 40 rfl _ _ rfl rfl (L _) ?_))
 refine AN (S:=λE=>True) κ (trivial) (λe=>?_);refine TY 0 (Y (Hw w.heap.size 0) (n+1) G) z e (TY 1 (Z (p:Int)) z e (TY 2 (Z 1) z e (TY 3 (Z ((p:Int)+1)) z e (TY 4 (Y (Hw w.heap.size ((p+1)*2)) (n+1-(p+1)) (G-(p+1))) z e (TY 5 (Y (Hw g 0) n n) z e (TY 6 (Z (p:Int)) z e (TY 7 (Y (Hw g (p*2)) (n-p) (n-p)) z e ?_)))))));simp only[PS];refine RD 8 z (λK k=>?_);refine step_copy_runI z _ _ 40 40 z (Y (Hw w.heap.size ((p+1)*2)) (n+1-(p+1)) (G-(p+1))) (Y (Hw g (p*2)) (n-p) (n-p)) (by simp[Act.eval,Act.put]) (by simp[Act.eval,Act.put]) (h.j _) ?_;refine k.j _ _ (trivial) (λs=>?_);clear k K
 try simp only[PS]
 refine DN ?_;go_wp2_with fail;go_ret;exact⟨G,t,z,q,O,j.j.1,j.j.2,(below_setRow (v.j.drew) C _),by have:(f.drew.setRow w.heap.size t.toArray).heap.size=f.heap.size:=(by simp[World.setRow]);omega,IY f.drew _ _ _ 151 (0,0) D.j⟩
