import Derived.Test.YtjdmogljfdffeaaGreatDoorPrG31
import Derived.Test.YtjdmogljfdffeaaGreatDoorPrG30
set_option maxHeartbeats 16000000
set_option maxRecDepth 8000
set_option linter.all false
namespace Go.Proofs.YtjdmogljfdffeaaGreatDoor
open _root_.ByteArray(empty)
open Tryz
open Go.RowKit
variable {lf nm wd:Int}{base g:Nat}{v:Value}{w w':World}
theorem je{W d:World}{c f:Nat}{i:Option Addr}{j:Nat}{a:List OpT}{x:OpT}{l:Int}{o:Obj}(h:Wrt w base g (.slice i a.length j) a l nm lf wd)(B:base<=w.heap.size)(A:Below base W w)
  (t:d.ownsRow base 78 3 (.slice (some ⟨c,0,none⟩) (a.length+1) f) (a.length+1) (NJ a++[.bool x.1,.int .i64 x.2.1,.string x.2.2]))(q:(w.alloc o).grownBy d (Value.slice i a.length j).ownBlock)
  (y:(Value.slice i a.length j).ownBlock=some c\/c=w.heap.size+1):Row d g [.slice i a.length j,.int .i64 l,.int .i64 nm,.int .i64 lf,.int .i64 wd]/\Wrt (d.setCell ⟨g,0,none⟩ (.slice (some ⟨c,0,none⟩) (a.length+1) f)) base g (.slice (some ⟨c,0,none⟩) (a.length+1) f) (a++[x]) l nm lf wd/\Below base W d/\Below base W (d.setCell ⟨g,0,none⟩ (.slice (some ⟨c,0,none⟩) (a.length+1) f)):=by
 have r:=(h.row.alloc o).I q (λe=>h.ne e.symm);have C:=h.row.lt
 have m:c≠g:=by
  rcases y with e|e
  ·exactλb=>h.ne (by rw[<-b];exact e)
  omega
 have p:=TL (A.alloc B _) (h.own.alloc o) q τ;have u:=r.set 0 σ (.slice (some ⟨c,0,none⟩) (a.length+1) f);refine⟨r,⟨u,?_,h.ge,by simp[Value.ownBlock];exact m⟩,p,p.setCell (p:=⟨g,0,none⟩) h.ge _⟩;have z:d.grownBy (d.setCell ⟨g,0,none⟩ (.slice (some ⟨c,0,none⟩) (a.length+1) f)) (some g):=⟨rfl,rfl,rfl,by simp[World.setCell],λk _ b=>BD _ _ _ k (λe=>b (by rw[e]))⟩;have:=t.kept z (.inr (by simp[Value.ownBlock];exact m));obtain⟨b,n,s⟩:=x;rw[AE,iz];exact this
theorem Wrt.sl{c:List OpT}{d:Int}(h:Wrt w base g v c d nm lf wd):∃a b,v=Value.slice a c.length b:=by
 rcases MO h.own with ⟨b,e⟩|⟨g,a,b,_⟩
 ·exact⟨none,0,by rw[b,e]⟩
 exact⟨_,a,b⟩
theorem Wrt.count{b:List OpT}{c:Int}{x y:Int}(h:Wrt w base g v b c nm lf wd):Wrt ((w.setCell ⟨g,1,none⟩ (.int .i64 x)).setCell ⟨g,2,none⟩ (.int .i64 y)) base g v b x y lf wd:=by
 refine⟨(h.row.set 1 σ (.int .i64 x)).set 2 σ (.int .i64 y),?_,h.ge,h.ne⟩;have d:w.grownBy ((w.setCell ⟨g,1,none⟩ (.int .i64 x)).setCell ⟨g,2,none⟩ (.int .i64 y)) (some g):=⟨rfl,rfl,rfl,by simp[World.setCell],λk _ a=>(BD _ _ _ k (λe=>a (by rw[e]))).j (BD _ _ _ k (λe=>a (by rw[e])))⟩;exact h.own.kept d (.inr h.ne)
structure WK(g:Nat)(w:World)(v:Value)(w':World)(v':Value):Prop where
 size:w.heap.size<=w'.heap.size
 own:∀k,v'.ownBlock=some k->v.ownBlock=some k\/w.heap.size<=k
 blk:∀b,b<w.heap.size->b≠g->some b≠v.ownBlock->w'.heap[b]?=w.heap[b]?
theorem WK.start(g:Nat)(w:World)(v:Value):WK g w v w v:=⟨Y _,λ_ h=>.inl h,λ_ _ _ _=>rfl⟩
theorem WK.j{l m:World}{f i:Value}(h:WK g w v l f)(k:WK g l f m i):WK g w v m i :=⟨AL h.size k.size,λj n=>(k.own j n).elim (h.own j) (λe=>.inr (AL h.size e)),λb d a c=>(k.blk b (AD d h.size) a (λe=>(h.own b e.symm).elim (λe=>c e.symm) (λe=>ω))).j (h.blk b d a c)⟩
theorem WK.z{a d:World}{c:Value}(h:WK g w v a c)(k:Below a.heap.size a d):WK g w v d c:=h.j ⟨k.size,λ_ h=>.inl h,λb e _ _=>k.block b e⟩
theorem Row.wk{k:Nat}{j:Value}{a:List Value}(h:Row w k a)(b:WK g w v w' j)(c:k≠g)(d:some k≠v.ownBlock):Row w' k a:=by
 have e:=b.blk k h.lt c d;refine⟨AD h.lt b.size,λi v hv=>(?_:w'.cell? ⟨k,i,none⟩=some v),λi f=>?_⟩
 ·rw[<-h.cell i v hv];simp[World.cell?,e]
 rw[<-h.froz i f];simp[World.frozen?,e]
theorem uF{c:World}{r:Option Nat}{o:Obj}{u x y:Value}(h:(w.alloc o).grownBy c r):∀b,b<w.heap.size->b≠g->some b≠r->(((c.setCell ⟨g,0,none⟩ u).setCell ⟨g,1,none⟩ x).setCell ⟨g,2,none⟩ y).heap[b]?=w.heap[b]?:=λb f a d=>by
 rw[BD _ _ _ b (λe=>a (by rw[e])),BD _ _ _ b (λe=>a (by rw[e])),BD _ _ _ b (λe=>a (by rw[e])),h.block b τ d];exact((AC w.heap.size w).alloc (Y _) o).block b f
theorem m9(base g:Nat)(v:Value)(d:List OpT)(c nm lf wd:Int)(f:ByteArray)(w:World)(h:Wrt w base g v d c nm lf wd)(S:base<=w.heap.size)(hl:d.length<=1000)(X:0<=c)(bJ:c<=100000)(bQ:0<=nm)(bT:nm<=2000000000):Calls prog 82 #[.pointer (some ⟨g,0,none⟩),.string f] w λe w'=>(∃x,e=.returned x)/\∃a,Wrt w' base g a (d++[(false,c,f)]) (c+1) (nm+1) lf wd/\Below base w w'/\WK g w v w' a:=by
 obtain⟨i0,a,b,e,i⟩:=WP vy;have O:=Z (AH a (AH b (AH e i)));clear a b e i;obtain⟨u,z,rfl⟩:=h.sl;have q0:w.drew.cell? ⟨g,0,none⟩=some (.slice u d.length z):=h.row.drew.y 0;have qa:(w.drew.alloc (.cells #[.bool false,.int .i64 c,.string f] 78)).cell? ⟨g,0,none⟩=some (.slice u d.length z):=(h.row.drew.alloc _).y 0;have bU:w.cell? ⟨g,0,none⟩=some (.slice u d.length z):=h.row.y 0;have lg:=h.row.lt;have P:=Z h;have R:=Z (LR h.own ((AC _ _).drew.alloc (Y _) (.cells #[.bool false,.int .i64 c,.string f] 78)));have I:Hid ((w.drew.alloc (.cells #[.bool false,.int .i64 c,.string f] 78)).cell? ⟨g,1,none⟩=some (.int .i64 c)/\g<(w.drew.alloc (.cells #[.bool false,.int .i64 c,.string f] 78)).heap.size):=⟨(h.row.drew.alloc _).y 1,(h.row.drew.alloc _).lt⟩;go_enter func82,ntmps82;go_wp2_with fail
 refine AN (S:=λw'=>w'.cell? ⟨g,1,none⟩=some (.int .i64 c)/\g<w'.heap.size) κ (⟨h.row.drew.y 1,h.row.drew.lt⟩) (λe=>?_);refine V 0 (.pointer (some ⟨g,0,none⟩)) rfl e (V 1 (.pointer (some ⟨g,0,none⟩)) rfl e (V 2 (.pointer (some ⟨g,0,none⟩)) rfl e (V 3 (.pointer (some ⟨g,0,none⟩)) rfl e (V 5 (.pointer (some ⟨g,0,none⟩)) rfl e (V 6 (.pointer (some ⟨g,0,none⟩)) rfl e (V 7 (.pointer (some ⟨g,1,none⟩)) rfl e (V 8 (.int .i64 c) rfl e (V 9 (.string f) rfl e (V 10 (.agg #[.bool false,.int .i64 c,.string f]) rfl e ?_)))))))));simp only[J];refine DH (rs:=[4,11]) κ σ ?_;refine AY rfl (λK a=>?_) (AY rfl (λK a=>?_) DE)
 focus
  go_simp;refine a.l _ _ e (λ_=>?_);clear a K
  try simp only[J]
  refine RD 11 rfl (λK a=>?_);go_simp;refine a.l _ _ (I.l) (λT=>?_)
 rotate_left
 focus
  go_simp;refine a.l _ _ (I.l) (λQ=>?_);clear a K
  try simp only[J]
  refine RD 4 rfl (λK a=>?_);go_simp;refine a.l _ _ Q (λ_=>?_)
 rotate_left
 all_goals
  clear a K
  try simp only[J]
  refine RD 12 rfl (λK a=>?_);refine QM _ ρ _ _ _ ρ base underlying46 O.l rfl ω (.slice u d.length z) d.length _ ρ R.l ⟨w.heap.size,0,none⟩ 1 1 [.bool false,.int .i64 c,.string f] ρ rfl (World.news_of_block (AW w.drew _)) (YO _ _ _) ξ (w.heap.size+1) σ ?_;intro j m N A r s W;have l:=je (x:=(false,c,f)) P.l S (AC _ _) A (da r) s;have b:=Z l;have L:=l.1.y 0;have t:=l.1.y 1;have M:=l.1.E 0;have n:=l.1.lt;have H:=Z (da r);have G:=Z s
 ·clear A r s l
  refine a.l _ _ (⟨t,n⟩) (λl=>?_);clear a K
  try simp only[J]
  refine V 13 (.pointer (some ⟨g,0,none⟩)) rfl l (V 14 (.pointer (some ⟨g,0,none⟩)) rfl l ?_);simp only[J];refine RD 15 rfl (λK a=>?_);go_simp;refine a.l _ _ (⟨γ,by simpa[World.setCell] using n⟩) (λr=>?_);clear a K
  try simp only[J]
  refine DN ?_;have i:=b.l.2.1.row.y 1;have E:=b.l.2.1.row.y 2;have C:=b.l.2.1.row.E 1;have D:=b.l.2.1.row.E 2;have B:=b.l.2.1.row.lt;clear L t M n;have o:=Z (λx y=>uF (g:=g) (u:=.slice (some ⟨j,0,none⟩) (d.length+1) m) (x:=x) (y:=y) H.l);obtain⟨q,k⟩:∃q,q=N.setCell ⟨g,0,none⟩ (.slice (some ⟨j,0,none⟩) (d.length+1) m):=⟨_,rfl⟩;rw[<-k]at i E C D b o B⊢;clear k;go_wp2;go_end0;refine⟨⟨_,rfl⟩,.slice (some ⟨j,0,none⟩) (d.length+1) m,b.l.2.1.count,(b.l.2.2.2.setCell (p:=⟨g,1,none⟩) h.ge _).setCell (p:=⟨g,2,none⟩) h.ge _,((b.l.2.2.2.setCell (p:=⟨g,1,none⟩) h.ge _).setCell (p:=⟨g,2,none⟩) h.ge _).size,λk p=>?_,o.l _ _⟩;have:k=j:=by simp[Value.ownBlock]at p;exact p.symm
  subst this;rcases G.l with i|i
  ·exact .inl i
  right;omega
 clear A r s l
 refine a.l _ _ (⟨t,n⟩) (λF=>?_);clear a K
 try simp only[J]
 refine V 13 (.pointer (some ⟨g,0,none⟩)) rfl F (V 14 (.pointer (some ⟨g,0,none⟩)) rfl F ?_);simp only[J];refine RD 15 rfl (λK a=>?_);go_simp;refine a.l _ _ (⟨γ,by simpa[World.setCell] using n⟩) (λU=>?_);clear a K
 try simp only[J]
 refine DN ?_;have i:=b.l.2.1.row.y 1;have E:=b.l.2.1.row.y 2;have C:=b.l.2.1.row.E 1;have D:=b.l.2.1.row.E 2;have B:=b.l.2.1.row.lt;clear L t M n;have o:=Z (λx y=>uF (g:=g) (u:=.slice (some ⟨j,0,none⟩) (d.length+1) m) (x:=x) (y:=y) H.l);obtain⟨q,k⟩:∃q,q=N.setCell ⟨g,0,none⟩ (.slice (some ⟨j,0,none⟩) (d.length+1) m):=⟨_,rfl⟩;rw[<-k]at i E C D b o B⊢;clear k;go_wp2;go_end0;refine⟨⟨_,rfl⟩,.slice (some ⟨j,0,none⟩) (d.length+1) m,b.l.2.1.count,(b.l.2.2.2.setCell (p:=⟨g,1,none⟩) h.ge _).setCell (p:=⟨g,2,none⟩) h.ge _,((b.l.2.2.2.setCell (p:=⟨g,1,none⟩) h.ge _).setCell (p:=⟨g,2,none⟩) h.ge _).size,λk p=>?_,o.l _ _⟩;have:k=j:=by simp[Value.ownBlock]at p;exact p.symm
 subst this;rcases G.l with i|i
 ·exact .inl i
 right;omega
theorem nO(base g:Nat)(v:Value)(i:List OpT)(c nm lf wd:Int)(w:World)(h:Wrt w base g v i c nm lf wd)(f:base<=w.heap.size)(u:i.length<=1000)(o:0<=c)(p:c<=100000)(s:0<=nm)(t:nm<=2000000000):Calls prog 137 #[.pointer (some ⟨g,0,none⟩)] w λe w'=>(∃x,e=.returned x)/\∃j,Wrt w' base g j (i++[(false,c,LS 3 lf nm empty wd)]) (c+1) (nm+1) lf wd/\Below base w w'/\WK g w v w' j:=by
 have B:=h.row.y 2;have A:=h.row.lt;go_enter func137,ntmps137;go_wp2_with fail;refine AN (S:=λw'=>w'.cell? ⟨g,3,none⟩=some (.int .i64 lf)/\w'.cell? ⟨g,4,none⟩=some (.int .i64 wd)) κ (⟨h.row.drew.y 3,h.row.drew.y 4⟩) (λa=>?_);refine V 0 (.pointer (some ⟨g,0,none⟩)) rfl a (V 1 (.pointer (some ⟨g,0,none⟩)) rfl a (V 2 (.pointer (some ⟨g,0,none⟩)) rfl a (V 3 (.pointer (some ⟨g,3,none⟩)) rfl a (V 4 (.int .i64 lf) rfl a (V 5 (.pointer (some ⟨g,0,none⟩)) rfl a (V 6 (.pointer (some ⟨g,0,none⟩)) rfl a (V 7 (.pointer (some ⟨g,2,none⟩)) rfl a (V 10 (.pointer (some ⟨g,0,none⟩)) rfl a (V 11 (.pointer (some ⟨g,0,none⟩)) rfl a (V 12 (.pointer (some ⟨g,4,none⟩)) rfl a (V 13 (.int .i64 wd) rfl a ?_)))))))))));simp only[J];refine RD 8 rfl (λK b=>?_);go_simp;refine b.l _ _ a (λ_=>?_);clear b K
 try simp only[J]
 refine V 9 (.agg #[.int .i64 3,.int .i64 lf,.int .i64 nm,.string ⟨#[]⟩]) rfl a ?_;simp only[J];refine RD 14 rfl (λK b=>?_);refine LC ρ 116 #[NK 3 lf nm ⟨#[]⟩,.int .i64 wd] γ (fk 3 lf nm empty wd _ σ) ?_;rintro e m ⟨rfl,q⟩;refine⟨_,rfl,?_⟩;have d:Below w.heap.size w m:=(AC _ _).drew.j q;have k:=h.z d;refine b.l _ _ (⟨k.row.y 3,k.row.y 4⟩) (λy=>?_);clear b K
 try simp only[J]
 refine RD 15 rfl (λK b=>?_);refine LC ρ 82 #[.pointer (some ⟨g,0,none⟩),.string (LS 3 lf nm empty wd)] γ (m9 base g v i c nm lf wd _ _ k (AL f d.size) u o p s t) ?_;rintro e C ⟨⟨x,rfl⟩,j,l,r,n⟩;refine⟨_,rfl,?_⟩;refine b.l _ _ (⟨l.row.y 3,l.row.y 4⟩) (λz=>?_);clear b K
 try simp only[J]
 refine DN ?_;go_end0;exact⟨⟨_,rfl⟩,j,l,(d.A f).j r,(⟨d.size,λ_ h=>.inl h,λb f _ _=>d.block b f⟩:WK g w v m v).j n⟩
theorem qE(T H F R S L:Int)(w:World)(x:0<=T)(p:T<=1000000000)(u:0<=H)(o:H<=1)(hF:0<=F)(n:F<=999999000):Calls prog 134 #[NI T H F R,.int .i64 S,.int .i64 L] w λe w'=>e=.returned (NI (T+1) (1-H) (F+hv S) L)/\Below w.heap.size w w':=by
 have k:0<=hv S/\hv S<=99:=by by_cases h:8<=S/\S<=200;have:=PJ h;omega;rw[YQ h];omega
 have d:=Z (λw'=>ek S w');obtain⟨Q,f⟩:∃Q,Hid (Q=hv S):=⟨_,Z rfl⟩;rw[<-f.l]at k d⊢;have q:IntKind.i64.wrap (T+1)=T+1:=by simp[IntKind.wrap,IntKind.bits,IntKind.signed];omega
 have r:IntKind.i64.wrap (1-H)=1-H:=by simp[IntKind.wrap,IntKind.bits,IntKind.signed];omega
 have s:IntKind.i64.wrap (F+Q)=F+Q:=by simp[IntKind.wrap,IntKind.bits,IntKind.signed];omega
 have i:∀ {j:Array Value} {c:Array Value} {t l:TypeId},Below w.heap.size w ((w.alloc (.cells j t)).alloc (.cells c l)):=(KW _ _).alloc σ _;go_enter func134,ntmps134;go_wp2_with fail;refine AN (S:=λw'=>w'.cell? ⟨w.heap.size,0,none⟩=some (.int .i64 T)/\w'.cell? ⟨w.heap.size,1,none⟩=some (.int .i64 H)/\w'.cell? ⟨w.heap.size,2,none⟩=some (.int .i64 F)) κ (⟨γ,γ,γ⟩) (λa=>?_);refine V 0 (.pointer (some ⟨w.heap.size,0,none⟩)) rfl a (V 1 (.int .i64 T) rfl a (V 2 (.int .i64 (T+1)) rfl a (V 3 (.pointer (some ⟨w.heap.size,1,none⟩)) rfl a (V 4 (.int .i64 H) rfl a (V 5 (.int .i64 (1-H)) rfl a (V 6 (.pointer (some ⟨w.heap.size,2,none⟩)) rfl a (V 7 (.int .i64 F) rfl a (V 8 (.int .i64 S) rfl a (V 11 (.int .i64 L) rfl a ?_)))))))));simp only[J];refine RD 9 rfl (λK b=>?_);refine LC ρ 70 #[.int .i64 S] γ (d.l _) ?_
 rintro e y ⟨rfl,rfl⟩;refine⟨_,rfl,?_⟩;refine b.l _ _ a (λ_=>?_);clear b K
 try simp only[J]
 refine V 10 (.int .i64 (F+Q)) rfl a (V 12 (.agg #[.int .i64 (T+1),.int .i64 (1-H),.int .i64 (F+Q),.int .i64 L]) rfl a ?_);simp only[J];refine RD 13 rfl (λK b=>?_);go_simp;refine b.l _ _ (⟨γ,γ,γ⟩) (λm=>?_);clear b K
 try simp only[J]
 refine DN ?_;go_wp2;refine AI (v:=NI (T+1) (1-H) (F+Q) L) (by simp[results,results134,go_sem]) rfl ⟨rfl,?_⟩;exact i.drew
theorem tP(base g:Nat)(v:Value)(k:List OpT)(c nm lf:Int)(n m:Nat)(d:ByteArray)(w:World)(h:Wrt w base g v k c nm lf (n:Int))(t:base<=w.heap.size)(ht:d.size<=100000)(S:k.length+(NV d lf nm n m).length<=1000)(T:n+m=56)(L:1<=n)(M:n<=8)(bW:0<=c)(bY:c<=10000)(cF:0<=nm)(cH:nm<=1900000000):Calls prog 36 #[.pointer (some ⟨g,0,none⟩),.string d] w λe w'=>(∃x,e=.returned x)/\∃f,Wrt w' base g f (k++MA c (NV d lf nm n m)) (c+((NV d lf nm n m).length:Int)) (nm+((NV d lf nm n m).length:Int)) lf (n:Int)/\Below base w w'/\WK g w v w' f:=by
 have y:=Z (λW=>I6 d lf nm n m W ω T L M ω ω);obtain⟨a,hcut⟩:∃a,a=NV d lf nm n m:=⟨_,rfl⟩;rw[<-hcut]at y S⊢;clear hcut;go_enter func36,ntmps36;go_wp2_with fail;refine AN (S:=λw'=>w'.cell? ⟨g,2,none⟩=some (.int .i64 nm)/\w'.cell? ⟨g,3,none⟩=some (.int .i64 lf)/\w'.cell? ⟨g,4,none⟩=some (.int .i64 (n:Int))) κ (⟨h.row.drew.y 2,h.row.drew.y 3,h.row.drew.y 4⟩) (λb=>?_);refine V 0 (.string d) rfl b (V 1 (.pointer (some ⟨g,0,none⟩)) rfl b (V 2 (.pointer (some ⟨g,0,none⟩)) rfl b (V 3 (.pointer (some ⟨g,3,none⟩)) rfl b (V 4 (.int .i64 lf) rfl b (V 5 (.pointer (some ⟨g,0,none⟩)) rfl b (V 6 (.pointer (some ⟨g,0,none⟩)) rfl b (V 7 (.pointer (some ⟨g,2,none⟩)) rfl b (V 8 (.int .i64 nm) rfl b (V 9 (.pointer (some ⟨g,0,none⟩)) rfl b (V 10 (.pointer (some ⟨g,0,none⟩)) rfl b (V 11 (.pointer (some ⟨g,4,none⟩)) rfl b ?_)))))))))))
 simp only[J];refine V 12 (.int .i64 (n:Int)) rfl b (V 15 (.int .i64 0) rfl b ?_);simp only[J];refine RD 13 rfl (λK r=>?_);refine LC ρ 81 #[.string d,.int .i64 lf,.int .i64 nm,.int .i64 (n:Int)] γ (y.l _) ?_;rintro e u ⟨W,c4,rfl,q,p,o⟩;refine⟨_,rfl,?_⟩;have j:Below w.heap.size w u:=(AC _ _).drew.j o;have i:=h.z j;refine r.l _ _ (⟨i.row.y 2,i.row.y 3,i.row.y 4⟩) (λl=>?_);clear r K
 try simp only[J]
 refine V 14 (.int .i64 (a.length:Int)) rfl l ?_;simp only[J];refine DN ?_;have D:=Z q;have C:=Z p;have F:=Z i;have z:=Z j;have N:=j.size;clear q p i j o b l;go_wp2_with fail;go_loopw [21] (λi wr=>∃j:Nat,j<=a.length/\i=.int .i64 (j:Int)/\∃f,Wrt wr base g f (k++MA c (a.take j)) (c+(j:Int)) (nm+(j:Int)) lf (n:Int)/\Below base w wr/\WK g u v wr f) (λi _=>a.length-(intOf i).toNat)
 case atStart =>
  refine⟨0,AO _,rfl,v,?_,z.l.A t,WK.start _ _ _⟩;rw[FQ,Iu,EA];simpa using F.l
 case round =>
  obtain⟨j,hj,rfl,f,l,q,i⟩:=hrel
  by_cases o:j<a.length
  ·have cJ:=i.size
   obtain⟨s,rfl,K⟩:=D.l.resolve_left (by intro e;have:=BY List.length e;simp at this;rw[this]at o;simp at o);have bZ:w.heap.size<=s:=C.l s (MS _ _ _ ω);have cA:=h.row.lt;have p:=K.wk i ω (λe=>by have:=(h.own.lt s e.symm).2;omega);have I:=p.cell j (.string (a.getD j empty)) (by simp[o,List.getD]);obtain⟨b,r⟩:∃b,b=a.getD j empty:=⟨_,rfl⟩;rw[<-r]at I;have X:=p.lt;have bH:(j:Int)<(a.length:Int):=ω
   have cE:(0:Int)<=(j:Int):=ω
   have P:base<=wr.heap.size:=ω
   have A:=Z (m9 base g f (k++MA c (a.take j)) (c+(j:Int)) (nm+(j:Int)) lf (n:Int) b wr l P (by simp[RF];omega) ω ω ω ω);have B:=Z q;have E:=Z r;have cC:=l.row.lt;have G:=Z i;clear l q p i r;go_wp2_with (go_at_call 82;refine A.l.A ?_;rintro e w5 ⟨⟨x,rfl⟩,U,H,p,r⟩);have cI:=p.size;have O:k++MA c (a.take (j+1))=k++MA c (a.take j)++[(false,c+(j:Int),b)]:=by rw[ZY a j empty o,ji,<-E.l,BN,BF,show min j a.length=j by omega]
   refine⟨⟨j+1,ω,ν,U,?_,B.l.j p,G.l.j r⟩,by simp[intOf];omega⟩;rw[O];have Q:c+((j+1:Nat):Int)=c+(j:Int)+1:=ω
   have R:nm+((j+1:Nat):Int)=nm+(j:Int)+1:=ω
   rw[Q,R];exact H
  have p:j=a.length:=ω
  subst p;go_wp2_with fail;go_end0;rw[DA]at l;exact⟨⟨_,rfl⟩,f,l,q,(⟨N,λ_ h=>.inl h,λb t _ _=>z.l.block b t⟩:WK g w v u v).j i⟩
theorem mG(t h f l:Int)(a:0<=t)(w:World):Calls prog 163 #[NI t h f l] w λe w'=>e=.returned (.int .i64 (t % 2))/\Below w.heap.size w w':=by
 go_enter func163,ntmps163;go_wp2;go_ret;exact⟨rfl,KW _ _⟩
theorem zX(base g:Nat)(v:Value)(q:List OpT)(bZ nm lf wd t s f l:Int)(w:World)(h:Wrt w base g v q bZ nm lf wd)(P:base<=w.heap.size)(hl:q.length<=1000)(ht:0<=t):Calls prog 136 #[.pointer (some ⟨g,0,none⟩),NI t s f l] w λe w'=>(∃x,e=.returned x)/\(∃a,Wrt w' base g a (q++[(false,t % 2,MB t s f l wd)]) bZ nm lf wd)/\Below base w w':=by
 obtain⟨i0,a,b,c,d⟩:=WP vy;have N:=Z (AH a (AH b (AH c d)));clear a b c d;obtain⟨Q,R,rfl⟩:=h.sl;have O:=Z (λw'=>OD t s f l wd w');obtain⟨k,a⟩:∃k,k=MB t s f l wd:=⟨_,rfl⟩;rw[<-a]at O⊢;clear a;have lg:=h.row.lt;obtain⟨r,a⟩:∃r,r=w.alloc (.cells #[.int .i64 t,.int .i64 s,.int .i64 f,.int .i64 l] 28):=⟨_,rfl⟩;have M:Below w.heap.size w r:=by rw[a];exact KW _ _
 have cY:r.heap.size=w.heap.size+1:=by rw[a];simp
 have D:Row r w.heap.size [.int .i64 t,.int .i64 s,.int .i64 f,.int .i64 l]:=by rw[a];exact LU w _ _
 have F:=h.z M;have cZ:=F.row.y 0;go_enter func136,ntmps136;go_wp2_with fail;rw[<-a];clear a;refine AN (S:=λw'=>w'.cell? ⟨w.heap.size,0,none⟩=some (.int .i64 t)/\w'.cell? ⟨w.heap.size,1,none⟩=some (.int .i64 s)/\w'.cell? ⟨w.heap.size,2,none⟩=some (.int .i64 f)/\w'.cell? ⟨w.heap.size,3,none⟩=some (.int .i64 l)/\w'.cell? ⟨g,4,none⟩=some (.int .i64 wd)) κ (⟨D.drew.y 0,D.drew.y 1,D.drew.y 2,D.drew.y 3,F.row.drew.y 4⟩) (λz=>?_);refine V 0 (.pointer (some ⟨g,0,none⟩)) rfl z (V 1 (.pointer (some ⟨g,0,none⟩)) rfl z (V 2 (.pointer (some ⟨g,0,none⟩)) rfl z (V 3 (.pointer (some ⟨g,0,none⟩)) rfl z (V 5 (.agg #[.int .i64 t,.int .i64 s,.int .i64 f,.int .i64 l]) rfl z (V 7 (.agg #[.int .i64 t,.int .i64 s,.int .i64 f,.int .i64 l]) rfl z (V 8 (.pointer (some ⟨g,0,none⟩)) rfl z (V 9 (.pointer (some ⟨g,0,none⟩)) rfl z (V 10 (.pointer (some ⟨g,4,none⟩)) rfl z (V 11 (.int .i64 wd) rfl z ?_)))))))))
 simp only[J];refine DH (rs:=[4,6]) κ σ ?_;refine AY rfl (λK a=>?_) (AY rfl (λK a=>?_) DE)
 focus
  go_simp;refine a.l _ _ z (λ_=>?_);clear a K
  try simp only[J]
  refine RD 6 rfl (λK a=>?_);refine LC ρ _ _ γ (mG t s f l ht _) ?_;rintro e w4 ⟨rfl,U⟩;refine⟨_,rfl,?_⟩;have y:Below r.heap.size r w4:=(AC _ _).drew.j U;have I:=F.z y;have C:=D.z y;have cW:=I.row.y 0;refine a.l _ _ (⟨C.y 0,C.y 1,C.y 2,C.y 3,I.row.y 4⟩) (λcT=>?_);clear a K
  try simp only[J]
  refine RD 12 rfl (λK a=>?_);refine LC ρ 168 #[NI t s f l,.int .i64 wd] γ (O.l _) ?_;rintro e o ⟨rfl,L⟩;refine⟨_,rfl,?_⟩;have i:Below r.heap.size r o:=y.j (L.A y.size);have m:=F.z i;have n:=D.z i;have cS:=m.row.y 0;have cQ:=m.row.lt;have A:=m.z ((AC _ _).alloc (Y _) (.cells #[.bool false,.int .i64 (t % 2),.string k] 78));have d:=n.alloc (.cells #[.bool false,.int .i64 (t % 2),.string k] 78);refine a.l _ _ (⟨n.y 0,n.y 1,n.y 2,n.y 3,m.row.y 4⟩) (λbT=>?_);clear a K
  try simp only[J]
  refine V 13 (.agg #[.bool false,.int .i64 (t % 2),.string k]) rfl bT ?_;simp only[J];refine RD 14 rfl (λK a=>?_);go_simp;refine a.l _ _ (⟨d.y 0,d.y 1,d.y 2,d.y 3,A.row.y 4⟩) (λcU=>?_);clear a K
  try simp only[J]
  refine RD 15 rfl (λK a=>?_);refine QM _ ρ _ _ _ ρ base underlying46 N.l rfl ω (.slice Q q.length R) q.length _ ρ A.own ⟨o.heap.size,0,none⟩ 1 1 [.bool false,.int .i64 (t % 2),.string k] ρ rfl (World.news_of_block (AW o _)) (YO _ _ _) (by have:=i.size;simp<;>omega) (o.heap.size+1) σ ?_;intro H E w9 u p x S;have b:=je (W:=w) (x:=(false,t % 2,k)) m (by have:=i.size;omega) ((M.A P).j (i.A ω)) u p x;have c:=d.I p (λe=>by have:=(h.own.lt w.heap.size e.symm).2;omega);have B:=Z b;have X:=b.1.y 0;have G:=b.1.y 4;have r9:=b.1.E 0;have W:=b.1.lt;have T:w.heap.size≠g:=ω
  clear u p x b;refine a.l _ _ (⟨c.y 0,c.y 1,c.y 2,c.y 3,G⟩) (λaZ=>?_);clear a K
  try simp only[J]
  refine V 16 (.pointer (some ⟨g,0,none⟩)) rfl aZ (V 17 (.pointer (some ⟨g,0,none⟩)) rfl aZ ?_);simp only[J];refine RD 18 rfl (λK a=>?_);go_simp;have j:=c.other ⟨g,0,none⟩ (by show g≠w.heap.size;omega) (.slice (some ⟨H,0,none⟩) (q.length+1) E);refine a.l _ _ (⟨j.y 0,j.y 1,j.y 2,j.y 3,B.l.2.1.row.y 4⟩) (λcV=>?_)
 rotate_left
 focus
  refine LC ρ _ _ γ (mG t s f l ht _) ?_;rintro e w4 ⟨rfl,U⟩;refine⟨_,rfl,?_⟩;have y:Below r.heap.size r w4:=(AC _ _).drew.j U;have I:=F.z y;have C:=D.z y;have cW:=I.row.y 0;refine a.l _ _ (⟨C.y 0,C.y 1,C.y 2,C.y 3,I.row.y 4⟩) (λbU=>?_);clear a K
  try simp only[J]
  refine DH (rs:=[4,12]) κ σ ?_;refine AY rfl (λK a=>?_) (AY rfl (λK a=>?_) DE)
  focus
   go_simp;refine a.l _ _ bU (λ_=>?_);clear a K
   try simp only[J]
   refine RD 12 rfl (λK a=>?_);refine LC ρ 168 #[NI t s f l,.int .i64 wd] γ (O.l _) ?_;rintro e o ⟨rfl,L⟩;refine⟨_,rfl,?_⟩;have i:Below r.heap.size r o:=y.j (L.A y.size);have m:=F.z i;have n:=D.z i;have cS:=m.row.y 0;have cQ:=m.row.lt;have A:=m.z ((AC _ _).alloc (Y _) (.cells #[.bool false,.int .i64 (t % 2),.string k] 78));have d:=n.alloc (.cells #[.bool false,.int .i64 (t % 2),.string k] 78);refine a.l _ _ (⟨n.y 0,n.y 1,n.y 2,n.y 3,m.row.y 4⟩) (λbV=>?_);clear a K
   try simp only[J]
   refine V 13 (.agg #[.bool false,.int .i64 (t % 2),.string k]) rfl bV ?_;simp only[J];refine RD 14 rfl (λK a=>?_);go_simp;refine a.l _ _ (⟨d.y 0,d.y 1,d.y 2,d.y 3,A.row.y 4⟩) (λcA=>?_);clear a K
   try simp only[J]
   refine RD 15 rfl (λK a=>?_);refine QM _ ρ _ _ _ ρ base underlying46 N.l rfl ω (.slice Q q.length R) q.length _ ρ A.own ⟨o.heap.size,0,none⟩ 1 1 [.bool false,.int .i64 (t % 2),.string k] ρ rfl (World.news_of_block (AW o _)) (YO _ _ _) (by have:=i.size;simp<;>omega) (o.heap.size+1) σ ?_;intro H E w9 u p x S;have b:=je (W:=w) (x:=(false,t % 2,k)) m (by have:=i.size;omega) ((M.A P).j (i.A ω)) u p x;have c:=d.I p (λe=>by have:=(h.own.lt w.heap.size e.symm).2;omega);have B:=Z b;have X:=b.1.y 0;have G:=b.1.y 4;have r9:=b.1.E 0;have W:=b.1.lt;have T:w.heap.size≠g:=ω
   clear u p x b;refine a.l _ _ (⟨c.y 0,c.y 1,c.y 2,c.y 3,G⟩) (λaR=>?_);clear a K
   try simp only[J]
   refine V 16 (.pointer (some ⟨g,0,none⟩)) rfl aR (V 17 (.pointer (some ⟨g,0,none⟩)) rfl aR ?_);simp only[J];refine RD 18 rfl (λK a=>?_);go_simp;have j:=c.other ⟨g,0,none⟩ (by show g≠w.heap.size;omega) (.slice (some ⟨H,0,none⟩) (q.length+1) E);refine a.l _ _ (⟨j.y 0,j.y 1,j.y 2,j.y 3,B.l.2.1.row.y 4⟩) (λcC=>?_)
  rotate_left
  focus
   refine LC ρ 168 #[NI t s f l,.int .i64 wd] γ (O.l _) ?_;rintro e o ⟨rfl,L⟩;refine⟨_,rfl,?_⟩;have i:Below r.heap.size r o:=y.j (L.A y.size);have m:=F.z i;have n:=D.z i;have cS:=m.row.y 0;have cQ:=m.row.lt;have A:=m.z ((AC _ _).alloc (Y _) (.cells #[.bool false,.int .i64 (t % 2),.string k] 78));have d:=n.alloc (.cells #[.bool false,.int .i64 (t % 2),.string k] 78);refine a.l _ _ (⟨n.y 0,n.y 1,n.y 2,n.y 3,m.row.y 4⟩) (λaS=>?_);clear a K
   try simp only[J]
   refine V 13 (.agg #[.bool false,.int .i64 (t % 2),.string k]) rfl aS ?_;simp only[J];refine DH (rs:=[4,14]) κ σ ?_;refine AY rfl (λK a=>?_) (AY rfl (λK a=>?_) DE)
   focus
    go_simp;refine a.l _ _ aS (λ_=>?_);clear a K
    try simp only[J]
    refine RD 14 rfl (λK a=>?_);go_simp;refine a.l _ _ (⟨d.y 0,d.y 1,d.y 2,d.y 3,A.row.y 4⟩) (λcE=>?_);clear a K
    try simp only[J]
    refine RD 15 rfl (λK a=>?_);refine QM _ ρ _ _ _ ρ base underlying46 N.l rfl ω (.slice Q q.length R) q.length _ ρ A.own ⟨o.heap.size,0,none⟩ 1 1 [.bool false,.int .i64 (t % 2),.string k] ρ rfl (World.news_of_block (AW o _)) (YO _ _ _) (by have:=i.size;simp<;>omega) (o.heap.size+1) σ ?_;intro H E w9 u p x S;have b:=je (W:=w) (x:=(false,t % 2,k)) m (by have:=i.size;omega) ((M.A P).j (i.A ω)) u p x;have c:=d.I p (λe=>by have:=(h.own.lt w.heap.size e.symm).2;omega);have B:=Z b;have X:=b.1.y 0;have G:=b.1.y 4;have r9:=b.1.E 0;have W:=b.1.lt;have T:w.heap.size≠g:=ω
    clear u p x b;refine a.l _ _ (⟨c.y 0,c.y 1,c.y 2,c.y 3,G⟩) (λaT=>?_);clear a K
    try simp only[J]
    refine V 16 (.pointer (some ⟨g,0,none⟩)) rfl aT (V 17 (.pointer (some ⟨g,0,none⟩)) rfl aT ?_);simp only[J];refine RD 18 rfl (λK a=>?_);go_simp;have j:=c.other ⟨g,0,none⟩ (by show g≠w.heap.size;omega) (.slice (some ⟨H,0,none⟩) (q.length+1) E);refine a.l _ _ (⟨j.y 0,j.y 1,j.y 2,j.y 3,B.l.2.1.row.y 4⟩) (λcF=>?_)
   rotate_left
   focus
    go_simp;refine a.l _ _ (⟨d.y 0,d.y 1,d.y 2,d.y 3,A.row.y 4⟩) (λaY=>?_);clear a K
    try simp only[J]
    refine RD 4 rfl (λK a=>?_);go_simp;refine a.l _ _ aY (λ_=>?_);clear a K
    try simp only[J]
    refine RD 15 rfl (λK a=>?_);refine QM _ ρ _ _ _ ρ base underlying46 N.l rfl ω (.slice Q q.length R) q.length _ ρ A.own ⟨o.heap.size,0,none⟩ 1 1 [.bool false,.int .i64 (t % 2),.string k] ρ rfl (World.news_of_block (AW o _)) (YO _ _ _) (by have:=i.size;simp<;>omega) (o.heap.size+1) σ ?_;intro H E w9 u p x S;have b:=je (W:=w) (x:=(false,t % 2,k)) m (by have:=i.size;omega) ((M.A P).j (i.A ω)) u p x;have c:=d.I p (λe=>by have:=(h.own.lt w.heap.size e.symm).2;omega);have B:=Z b;have X:=b.1.y 0;have G:=b.1.y 4;have r9:=b.1.E 0;have W:=b.1.lt;have T:w.heap.size≠g:=ω
    clear u p x b;refine a.l _ _ (⟨c.y 0,c.y 1,c.y 2,c.y 3,G⟩) (λb=>?_);clear a K
    try simp only[J]
    refine V 16 (.pointer (some ⟨g,0,none⟩)) rfl b (V 17 (.pointer (some ⟨g,0,none⟩)) rfl b ?_);simp only[J];refine RD 18 rfl (λK a=>?_);go_simp;have j:=c.other ⟨g,0,none⟩ (by show g≠w.heap.size;omega) (.slice (some ⟨H,0,none⟩) (q.length+1) E);refine a.l _ _ (⟨j.y 0,j.y 1,j.y 2,j.y 3,B.l.2.1.row.y 4⟩) (λp=>?_)
   rotate_left
  rotate_left 2
 rotate_left 3
 all_goals
  clear a K
  try simp only[J]
  refine DN ?_;go_end0;exact⟨⟨_,rfl⟩,⟨_,B.l.2.1⟩,B.l.2.2.2⟩
theorem Cz(base g:Nat)(v:Value)(c:List OpT)(a nm lf wd:Int)(w:World)(h:Wrt w base g v c a nm lf wd)(m:base<=w.heap.size)(y:c.length<=1000)(p:0<=a)(q:a<=100000)(r:0<=nm)(s:nm<=2000000000):Calls prog 135 #[.pointer (some ⟨g,0,none⟩)] w λe w'=>e=.returned (.func (.func 167) #[] #[.pointer (some ⟨w.heap.size,0,none⟩)])/\Row w' w.heap.size [.pointer (some ⟨g,0,none⟩)]/\(∃d,Wrt w' base g d (c++[(false,a,LS 3 lf nm empty wd)]) (a+1) (nm+1) lf wd/\∀k,d.ownBlock=some k->k≠w.heap.size)/\Below base w w':=by
 have z:∀(l:Fn) (first b:Array Value) (w:World),(Instr.makeFunc l first b).run prog w=.ok (.func l first b) w:=λ_ _ _ _=>rfl
 have f:∀o,Below w.heap.size w (w.alloc o):=λo=>KW _ _
 have n:=Z (nO base g v c a nm lf wd _ (h.z (f (.cells #[.pointer (some ⟨g,0,none⟩)] 84))) (AL m (f _).size) y p q r s);go_enter func135,ntmps135;go_wp2_with (go_at_call 137;refine n.l.A ?_;rintro e B ⟨⟨x,rfl⟩,d,t,o,j⟩);go_ret;have A:=h.row.lt;refine⟨rfl,(LU w #[.pointer (some ⟨g,0,none⟩)] 84).wk j ω (λe=>by have:=(h.own.lt w.heap.size e.symm).2;omega),⟨d,t,λk u e=>?_⟩,((f _).A m).j o⟩;subst e;rcases j.own _ u with i|i
 ·have:=(h.own.lt _ i).2;omega
 rw[BB]at i;omega
theorem Ff(base g B:Nat)(v:Value)(j:List OpT)(c nm lf:Int)(n m:Nat)(p:Option Addr)(b:List Ch)(f:Nat)(w:World)(h:Wrt w base g v j c nm lf (n:Int))(r:Row w B [.pointer (some ⟨g,0,none⟩)])(y:B≠g)(z:some B≠v.ownBlock)(I:Chs w p b)(G:b.length<=1048576)(H:∀x∈b,x.1.size<=1048576/\x.2.1.size<=1048576)(i:base<=w.heap.size)(Q:j.length+(NV (KZ b) lf nm n m).length<=1000)(R:n+m=56)(N:1<=n)(O:n<=8)(C:0<=c)(D:c<=10000)(L:0<=nm)(M:nm<=1900000000):Calls prog 167 #[.slice p b.length f,.pointer (some ⟨B,0,none⟩)] w λe w'=>(∃x,e=.returned x)/\∃k,Wrt w' base g k (j++MA c (NV (KZ b) lf nm n m)) (c+((NV (KZ b) lf nm n m).length:Int)) (nm+((NV (KZ b) lf nm n m).length:Int)) lf (n:Int)/\Below base w w'/\WK g w v w' k:=by
 have t:=Z (λW (P:Chs W p b)=>vm p b f W P G H);have U:=an b;go_enter func167,ntmps167;go_wp2_with fail;refine AN (S:=λw'=>w'.cell? ⟨B,0,none⟩=some (.pointer (some ⟨g,0,none⟩))) κ (r.drew.y 0) (λq=>?_);refine V 0 (.pointer (some ⟨g,0,none⟩)) rfl q (V 1 (.slice p b.length f) rfl q ?_);simp only[J];refine RD 2 rfl (λK d=>?_);refine LC ρ 31 #[.slice p b.length f] γ (t.l _ (I.z (AC _ _).drew)) ?_;rintro e s ⟨rfl,E⟩;refine⟨_,rfl,?_⟩;have a:Below w.heap.size w s:=(AC _ _).drew.j E;have o:=r.z a;refine d.l _ _ (o.y 0) (λS=>?_);clear d K
 try simp only[J]
 refine RD 3 rfl (λK d=>?_);refine LC ρ 36 #[.pointer (some ⟨g,0,none⟩),.string (KZ b)] γ (tP base g v j c nm lf n m _ _ (h.z a) (AL i a.size) ω Q R N O C D L M) ?_;rintro e X ⟨⟨x,rfl⟩,k,A,F,l⟩;refine⟨_,rfl,?_⟩;have u:=o.wk l y z;refine d.l _ _ (u.y 0) (λT=>?_);clear d K
 try simp only[J]
 refine DN ?_;go_end0;exact⟨⟨_,rfl⟩,k,A,(a.A i).j F,(⟨a.size,λ_ h=>.inl h,λb i _ _=>a.block b i⟩:WK g w v s v).j l⟩
theorem xm{e:TypeId}{s:Nat}{n:Nat}{f:List Value}(h:w.ownsRow base e s v n f)(j:∀b,base<=b->b<w.heap.size->w'.heap[b]?=w.heap[b]?):w'.ownsRow base e s v n f:=by
 refine⟨h.1,?_⟩;rcases h.2 with k|⟨g,a,b,rfl,d,c,i⟩
 ·exact .inl k
 exact .inr ⟨g,a,b,rfl,d,(j g d (AT.1 c).1).j c,i⟩
theorem Bat.span{a:List (List Ch)}(h:Bat w base v a)(c:∀b,base<=b->b<w.heap.size->w'.heap[b]?=w.heap[b]?):Bat w' base v a:=by
 obtain⟨j,b,d,e⟩:=h;exact⟨j,xm b c,λi f=>xm (d i f) c,e⟩
theorem wT(q:Int)(l r:List ByteArray):MA q (l++r)=MA q l++MA (q+(l.length:Int)) r:=by
 unfold MA;rw[List.mapIdx_append]
 congr 1
 apply List.ext_getElem
 ·simp
 intro i a b
 simp;omega
theorem Row.below2{N:Nat}{b:List Value}(h:Row w g b)(c:g<N)(a:Below N w w'):Row w' g b :=⟨AD h.lt a.size,λi v hv=>(a.cell (p:=⟨g,i,none⟩) c).j (h.cell i v hv),λi d=>(a.frozen (p:=⟨g,i,none⟩) c).j (h.froz i d)⟩
def n6(w w':World)(x:Ending)(d:Dd)(a:Option Addr)(c:Nat):Prop:=∃b e,x=.returned (MV d a c b e)/\d.ops.length<=e/\OwnS w' b (NJ d.ops)/\(∀g,blk b d.ops.length=some g->w.heap.size<=g)/\Below w.heap.size w w'
theorem Gh(S L T H F R U O:Int)(n m:Nat)(a:Option Addr)(o:List Pr)(c:Nat)(w:World)(h:Prs w a o)(hc:o.length<=c)(hl:o.length<=1048576)(hs:∀x∈o,x.1.size<=1048576/\x.2.size<=1048576)(hm:n+m=56)(fE:1<=n)(fF:n<=8)(iE:XN (n:Int) S L T H F o)(aZ:T+1<=1000000000/\F+hv S<=999999000):Calls prog 96 #[MM (n:Int) S L T H F R U O a o.length c] w λx w'=>n6 w w' x (TN (n:Int) S L T H F o) a c:=by
 obtain⟨i,hS,hL,hT,hH,hF,l⟩:=iE;have hQ:=PJ hS;have dN:=Z (λw'=>qE T H F R S L w' ω ω ω ω ω ω);have b:RT (T+1) (1-H) (F+hv S) L=true:=by unfold RT;simp;omega
 have z:=Z (λw'=>ru (T+1) (1-H) (F+hv S) L w');rw[b]at z;have f:=Z (λw'=>om (n:Int) S L (T+1) (1-H) (F+hv S) L 0 0 a o.length c w' ω ω ω ω ω ω);unfold TN;unfold MM at f⊢;have t:(n:Int).toNat=n:=ω
 have u:56-n=m:=ω
 rw[t,u];obtain⟨Q,HQ⟩:∃Q,Hid (Q=hv S):=⟨_,Z rfl⟩;rw[<-HQ.l]at hQ dN z f l aZ⊢;obtain⟨q,d⟩:∃q,q=2+(1-H)*Q:=⟨_,rfl⟩
 have i5:2<=q/\q<=101:=by
  rcases(show H=0\/H=1 by omega) with e|e
  ·subst e;omega
  subst e;omega
 rw[<-d]at f⊢;simp only[Int.add_zero]at f;clear d t u b;obtain⟨iT,iU⟩:=aZ;obtain⟨j,d⟩:∃j,j=LI o:=⟨_,rfl⟩;have gU:=ZI o
 have gE:Hid (∀b∈j,b.length<=1048576/\∀x∈b,x.1.size<=1048576/\x.2.1.size<=1048576):=by
  intro b t;rw[d]at t;obtain⟨B,h2⟩:=mb t;exact⟨ω,λx e=>hs _ (h2 x e)⟩
 have B:=Z (λw' e=>qB a o c w' e hc hl hs);have aU:=Z (λk=>ae L (F+Q) n m hm fE fF (j.take k))
 have aK:Hid (∀k,LT (j.take k) (n:Int)<=Q-1):=λk=>by
  have:=pW j k (n:Int);rw[<-d]at l;omega
 rw[<-d]at gU B⊢;clear d l;have eL:Hid (Below w.heap.size w ((w.alloc (.cells (sK (n:Int) S L T H F R U O (.slice a o.length c)) 33)).alloc (.cells (dK 0 0 0 0 0 0 0 0 0 0 (.slice none 0 0) (.slice none 0 0)) 48))):=(KW _ _).alloc σ _;go_enter func96,ntmps96;go_wp2_with fail;refine(dN.l _).A ?_;rintro e w1 ⟨rfl,l⟩;have d:=((LU w (sK (n:Int) S L T H F R U O (.slice a o.length c)) 33).alloc (.cells (dK 0 0 0 0 0 0 0 0 0 0 (.slice none 0 0) (.slice none 0 0)) 48)).z l;have p:=(dz (w:=w.alloc (.cells (sK (n:Int) S L T H F R U O (.slice a o.length c)) 33)) (A:=(dK 0 0 0 0 0 0 0 0 0 0 (.slice none 0 0) (.slice none 0 0))) (t:=48) (g:=w.heap.size+1) σ).z l;have eM:=Z (eL.l.j (l.A τ));obtain⟨t,u,A,C,D,E,G,I,K,M⟩:=d.k10;have N:=d.E 0;have P:=d.E 1;have W:=d.E 2;have X:=d.E 3
 have cJ:=d.E 4;have cL:=d.E 5;have cO:=d.E 6;have cP:=d.E 7;have cQ:=d.E 8;have cS:=d.E 9;have s:=Z d;have y:=Z p;clear d p l;go_wp2_with fail;refine(z.l _).A ?_;rintro e w2 ⟨rfl,l⟩;clear t N u P A W C X D cJ E cL G cO I cP K cQ M cS;have d:=((((s.l.set 3 σ _).set 4 σ _).set 5 σ _).set 6 σ _).z l;have p:=((((y.l.other ⟨w.heap.size,3,none⟩ (by show w.heap.size≠_;omega) _).other ⟨w.heap.size,4,none⟩ (by show w.heap.size≠_;omega) _).other ⟨w.heap.size,5,none⟩ (by show w.heap.size≠_;omega) _).other ⟨w.heap.size,6,none⟩ (by show w.heap.size≠_;omega) _).z l;have r:=((((eM.l.setCell (p:=⟨w.heap.size,3,none⟩) (Y _) (.int .i64 (T+1))).setCell (p:=⟨w.heap.size,4,none⟩) (Y _) (.int .i64 (1-H))).setCell (p:=⟨w.heap.size,5,none⟩) (Y _) (.int .i64 (F+Q))).setCell (p:=⟨w.heap.size,6,none⟩) (Y _) (.int .i64 L))
 have eN:=Z (r.j (l.A r.size));simp only[DC,DG]at d;clear l r eM s y;obtain⟨t,u,A,C,D,E,G,I,K,M⟩:=d.k10;have N:=d.E 0;have P:=d.E 1;have W:=d.E 2;have X:=d.E 3;have cJ:=d.E 4;have cL:=d.E 5;have cO:=d.E 6;have cP:=d.E 7;have cQ:=d.E 8;have cS:=d.E 9;have s:=Z d;have y:=Z p;clear d p;go_wp2_with fail;clear t N u P A W C X D cJ E cL G cO I cP K cQ M cS;obtain⟨l,r⟩:∃l,l=(w2.setCell ⟨w.heap.size,7,none⟩ (.int .i64 0)).setCell ⟨w.heap.size,8,none⟩ (.int .i64 0):=⟨_,rfl⟩;have d:Row l (w.heap.size) (sJ (n:Int) S L (T+1) (1-H) (F+Q) L 0 0 (.slice a o.length c)):=by rw[r];exact(s.l.set 7 σ _).set 8 σ _
 have p:Row l (w.heap.size+1) (dJ 0 0 0 0 0 0 0 0 0 0 (.slice none 0 0) (.slice none 0 0)):=by rw[r];exact(y.l.other ⟨w.heap.size,7,none⟩ (by show w.heap.size≠_;omega) _).other ⟨w.heap.size,8,none⟩ (by show w.heap.size≠_;omega) _
 have t:Below w.heap.size w l:=by rw[r];exact(eN.l.setCell (p:=⟨w.heap.size,7,none⟩) (Y _) _).setCell (p:=⟨w.heap.size,8,none⟩) (Y _) _
 rw[<-r];clear r s y eN;refine(f.l _).A ?_;rintro e w4 ⟨g,rfl,i,r⟩;have iV:=i.ge;have iW:=i.row.lt;have iG:=r.size;have A:=Z i;have C:=Z r;have s:=Z d;have y:=Z p;have cT:=Z t;have cY:=d.lt;have eF:=p.lt;clear i r d p t f dN z eL;go_wp2_with fail;refine(Cz l.heap.size g _ _ q (F+Q) L (n:Int) _ A.l iG σ ω ω ω ω).A ?_;rintro e w5 ⟨rfl,p,⟨v5,r,z⟩,u⟩;have f:Below l.heap.size l w5:=C.l.j u;have d:=s.l.z f;have t:=d.y 9;have i6:=u.size;have iS:=p.lt;clear d;go_wp2_with fail;clear t;refine(B.l _ (h.z (cT.l.j (f.A cT.l.size)))).A ?_;rintro e w6 ⟨v6,rfl,i,d⟩;obtain⟨va,vc,rfl,_⟩:=i.bts;have i7:=d.size;have fY:=Z i;have fZ:=Z (p.z d);have eO:=Z z
 have t:∀k,v5.ownBlock=some k->k<w5.heap.size:=λk hk=>(r.own.lt k hk).2
 have gF:=Z t;have gI:=Z (r.z d);have fX:=Z (f.j (d.A f.size));clear i p z t r d u f B A C;go_wp2_with fail;go_loopw [30] (λi wr=>∃k:Nat,k<=j.length/\i=.int .i64 (k:Int)/\∃v',Wrt wr l.heap.size g v' (MA q (LW L (F+Q) n m (j.take k))) (q+((LW L (F+Q) n m (j.take k)).length:Int)) (F+Q+((LW L (F+Q) n m (j.take k)).length:Int)) L (n:Int)/\Below l.heap.size l wr/\WK g w6 v5 wr v') (λi _=>j.length-(intOf i).toNat)
 case atStart =>
  refine⟨0,AO _,rfl,v5,?_,fX.l,WK.start _ _ _⟩;rw[FQ,am];have d:MA q [LS 3 L (F+Q) empty (n:Int)]=[]++[(false,q,LS 3 L (F+Q) empty (n:Int))]:=by simp[MA]
  rw[d];exact gI.l
 case round =>
  obtain⟨k,hk,rfl,v',i,r,z⟩:=hrel;have hN:((LW L (F+Q) n m (j.take k)).length:Int)<=99:=by have B:=aU.l k;have h2:=aK.l k;omega
  obtain⟨f,d⟩:∃f,f=LW L (F+Q) n m (j.take k):=⟨_,rfl⟩;rw[<-d]at i hN;have fQ:l.heap.size<=wr.heap.size:=r.size
  by_cases eG:k<j.length
  ·have D:=fY.l.span (w':=wr) (λb B h2=>z.blk b h2 ω (λe=>by have:=gF.l b e.symm;omega))
   obtain⟨i9,jA,K,E⟩:=D.bts
   cases K
   obtain⟨gl,p,G,rfl,gX,X,C⟩:=E.at eG;have iD:(k:Int)<(j.length:Int):=ω
   have iZ:(0:Int)<=(k:Int):=ω
   have u:=gE.l (j.getD k []) (by simp[List.getD,eG]);have W:((LW L (F+Q) n m (j.take (k+1))).length:Int)<=99:=by have B:=aU.l (k+1);have h2:=aK.l (k+1);omega
   have A:LW L (F+Q) n m (j.take (k+1))=f++NV (KZ (j.getD k [])) L (F+Q+(f.length:Int)) n m:=by rw[ZY j k [] eG,fu,<-d]
   obtain⟨b,t⟩:∃b,b=j.getD k []:=⟨_,rfl⟩;rw[<-t]at X C u A;rw[A,AE]at W;have N:=Z (Ff l.heap.size g w4.heap.size v' (MA q f) (q+(f.length:Int)) (F+Q+(f.length:Int)) L n m p b G wr i (fZ.l.wk z ω (λe=>eO.l _ e.symm rfl)) ω (λe=>by rcases z.own _ e.symm with B|B;exact eO.l _ B rfl;omega) C u.1 u.2 fQ (by rw[RF];omega) hm fE fF ω ω ω ω);have M:=Z A;have dH:=Z r;have P:=Z z;clear t A d u C r D E z i;go_wp2_with (go_at_call 167;refine N.l.A ?_;rintro e I ⟨⟨x,rfl⟩,E,D,C,A⟩);refine⟨⟨k+1,ω,ν,E,?_,dH.l.j C,P.l.j A⟩,by simp[intOf];omega⟩;rw[M.l,wT,AE];have t:q+((f.length+(NV (KZ b) L (F+Q+(f.length:Int)) n m).length:Nat):Int)=q+(f.length:Int)+((NV (KZ b) L (F+Q+(f.length:Int)) n m).length:Int):=ω
   have u:F+Q+((f.length+(NV (KZ b) L (F+Q+(f.length:Int)) n m).length:Nat):Int)=F+Q+(f.length:Int)+((NV (KZ b) L (F+Q+(f.length:Int)) n m).length:Int):=ω
   rw[t,u];exact D
  have iC:k=j.length:=ω
  subst iC;have he:f=LW L (F+Q) n m j:=by rw[d,DA]
  clear d;have fW:=Z he;obtain⟨ya,yc,rfl⟩:=i.sl;rw[RF]at i;have y0:=i.row.y 0;have d:=s.l.z r;have p:=y.l.z r;have iY:=i.row.lt;obtain⟨t,u,A,C,D,E,G,I,K,M⟩:=d.k10;have N:=d.E 0;have P:=d.E 1;have W:=d.E 2;have X:=d.E 3;have cJ:=d.E 4;have cL:=d.E 5;have cO:=d.E 6;have cP:=d.E 7;have cQ:=d.E 8;have cS:=d.E 9;have eQ:=Z i;have dH:=Z r;have eT:=Z d;have eU:=Z p;clear i r d p z he;go_wp2_with fail;clear t N u P A W C X D cJ E cL G cO I cP K cQ M cS;clear y0;obtain⟨I,i⟩:∃I,I=wr.setCell ⟨w.heap.size,7,none⟩ (.int .i64 (f.length:Int)):=⟨_,rfl⟩;rw[<-i];have D:=eQ.l.set w.heap.size 7 cY (.int .i64 (f.length:Int));have d:=eT.l.set 7 σ (.int .i64 (f.length:Int));have p:=eU.l.other ⟨w.heap.size,7,none⟩ (by show w.heap.size≠_;omega) (.int .i64 (f.length:Int))
  have fB:Below w.heap.size w I:=by rw[i];exact(cT.l.j (dH.l.A cT.l.size)).setCell (p:=⟨w.heap.size,7,none⟩) (Y _) _
  have fI:l.heap.size<=I.heap.size:=by rw[i];simpa[World.setCell] using fQ
  simp only[DC,DG]at d;rw[<-i]at D d p;clear i eT eU eQ;refine(nc l.heap.size g _ _ _ _ _ _ _ D fI (by rw[RF];omega)).A ?_;rintro e w8 ⟨⟨u,rfl⟩,⟨v8,i⟩,E⟩;have N:=d.below2 cY E;have fU:=p.below2 eF E;have fJ:l.heap.size<=w8.heap.size:=AL fI E.size;obtain⟨x0,x1,x2,x3,x4,x5,x6,x7,u,t⟩:=N.k10;have X:=Z i;clear i;go_wp2_with fail;refine(zX l.heap.size g _ _ _ _ _ _ _ _ _ _ _ X.l fJ (by simp[RF];omega) ω).A ?_;rintro e w9 ⟨⟨jB,rfl⟩,⟨v9,eX⟩,G⟩;clear x0 x1 x2 x3 x4 x5 x6 x7 u t;have fT:=N.below2 cY G;have fV:=fU.below2 eF G;have fO:l.heap.size<=w9.heap.size:=AL fJ G.size;go_wp2_with fail;refine(nc l.heap.size g _ _ _ _ _ _ _ eX fO (by simp[RF];omega)).A ?_;rintro e A ⟨⟨iH,rfl⟩,⟨i8,z⟩,C⟩;have W:=fT.below2 cY C;have K:=fV.below2 eF C;have iF:l.heap.size<=A.heap.size:=AL fO C.size
  have fC:Below w.heap.size w A:=((fB.j (E.A ω)).j (G.A ω)).j (C.A ω);have gD:=Z fC;obtain⟨za,zc,rfl⟩:=z.sl;have M:(MA q f++[(true,0,empty)]++[(false,(T+1) % 2,MB (T+1) (1-H) (F+Q) L (n:Int))]++[(true,0,empty)]).length=f.length+3:=by simp[RF]
  obtain⟨r,i,eC,ez,iA,iB,P⟩:∃r i,f.length+3<=i/\Value.slice za (MA q f++[(true,0,empty)]++[(false,(T+1) % 2,MB (T+1) (1-H) (F+Q) L (n:Int))]++[(true,0,empty)]).length zc=Value.slice (some ⟨r,0,none⟩) (f.length+3) i/\l.heap.size<=r/\r<A.heap.size/\Row A r (NJ (MA q f++[(true,0,empty)]++[(false,(T+1) % 2,MB (T+1) (1-H) (F+Q) L (n:Int))]++[(true,0,empty)])):=by
   rcases MO z.own with ⟨t,u⟩|⟨g,i,t,u,e3,e4⟩
   ·simp at u
   exact⟨g,i,by have:=qf z.own;injection t with _ _ e;omega,by rw[t,M],u,e3,e4⟩
  have y0:=z.row.y 0;rw[ez]at y0;have gW:=z.row.lt;have iX:w.heap.size≠g:=ω
  have gY:w.heap.size+1≠g:=ω
  have gZ:¬g=w.heap.size+1:=ω
  obtain⟨x0,x1,x2,x3,x4,x5,x6,x7,u,t⟩:=W.k10;obtain⟨d0,d1,d2,d3,d4,d5,d6,d7,d8,d9,gK,gL⟩:=K.k12;obtain⟨iI,iJ,iK,iL,iM,iN,iO,iP,iQ,iR,gM,gN⟩:=K.z12;have i3:w.heap.size<A.heap.size:=ω
  have i4:w.heap.size+1<A.heap.size:=ω
  have dL:=Z P;clear z C G E fB fC eX D d p N fU fT fV W K X P ez;go_wp2_with fail;refine AN (S:=λw'=>w'.cell? ⟨w.heap.size,0,none⟩=some (.int .i64 (n:Int))/\w'.cell? ⟨w.heap.size,1,none⟩=some (.int .i64 S)/\w'.cell? ⟨w.heap.size,2,none⟩=some (.int .i64 L)/\w'.cell? ⟨w.heap.size,3,none⟩=some (.int .i64 (T+1))/\w'.cell? ⟨w.heap.size,4,none⟩=some (.int .i64 (1-H))/\w'.cell? ⟨w.heap.size,5,none⟩=some (.int .i64 (F+Q))/\w'.cell? ⟨w.heap.size,6,none⟩=some (.int .i64 L)/\w'.cell? ⟨w.heap.size,7,none⟩=some (.int .i64 (f.length:Int))/\w'.cell? ⟨w.heap.size,8,none⟩=some (.int .i64 0)/\w'.cell? ⟨w.heap.size,9,none⟩=some (.slice a o.length c)/\w'.cell? ⟨g,0,none⟩=some (.slice (some ⟨r,0,none⟩) (f.length+3) i)) κ (⟨γ,γ,γ,γ,γ,γ,γ,γ,γ,γ,γ⟩) (λd=>?_);refine V 0 (.agg (sK (n:Int) S L (T+1) (1-H) (F+Q) L (f.length:Int) 0 (.slice a o.length c))) rfl d (V 1 (.pointer (some ⟨g,0,none⟩)) rfl d (V 2 (.pointer (some ⟨g,0,none⟩)) rfl d (V 3 (.pointer (some ⟨g,0,none⟩)) rfl d (V 4 (.slice (some ⟨r,0,none⟩) (f.length+3) i) rfl d (V 5 (.agg #[.int .i64 0,.int .i64 (n:Int),.int .i64 S,.int .i64 L,.int .i64 (T+1),.int .i64 (1-H),.int .i64 (F+Q),.int .i64 L,.int .i64 (f.length:Int),.int .i64 0,.slice a o.length c,.slice (some ⟨r,0,none⟩) (f.length+3) i]) rfl d ?_)))))
  simp only[J];refine RD 6 rfl (λK p=>?_);go_simp;refine p.l _ _ (⟨γ,γ,γ,γ,γ,γ,γ,γ,γ,γ,γ⟩) (λC=>?_);clear p K
  try simp only[J]
  refine DN ?_;go_wp2;rw[<-fW.l];have z:MA q f++[(true,0,empty),(false,(T+1) % 2,MB (T+1) (1-H) (F+Q) L (n:Int)),(true,0,empty)]=(MA q f++[(true,0,empty)]++[(false,(T+1) % 2,MB (T+1) (1-H) (F+Q) L (n:Int))]++[(true,0,empty)]):=σ
  rw[z];refine AI (v:=MV ⟨0,(n:Int),S,L,T+1,1-H,F+Q,L,(f.length:Int),0,o,(MA q f++[(true,0,empty)]++[(false,(T+1) % 2,MB (T+1) (1-H) (F+Q) L (n:Int))]++[(true,0,empty)])⟩ a c (some ⟨r,0,none⟩) i) (by simp[results,results96,go_sem,MV,RF,d0,d1,d2,d3,d4,d5,d6,d7,d8,d9,gK,gL]) rfl ⟨_,i,rfl,by rw[M];exact eC,?_,?_,?_⟩
  ·refine .inr ⟨r,rfl,?_⟩
   refine Row.drew ?_
   iterate 12(refine Row.other ?_ _ (by show w.heap.size+1≠r;omega) _)
   exact dL.l
  ·exactλg p=>by change blk _ (MA q f++[(true,0,empty)]++[(false,(T+1) % 2,MB (T+1) (1-H) (F+Q) L (n:Int))]++[(true,0,empty)]).length=_ at p;rw[M,MS _ _ _ ω]at p;cases p;omega
  refine Below.drew ?_
  iterate 12(refine IA ?_ (by show w.heap.size<=w.heap.size+1;omega) _)
  exact gD.l
theorem xN(W S L T H F R U O:Int)(a:Option Addr)(f:List Pr)(c:Nat)(w:World)(t:XN W S L T H F f)(j:¬(T+1<=1000000000/\F+hv S<=999999000)):Calls prog 96 #[MM W S L T H F R U O a f.length c] w λx w'=>x=.returned (MV (LD 4) none 0 none 0)/\Below w.heap.size w w':=by
 obtain⟨hW,hS,hL,hT,hH,hF,aJ⟩:=t;have hQ:=PJ hS;have m:=Z (λw'=>qE T H F R S L w' ω ω ω ω ω ω)
 have b:RT (T+1) (1-H) (F+hv S) L=false:=by
  refine fx _ _ _ _ ?_
  by_cases d:T+1<=1000000000
  ·exact .inr (.inr (.inr ω))
  exact .inl ω
 have i:=Z (λw'=>ru (T+1) (1-H) (F+hv S) L w');rw[b]at i;unfold MM;obtain⟨Q,n⟩:∃Q,Hid (Q=hv S):=⟨_,Z rfl⟩;rw[<-n.l]at hQ m i j;clear b j;have o:Hid (Below w.heap.size w ((w.alloc (.cells (sK W S L T H F R U O (.slice a f.length c)) 33)).alloc (.cells (dK 0 0 0 0 0 0 0 0 0 0 (.slice none 0 0) (.slice none 0 0)) 48))):=(KW _ _).alloc σ _;go_enter func96,ntmps96;go_wp2_with fail;refine(m.l _).A ?_;rintro e w1 ⟨rfl,h⟩;have b:=((LU w (sK W S L T H F R U O (.slice a f.length c)) 33).alloc (.cells (dK 0 0 0 0 0 0 0 0 0 0 (.slice none 0 0) (.slice none 0 0)) 48)).z h;have d:=(dz (w:=w.alloc (.cells (sK W S L T H F R U O (.slice a f.length c)) 33)) (A:=(dK 0 0 0 0 0 0 0 0 0 0 (.slice none 0 0) (.slice none 0 0))) (t:=48) (g:=w.heap.size+1) σ).z h;have k:=Z (o.l.j (h.A τ));have q:=Z b;have l:=Z d;obtain⟨p,r,s,u,x,y,z,A,B,C⟩:=b.k10
 have D:=b.E 0;have E:=b.E 1;have G:=b.E 2;have I:=b.E 3;have K:=b.E 4;have M:=b.E 5;have N:=b.E 6;have P:=b.E 7;have X:=b.E 8;have bZ:=b.E 9;clear b d h;go_wp2_with fail;refine(i.l _).A ?_;rintro e w2 ⟨rfl,b⟩;clear p D r E s G u I x K y M z N A P B X C bZ;have d:=((((l.l.other ⟨w.heap.size,3,none⟩ (by show w.heap.size≠_;omega) _).other ⟨w.heap.size,4,none⟩ (by show w.heap.size≠_;omega) _).other ⟨w.heap.size,5,none⟩ (by show w.heap.size≠_;omega) _).other ⟨w.heap.size,6,none⟩ (by show w.heap.size≠_;omega) _).z b;have h:=((((k.l.setCell (p:=⟨w.heap.size,3,none⟩) (Y _) (.int .i64 (T+1))).setCell (p:=⟨w.heap.size,4,none⟩) (Y _) (.int .i64 (1-H))).setCell (p:=⟨w.heap.size,5,none⟩) (Y _) (.int .i64 (F+Q))).setCell (p:=⟨w.heap.size,6,none⟩) (Y _) (.int .i64 L))
 have p:=Z (h.j (b.A h.size));obtain⟨u,x,y,z,A,B,C,D,E,G,r,s⟩:=d.k12;obtain⟨M,N,P,X,cH,cI,cJ,cL,cO,cP,I,K⟩:=d.z12;have cQ:=d.lt;clear b h k q l d;go_wp2_with fail;refine AI (v:=MV (LD 4) none 0 none 0) (by simp[results,results96,go_sem,MV,LD,u,x,y,z,A,B,C,D,E,G,r,s]) rfl ⟨rfl,?_⟩
 iterate 12(refine IA ?_ (by show w.heap.size<=w.heap.size+1;omega) _)
 exact p.l
theorem Hy(W S L T H F R U O:Int)(a:Option Addr)(j:List Pr)(c:Nat)(w:World)(t:0<=H/\H<=1)(s:1<=F/\F<=999999000)(u0:0<=U/\U<=99):Calls prog 97 #[MM W S L T H F R U O a j.length c] w λx w'=>n6 w w' x ⟨0,W,S,L,T,H,F,R,U+1,O,j,[(false,2+H*hv S+U,LS 3 L (F+U) empty W),(true,0,empty)]⟩ a c:=by
 have d:0<=hv S/\hv S<=99:=by by_cases h:8<=S/\S<=200;have:=PJ h;omega;rw[YQ h];omega
 have p:=Z (λw'=>om W S L T H F R U O a j.length c w' t.1 t.2 s.1 s.2 u0.1 u0.2);unfold MM at p⊢;obtain⟨q,b⟩:∃q,q=2+H*hv S:=⟨_,rfl⟩
 have eK:2<=q/\q<=101:=by
  rcases(show H=0\/H=1 by omega) with e|e
  ·subst e;omega
  subst e;omega
 rw[<-b]at p⊢;clear b d;have eL:IntKind.i64.wrap (U+1)=U+1:=by simp[IntKind.wrap,IntKind.bits,IntKind.signed];omega
 go_enter func97,ntmps97;go_wp2_with fail;obtain⟨l,e⟩:∃x,x=(w.alloc (.cells (sK W S L T H F R U O (.slice a j.length c)) 33)).alloc (.cells (dK 0 0 0 0 0 0 0 0 0 0 (.slice none 0 0) (.slice none 0 0)) 48):=⟨_,rfl⟩;have i:Below w.heap.size w l:=by rw[e];exact(KW _ _).alloc σ _
 have eC:w.heap.size+1+1<=l.heap.size:=by rw[e];simp
 have b:Dep l w.heap.size (w.heap.size+1) (λf=>Row f w.heap.size (sJ W S L T H F R U O (.slice a j.length c))):=by rw[e];exact(Jm w _ _).z (KW _ _)
 have d:Dep l (w.heap.size+1) (w.heap.size+1+1) (λf=>Row f (w.heap.size+1) (dJ 0 0 0 0 0 0 0 0 0 0 (.slice none 0 0) (.slice none 0 0))):=by rw[e];exact ou (dz (w:=w.alloc _) σ) (Y _) ω σ
 rw[<-e];clear e;refine(p.l _).A ?_;rintro e v1 ⟨g,rfl,m,k⟩;have eF:l.heap.size<=v1.heap.size:=k.size;have f:=b.z k;clear b;have b:=f;clear f;have f:=d.z k;clear d;have d:=f;clear f;have f:=i.j (k.A i.size);clear i;have i:=f;clear f;clear k;have eI:=m.ge;have P:=Z m;clear m;go_wp2_with fail;refine(nO l.heap.size g _ [] (q+U) (F+U) L W _ P.l ω σ ω ω ω ω).A ?_;rintro e x1 ⟨⟨x,rfl⟩,v8,m,k,_⟩;have eG:=k.size;have f:=b.low k ω;clear b;have b:=f;clear f;have f:=d.low k ω;clear d;have d:=f;clear f;have f:=i.j (k.A ω);clear i;have i:=f;clear f;have n:=Z m;clear m k;go_wp2_with fail;refine(nc l.heap.size g _ _ _ _ _ _ _ n.l ω σ).A ?_;rintro e x2 ⟨⟨x9,rfl⟩,⟨v9,m⟩,k⟩;have eH:=k.size;have f:=b.low k ω;clear b;have b:=f;clear f
 have f:=d.low k ω;clear d;have d:=f;clear f;have f:=i.j (k.A ω);clear i;have i:=f;clear f;clear k n;simp only[DQ,DZ]at m;obtain⟨k,n,rfl⟩:=m.sl;simp only[CA,AR,Nat.reduceAdd]at m;have y0:=m.row.y 0;have yl:=m.row.lt;have eJ:w.heap.size≠g:=ω
 have dR:w.heap.size+1≠g:=ω
 have dU:¬g=w.heap.size+1:=ω
 have dV:¬g=w.heap.size:=ω
 have o:=Z m;clear m;obtain⟨cO,cP,cQ,cS,cT,cU,cV,cW,cY,cZ⟩:=b.q.k10;have bU:=b.q.E 0;have bV:=b.q.E 1;have bW:=b.q.E 2;have bY:=b.q.E 3;have bZ:=b.q.E 4;have cA:=b.q.E 5;have cC:=b.q.E 6;have cE:=b.q.E 7;have cF:=b.q.E 8;have cH:=b.q.E 9;have dH:=b.q.lt;obtain⟨z,A,B,C,D,E,G,I,M,N,u,y⟩:=d.q.k12;obtain⟨aX,aY,aZ,bE,bG,bH,bI,bJ,bQ,bT,aT,aU⟩:=d.q.z12;have cL:=d.q.lt;go_wp2_with fail;refine AN (S:=λw'=>w'.cell? ⟨w.heap.size,0,none⟩=some (.int .i64 W)/\w'.cell? ⟨w.heap.size,1,none⟩=some (.int .i64 S)/\w'.cell? ⟨w.heap.size,2,none⟩=some (.int .i64 L)/\w'.cell? ⟨w.heap.size,3,none⟩=some (.int .i64 T)/\w'.cell? ⟨w.heap.size,4,none⟩=some (.int .i64 H)/\w'.cell? ⟨w.heap.size,5,none⟩=some (.int .i64 F)/\w'.cell? ⟨w.heap.size,6,none⟩=some (.int .i64 R)/\w'.cell? ⟨w.heap.size,7,none⟩=some (.int .i64 (U+1))/\w'.cell? ⟨w.heap.size,8,none⟩=some (.int .i64 O)/\w'.cell? ⟨w.heap.size,9,none⟩=some (.slice a j.length c)/\w'.cell? ⟨g,0,none⟩=some (.slice k 2 n)) κ (⟨γ,γ,γ,γ,γ,γ,γ,γ,γ,γ,γ⟩) (λm=>?_)
 refine V 0 (.agg (sK W S L T H F R (U+1) O (.slice a j.length c))) rfl m (V 1 (.pointer (some ⟨g,0,none⟩)) rfl m (V 2 (.pointer (some ⟨g,0,none⟩)) rfl m (V 3 (.pointer (some ⟨g,0,none⟩)) rfl m (V 4 (.slice k 2 n) rfl m (V 5 (.agg (dK 0 W S L T H F R (U+1) O (.slice a j.length c) (.slice k 2 n))) rfl m ?_)))));simp only[J];refine RD 6 rfl (λK f=>?_);go_simp;refine f.l _ _ (⟨γ,γ,γ,γ,γ,γ,γ,γ,γ,γ,γ⟩) (λdQ=>?_);clear f K
 try simp only[J]
 refine DN ?_;go_wp2
 have r:∀g,blk k 2=some g->l.heap.size<=g:=λg f=>by
  unfold blk at f
  split at f
  ·cases f
  cases k with
  | none=>cases f
  | some K=>simp at f;subst f;exact(o.l.own.lt K.block rfl).1
 have eB:OwnS x2 k (NJ [(false,q+U,LS 3 L (F+U) empty W),(true,0,empty)]):=by
  rcases MO o.l.own with ⟨_,X⟩|⟨g,K,Q,_,_,e4⟩
  ·simp at X
  have e5:k=some ⟨g,0,none⟩:=by injection Q
  subst e5;exact .inr ⟨g,rfl,e4⟩
 refine AI (v:=MV ⟨0,W,S,L,T,H,F,R,U+1,O,j,[(false,q+U,LS 3 L (F+U) empty W),(true,0,empty)]⟩ a c k n) (by simp[results,results97,go_sem,MV,z,A,B,C,D,E,G,I,M,N,u,y]) rfl ⟨k,n,rfl,qf o.l.own,?_,?_,?_⟩
 ·refine OwnS.drew' ?_
  iterate 12(refine OwnS.set' ?_ _ (λg f K=>by have:=r g (by subst f;exact MS _ _ _ ω);show w.heap.size+1≠g;omega) _)
  iterate 1(refine OwnS.set' ?_ _ (λg f K=>by have:=r g (by subst f;exact MS _ _ _ ω);show w.heap.size≠g;omega) _)
  exact eB
 ·exactλg f=>by have:=r g f;omega
 refine Below.drew ?_
 iterate 12(refine IA ?_ (by show w.heap.size<=w.heap.size+1;omega) _)
 iterate 1(refine IA ?_ (by show w.heap.size<=w.heap.size;omega) _)
 exact i
theorem tR(W S L T H F R U O:Int)(a:Option Addr)(n c:Nat)(w:World)(l:0<=U)(k:U<=100000):Calls prog 34 #[MM W S L T H F R U O a n c] w λe w'=>e=.returned (.int .i64 (hv S-U))/\Below w.heap.size w w':=by
 have j:0<=hv S/\hv S<=99:=by by_cases h:8<=S/\S<=200;have:=PJ h;omega;rw[YQ h];omega
 have f:=Z (λw'=>ek S w');obtain⟨Q,i⟩:∃Q,Hid (Q=hv S):=⟨_,Z rfl⟩;rw[<-i.l]at j f⊢;have m:IntKind.i64.wrap (Q-U)=Q-U:=by simp[IntKind.wrap,IntKind.bits,IntKind.signed];omega
 unfold MM;go_enter func34,ntmps34;go_wp2_with fail;refine AN (S:=λw'=>w'.cell? ⟨w.heap.size,1,none⟩=some (.int .i64 S)/\w'.cell? ⟨w.heap.size,7,none⟩=some (.int .i64 U)) κ (⟨γ,γ⟩) (λb=>?_);refine V 0 (.pointer (some ⟨w.heap.size,1,none⟩)) rfl b (V 1 (.int .i64 S) rfl b (V 3 (.pointer (some ⟨w.heap.size,7,none⟩)) rfl b (V 4 (.int .i64 U) rfl b ?_)));simp only[J];refine RD 2 rfl (λK d=>?_);refine LC ρ 70 #[.int .i64 S] γ (f.l _) ?_;rintro e o ⟨rfl,rfl⟩;refine⟨_,rfl,?_⟩;refine d.l _ _ b (λ_=>?_);clear d K
 try simp only[J]
 refine V 5 (.int .i64 (Q-U)) rfl b ?_;simp only[J];refine RD 6 rfl (λK d=>?_);go_simp;refine d.l _ _ b (λ_=>?_);clear d K
 try simp only[J]
 refine DN ?_;go_wp2;go_ret;exact⟨rfl,(KW _ _).drew⟩
theorem Hj(W S L T H F R U O:Int)(a:Option Addr)(d:List Pr)(c:Nat)(w:World)(h:Prs w a d)(hc:d.length<=c)(E:d.length<=1048576)(G:∀x∈d,x.1.size<=1048576/\x.2.size<=1048576):Calls prog 57 #[MM W S L T H F R U O a d.length c] w λx w'=>ex w w' x (QG W S L T H F R U O d):=by
 have f:=Z (λw' b=>kz W S L T H F R U O a d c w' b hc E G);have A:=Z h;clear h G;obtain⟨z,r⟩:∃D,Hid (D=QG W S L T H F R U O d):=⟨_,Z rfl⟩;rw[<-r.l];unfold MM at f⊢;go_enter func57,ntmps57;go_upto_region 1 with fail;generalize b:w.alloc _=v1;obtain⟨i,k,l⟩:=LF b;clear b;generalize b:v1.alloc _=I;obtain⟨j,m,e⟩:=LF b;clear b;rw[k]at e;have b:StB w I (sJ W S L T H F R U O (.slice a d.length c)) (λ_=>True):=⟨i.j (j.A i.size),(l.z j).q,e.q,SK (λ_=>trivial)⟩;have n:w.heap.size+1<I.heap.size:=e.q.lt;clear i j l e k m;refine BG ?_;refine AS rfl 33 _ rfl w.heap.size 0 rfl _ _ b.r1.range underlying33 rfl PC ?_;simp only[J];go_wp2_with fail;refine(f.l _ (A.l.z b.e)).A ?_;rintro x t ⟨rfl,e⟩;replace b:=b.z e;have l3:w.heap.size+1<t.heap.size:=b.r2.lt;clear e n f
 cases hok:NE W S L T H F R U O d with
 | false =>
  obtain rfl:z=LD 1:=by rw[r.l];unfold QG;rw[AG (by rw[hok];simp)]
  go_upto_region 2 with fail;refine b.noR 1 _ _ rfl γ rfl rfl rfl rfl (λy p k=>?_)
  try simp only[J]
  clear b
  try go_wp2
  refine VE 2 results57 _ ?_ p ?_ k.l<;>rfl
 | true =>
  obtain rfl:z=⟨0,W,S,L,T,H,F,R,U,0,d,[(true,0,empty)]⟩:=by rw[r.l];unfold QG;rw[AF hok]
  have aT:0<=H/\H<=1/\1<=F/\F<=999999000/\0<=U/\U<=99:=by
   unfold NE RT at hok;simp at hok;have e:=PJ (S:=S) ω;omega
  obtain⟨h0,h1,f0,f1,u0,u1⟩:=aT;have f:=Z (λw'=>om W S L T H F R U O a d.length c w' h0 h1 f0 f1 u0 u1);unfold MM at f;clear hok;go_upto_region 3 with fail;refine BG ?_;refine AS rfl 33 _ rfl w.heap.size 0 rfl _ _ b.r1.range underlying33 rfl PC ?_;simp only[J];go_wp2_with fail;refine(f.l _).A ?_;rintro x v4 ⟨g,rfl,i,e⟩;replace b:=b.z e;have l4:=e.size;clear e f;go_wp2_with fail;refine(nc t.heap.size g _ [] _ _ _ _ _ i l4 σ).A ?_;rintro x v5 ⟨⟨x5,rfl⟩,⟨v',i⟩,e⟩;replace b:=b.low e l3;clear e
  obtain⟨j,f,rfl,aV⟩:∃j f,v'=Value.slice (some ⟨j,0,none⟩) 1 f/\t.heap.size<=j:=by
   rcases MO i.own with ⟨k,e⟩|⟨g,f,k,e,l,m⟩
   ·simp at e
   exact⟨g,f,k,e⟩
  have l:=b.r1.y 8;have e:=b.r1.y 9;have m:=b.r1.E 8;have k:=b.r1.lt;go_wp2_with fail;clear l m e k;replace b:=b.set 8 σ (.int .i64 0);replace i:=i.set w.heap.size 8 ω (.int .i64 0);generalize e:World.setCell _ _ _=u at b i⊢;clear e;have aU:j<u.heap.size:=(i.own.lt j rfl).2;have k:=ZR a d c u (A.l.z b.e) E;unfold LQ at k;refine k.A ?_;rintro x v7 ⟨m,n,rfl,aS,l,s,e⟩;unfold LQ;have q:=PD (lo:=u.heap.size) l RA s;replace b:=b.z e;replace i:=i.z e;clear e k l;have e:=b.r1.y 9;have l:=b.r1.E 9;have k:=b.r1.lt;go_upto_region 7 with fail;clear e l k;replace b:=b.set 9 σ (.slice m d.length n);replace i:=i.set w.heap.size 9 ω (.slice m d.length n);replace q:=q.I (OG (BO v7 (some w.heap.size)) 9 (.slice m d.length n)) (λg e=>by cases e;omega)
  generalize e:World.setCell _ _ _=o at b i q⊢;clear e;have C:=AC o.heap.size o;refine YH (6) (S:=λw'=>Row w' w.heap.size (sJ W S L T H F R U 0 (.slice m d.length n))/\w'.cell? ⟨g,0,none⟩=some (.slice (some ⟨j,0,none⟩) 1 f)) κ (⟨b.r1.z C.drew,(i.z C.drew).row.y 0⟩) (λe=>?_);refine OZ 0 (.agg (sK W S L T H F R U 0 (.slice m d.length n))) rfl (BW ⟨ρ,λw i=>by obtain⟨K,M⟩:=i;exact RK 33 _ rfl _ 0 rfl _ _ K.range underlying33 rfl PC⟩) e (MZ 1 (.pointer (some ⟨g,0,none⟩)) rfl e (MZ 2 (.pointer (some ⟨g,0,none⟩)) rfl e (OZ 3 (.pointer (some ⟨g,0,none⟩)) rfl (BW ⟨ρ,λw i=>by obtain⟨K,M⟩:=i;have l:=DI _ _ M;go_simp⟩) e (MZ 4 (.slice (some ⟨j,0,none⟩) 1 f) rfl e (MZ 5 (.agg (dK 0 W S L T H F R U 0 (.slice m d.length n) (.slice (some ⟨j,0,none⟩) 1 f))) rfl e ?_)))))
  simp only[J];refine RZ (rs:=[6]) κ σ ?_;refine AllReadyT.last rfl (λKq Q=>?_);have B:=b.z (AC o.heap.size o).drew;refine SU rfl 48 _ _ rfl (w.heap.size+1) 0 (dK 0 W S L T H F R U 0 (.slice m d.length n) (.slice (some ⟨j,0,none⟩) 1 f)) rfl rfl (B.r2.there rfl) TH κ ?_;refine Q.l _ _ trivial (λ_=>?_)
  try simp only[J]
  refine XH κ ?_ _;have D:=AC o.heap.size o;have N:=qf i.own
  have X:ac m d.length (some ⟨j,0,none⟩) 1:=Ao s (λg k=>by rw[MS _ _ _ σ]at k;cases k;exact aU)
  obtain⟨p,y⟩:=B.fin ⟨0,W,S,L,T,H,F,R,U,0,d,[(true,0,empty)]⟩ m n (some ⟨j,0,none⟩) f aS ⟨(q.z D.drew).q,.inr ⟨j,rfl,(SA (LR i.own D.drew))⟩,X⟩ (λg k=>by have:=s g k;omega) (λg k=>by rw[MS _ _ _ σ]at k;cases k;omega)
  have k:=Z y;clear y;generalize P:World.setCells _ _ _ _=y at p k⊢;clear P b
  try go_wp2
  refine VE 2 results57 _ ?_ p ?_ k.l N<;>rfl
theorem Hh(x:Wo)(q:Wp)(w:World)(o:x.rs.length<=1048576):Calls prog 91 #[MM x.W x.S x.L x.T x.H x.F x.R x.U x.O q.s x.rs.length q.cs] w λe w'=>e=.returned (.bool (QA x))/\Below w.heap.size w w':=by
 unfold MM
 by_cases c:x.W=0
 rotate_left
 ·have e:QA x=false:=AJ (λa=>c a.1)
  rw[e];go_enter func91,ntmps91;go_wp2;go_ret;exact⟨rfl,MF _ _⟩
 by_cases d:x.S=0
 rotate_left
 ·have e:QA x=false:=AJ (λa=>d a.2.1)
  rw[e];go_enter func91,ntmps91;go_wp2;go_ret;exact⟨rfl,MF _ _⟩
 by_cases f:x.L=0
 rotate_left
 ·have e:QA x=false:=AJ (λa=>f a.2.2.1)
  rw[e];go_enter func91,ntmps91;go_wp2;go_ret;exact⟨rfl,MF _ _⟩
 by_cases b:(x.T=0/\x.H=0/\x.F=0/\x.R=0)
 rotate_left
 ·have e:QA x=false:=AJ (λa=>b a.2.2.2.1)
  rw[e];have h:(Value.agg #[.int .i64 x.T,.int .i64 x.H,.int .i64 x.F,.int .i64 x.R]=Value.agg #[.int .i64 0,.int .i64 0,.int .i64 0,.int .i64 0])=False:=τ
  go_enter func91,ntmps91;go_wp2
  all_goals (go_ret;exact⟨rfl,MF _ _⟩)
 by_cases h:x.U=0
 rotate_left
 ·have e:QA x=false:=AJ (λa=>h a.2.2.2.2.1)
  rw[e];go_enter func91,ntmps91;go_wp2;go_ret;exact⟨rfl,MF _ _⟩
 by_cases i:x.O=0
 rotate_left
 ·have e:QA x=false:=AJ (λa=>i a.2.2.2.2.2.1)
  rw[e];go_enter func91,ntmps91;go_wp2;go_ret;exact⟨rfl,MF _ _⟩
 by_cases j:x.rs.length=0
 rotate_left
 ·have e:QA x=false:=AJ (λa=>j a.2.2.2.2.2.2)
  rw[e];have a:¬(x.rs.length:Int)=0:=ω
  go_enter func91,ntmps91;go_wp2;go_ret;have k:((x.rs.length:Int) == 0)=false:=ET.2 a;exact⟨by show Ending.returned (Value.bool ((x.rs.length:Int) == 0))=_;rw[k],MF _ _⟩
 have e:QA x=true:=AM ⟨c,d,f,b,h,i,j⟩;rw[e];obtain⟨k,l,m,n⟩:=b;have a:(x.rs.length:Int)=0:=ω
 go_enter func91,ntmps91;go_wp2;go_ret;exact⟨rfl,MF _ _⟩
theorem Cq(x:Wo)(q:Wp)(w:World)(o:x.rs.length<=1048576):Calls prog 40 #[MM x.W x.S x.L x.T x.H x.F x.R x.U x.O q.s x.rs.length q.cs] w λe w'=>e=.returned (.bool (QA x))/\Below w.heap.size w w':=by
 unfold MM
 by_cases c:x.W=0
 rotate_left
 ·have e:QA x=false:=AJ (λa=>c a.1)
  rw[e];go_enter func40,ntmps40;go_wp2;go_ret;exact⟨rfl,MF _ _⟩
 by_cases d:x.S=0
 rotate_left
 ·have e:QA x=false:=AJ (λa=>d a.2.1)
  rw[e];go_enter func40,ntmps40;go_wp2;go_ret;exact⟨rfl,MF _ _⟩
 by_cases f:x.L=0
 rotate_left
 ·have e:QA x=false:=AJ (λa=>f a.2.2.1)
  rw[e];go_enter func40,ntmps40;go_wp2;go_ret;exact⟨rfl,MF _ _⟩
 by_cases b:(x.T=0/\x.H=0/\x.F=0/\x.R=0)
 rotate_left
 ·have e:QA x=false:=AJ (λa=>b a.2.2.2.1)
  rw[e];have h:(Value.agg #[.int .i64 x.T,.int .i64 x.H,.int .i64 x.F,.int .i64 x.R]=Value.agg #[.int .i64 0,.int .i64 0,.int .i64 0,.int .i64 0])=False:=τ
  go_enter func40,ntmps40;go_wp2
  all_goals (go_ret;exact⟨rfl,MF _ _⟩)
 by_cases h:x.U=0
 rotate_left
 ·have e:QA x=false:=AJ (λa=>h a.2.2.2.2.1)
  rw[e];go_enter func40,ntmps40;go_wp2;go_ret;exact⟨rfl,MF _ _⟩
 by_cases i:x.O=0
 rotate_left
 ·have e:QA x=false:=AJ (λa=>i a.2.2.2.2.2.1)
  rw[e];go_enter func40,ntmps40;go_wp2;go_ret;exact⟨rfl,MF _ _⟩
 by_cases j:x.rs.length=0
 rotate_left
 ·have e:QA x=false:=AJ (λa=>j a.2.2.2.2.2.2)
  rw[e];have a:¬(x.rs.length:Int)=0:=ω
  go_enter func40,ntmps40;go_wp2;go_ret;have k:((x.rs.length:Int) == 0)=false:=ET.2 a;exact⟨by show Ending.returned (Value.bool ((x.rs.length:Int) == 0))=_;rw[k],MF _ _⟩
 have e:QA x=true:=AM ⟨c,d,f,b,h,i,j⟩;rw[e];obtain⟨k,l,m,n⟩:=b;have a:(x.rs.length:Int)=0:=ω
 go_enter func40,ntmps40;go_wp2;go_ret;exact⟨rfl,MF _ _⟩
