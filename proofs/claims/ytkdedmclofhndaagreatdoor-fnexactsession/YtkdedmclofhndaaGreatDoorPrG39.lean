import Derived.Test.YtkdedmclofhndaaGreatDoorPrG32
set_option maxHeartbeats 16000000
set_option maxRecDepth 8000
set_option linter.all false
namespace Go.Proofs.YtkdedmclofhndaaGreatDoor
open _root_.ByteArray(empty)
open Tryz
open Go.RowKit
variable {aA lf nm wd:Int}{base g:Nat}{v:qD}{w w':xV}
theorem ZK(a:xA)(b:List (yZ×yZ))(c:Nat)(w:xV)(h:Prs w a b)(q:b.length<=1048576):Calls prog 154 #[LR a b.length c] w λe w'=>gp w w' e b:=by
 obtain⟨r,d,f,i,j⟩:=WE ed;have e:=Y (AG d (AG f (AG i j)));clear d f i j
 have l:∀d f,yX w ((w.alloc d).alloc f):=λd f=>(LG _ _).alloc σ _
 go_enter func154,ntmps154;go_wp2_with (at_builtin;refine yt rfl _ _ 35 rfl 122 r _ 2 32 underlying35 e.j.1 e.j.2.1 e.j.2.2.1 e.j.2.2.2 _ rfl (.inl rfl) _ rfl b.length _ (vF (h.I (l _ _)) _ _ underlying35 c) q ω ?_;intro k d j n i aA;have p:j.cell? (yA (w.heap.size+1) 0)=some (yI none 0 0):=NF aA γ;have t:j.frozen? (yA (w.heap.size+1) 0)=false:=RW aA γ;have o:=Y ((l _ _).E (aA.J ξ));have f:=Y (sH (w:=w) i τ);have s:w.heap.size+1<j.heap.size:=AC σ aA.size;clear i aA);refine AE (v:=LR k b.length d) (by simp[results,results154,go_sem,p]) rfl ⟨k,d,rfl,n,?_,λg i=>(f.j.2 g i).1,o.j.setCell (by show w.heap.size<=w.heap.size+1;omega) _⟩;rcases f.j.1 with i|⟨g,rfl,i⟩
 ·exact .inl i
 by_cases m:b.length=0
 ·exact .inl (by rw[AD m];rfl)
 have:=(f.j.2 g (ML _ _ _ m)).2
 exact .inr ⟨g,rfl,i.other _ (by show w.heap.size+1≠g;rw[this];simp<;>omega) _⟩
theorem xh:(prog.info? 136).map (λi=>(i.zero,i.size,i.bytes))=some (some (.agg #[yR false,Z 0,yQ empty]),3,32):=κ
structure Wrt(w:xV)(base g:Nat)(v:qD)(os:List OpT)(at_ nm lf wd:Int):Prop where
 row:Row w g [v,Z at_,Z nm,Z lf,Z wd]
 own:w.ownsRow base 136 3 v os.length (Or os)
 ge:base<=g
 ne:v.ownBlock≠some g
theorem Wrt.I{b:List OpT}(h:Wrt w base g v b aA nm lf wd)(a:yX w w'):Wrt w' base g v b aA nm lf wd:=⟨h.row.I a,LZ h.own a,h.ge,h.ne⟩
theorem YF(b:Bool)(n:Int)(s:yZ):∀u∈[yR b,Z n,yQ s],u.oneCell'=true:=by
 intro u a;simp only[DX,EW,IX]at a;rcases a with rfl|rfl|rfl<;>rfl
theorem zJ(n h:Int)(i:0<=h)(j:h<=1)(w:xV):Calls prog 167 #[Z n,Z h] w λe w'=>e=yT (Z (2+h*hv n))/\w'=w:=by
 have c:0<=hv n/\hv n<=99:=by by_cases h:8<=n/\n<=200;have:=PG h;omega;rw[YH h];omega
 obtain⟨Q,b⟩:∃Q,Hid (Q=hv n):=⟨_,Y rfl⟩;rw[<-b.j]at c⊢;obtain⟨q,a⟩:∃q,q=h*Q:=⟨_,rfl⟩
 have aA:0<=q/\q<=99:=by
  rcases(show h=0\/h=1 by omega) with e|e
  ·subst e;omega
  subst e;omega
 have d:IntKind.i64.wrap (h*Q)=q:=by rw[<-a];simp[IntKind.wrap,IntKind.bits,IntKind.signed];omega
 have f:IntKind.i64.wrap (2+q)=2+q:=by simp[IntKind.wrap,IntKind.bits,IntKind.signed];omega
 rw[<-a];clear a;go_enter func167,ntmps167;go_wp2_with (go_at_call 78;refine(aa _ _).J ?_;rw[<-b.j];refine NE ?_);go_ret;exact⟨rfl,rfl⟩
theorem ph(W S L T H F R U O:Int)(a:xA)(n c:Nat)(w:xV)(k:0<=H)(l:H<=1)(r:1<=F)(s:F<=999999000)(u0:0<=U)(u1:U<=99):Calls prog 205 #[MI W S L T H F R U O a n c] w λe w'=>∃g,e=yT (zW g 0)/\Wrt w' w.heap.size g (yI none 0 0) [] (2+H*hv S+U) (F+U) L W/\yX w w':=by
 have t:0<=hv S/\hv S<=99:=by by_cases h:8<=S/\S<=200;have:=PG h;omega;rw[YH h];omega
 obtain⟨q,b⟩:∃q,q=H*hv S:=⟨_,rfl⟩
 have m:0<=q/\q<=99:=by
  rcases(show H=0\/H=1 by omega) with e|e
  ·subst e;omega
  subst e;omega
 have i:=Y (λw'=>zJ S H k l w');rw[<-b]at i⊢;clear b;have o:IntKind.i64.wrap (2+q+U)=2+q+U:=by simp[IntKind.wrap,IntKind.bits,IntKind.signed];omega
 have p:IntKind.i64.wrap (F+U)=F+U:=by simp[IntKind.wrap,IntKind.bits,IntKind.signed];omega
 unfold MI;obtain⟨b,f⟩:∃b,b=w.alloc (.cells (sK W S L T H F R U O (yI a n c)) 39):=⟨_,rfl⟩
 have j:Hid (∀w',yX b w'->w'.cell? (yA w.heap.size 0)=some (Z W)/\w'.cell? (yA w.heap.size 1)=some (Z S)/\w'.cell? (yA w.heap.size 2)=some (Z L)/\w'.cell? (yA w.heap.size 4)=some (Z H)/\w'.cell? (yA w.heap.size 5)=some (Z F)/\w'.cell? (yA w.heap.size 7)=some (Z U)):=λw' d=>by
  have aA:w.heap.size<b.heap.size:=by rw[f];simp
  refine⟨(d.cell (p:=(yA w.heap.size 0)) aA).E ?_,(d.cell (p:=(yA w.heap.size 1)) aA).E ?_,(d.cell (p:=(yA w.heap.size 2)) aA).E ?_,(d.cell (p:=(yA w.heap.size 4)) aA).E ?_,(d.cell (p:=(yA w.heap.size 5)) aA).E ?_,(d.cell (p:=(yA w.heap.size 7)) aA).E ?_⟩<;>(rw[f];go_simp)
 have d:Hid (yX w b):=by show Below _ _ _;rw[f];exact LG _ _
 go_enter func205,ntmps205;go_wp2_with fail;rw[<-f];clear f
 go_region_held3 (λw'=>w'.cell? (yA w.heap.size 0)=some (Z W)/\w'.cell? (yA w.heap.size 1)=some (Z S)/\w'.cell? (yA w.heap.size 2)=some (Z L)/\w'.cell? (yA w.heap.size 4)=some (Z H)/\w'.cell? (yA w.heap.size 5)=some (Z F)/\w'.cell? (yA w.heap.size 7)=some (Z U))
  (first|assumption|exact j.j _ ((AB _ _).drew)|exact j.j _ ((AB _ _).drew.alloc (AA _) _))
  (first|(go_at_call 167;refine(i.j _).J ?_;rintro e f ⟨rfl,rfl⟩))
 all_goals
  go_wp2;go_ret;refine⟨b.heap.size,rfl,⟨dq (w:=b.drew) rfl,BT _ _ _ _,d.j.size,by simp[Value.ownBlock]⟩,d.j.E (((AB _ _).drew.alloc (AA _) _).J d.j.size)⟩
theorem ni(base g:Nat)(v:qD)(a:List OpT)(n nm lf wd:Int)(w:xV)(h:Wrt w base g v a n nm lf wd)(u:base<=w.heap.size)(z:a.length<=1000):Calls prog 207 #[zW g 0] w λe w'=>(∃x,e=yT x)/\(∃b,Wrt w' base g b (a++[(true,0,empty)]) n nm lf wd)/\Below base w w':=by
 obtain⟨A,b,c,d,f⟩:=WE xh;have r:=Y (AG b (AG c (AG d f)));clear b c d f
 obtain⟨o,p,rfl⟩:∃o p,v=yI o a.length p:=by
  rcases MC h.own with ⟨c,f⟩|⟨g,b,c,_⟩
  ·exact⟨none,0,by rw[c,f]⟩
  exact⟨_,b,c⟩
 have C:=h.row.y 0;have E:=h.row.A 0;have B:=h.row.lt;have m:=Y (h.own.alloc (.cells #[yR true,Z 0,yQ ⟨#[]⟩] 136));go_enter func207,ntmps207;go_wp2_with (at_builtin;refine QS _ rfl _ _ 100 rfl base underlying100 r.j rfl ω _ a.length _ rfl m.j (yA w.heap.size 0) 1 1 [yR true,Z 0,yQ ⟨#[]⟩] rfl rfl (World.news_of_block (AU w _)) (YF _ _ _) τ (w.heap.size+1) σ ?_;intro b c q i aA j y;have d:=Y ((h.row.alloc _).V aA (λe=>h.ne e.symm));have D:=d.j.y 0;have F:=d.j.A 0;have t:=Y i;have s:=Y (RU ((AB base w).alloc u _) m.j aA τ);have k:b≠g:=(by rcases j with e|e;exactλf=>h.ne (by rw[<-f];exact e);omega);have l:=Y k;clear i aA j k);go_end0;have i:=d.j.set 0 σ (yI (zY b 0) (a.length+1) c)
 refine⟨⟨_,rfl⟩,⟨yI (zY b 0) (a.length+1) c,i,?_,h.ge,by simp[Value.ownBlock];exact l.j⟩,s.j.setCell (p:=(yA g 0)) h.ge _⟩;have j:q.grownBy (q.setCell (yA g 0) (yI (zY b 0) (a.length+1) c)) (some g):=⟨rfl,rfl,rfl,by simp[World.setCell],λk _ x=>BM _ _ _ k (λe=>x (by rw[e]))⟩;have:=t.j.kept j (.inr (by simp[Value.ownBlock];exact l.j));rw[AK,O8];exact this
theorem Wrt.set{c:List OpT}(h:Wrt w base g v c aA nm lf wd)(b o:Nat)(f:b<base)(u:qD):Wrt (w.setCell (yA b o) u) base g v c aA nm lf wd:=by
 have d:w.grownBy (w.setCell (yA b o) u) (some b):=⟨rfl,rfl,rfl,by simp[World.setCell],λk _ a=>BM _ _ _ k (λe=>a (by rw[e]))⟩;refine⟨h.row.other _ (by show b≠g;have:=h.ge;omega) _,h.own.kept d ?_,h.ge,h.ne⟩
 cases a:v.ownBlock with
 | none=>exact .inl rfl
 | some k =>
  refine .inr λe=>?_
  cases e
  have:=(h.own.lt b a).1;omega
theorem ji{W d:xV}{c aA:Nat}{f:xA}{i:Nat}{a:List OpT}{x:OpT}{j:Int}{o:Obj}(h:Wrt w base g (yI f a.length i) a j nm lf wd)(A:base<=w.heap.size)(z:Below base W w)
  (r:d.ownsRow base 136 3 (yI (zY c 0) (a.length+1) aA) (a.length+1) (Or a++[yR x.1,Z x.2.1,yQ x.2.2]))(p:(w.alloc o).grownBy d (yI f a.length i).ownBlock)
  (u:(yI f a.length i).ownBlock=some c\/c=w.heap.size+1):Row d g [yI f a.length i,Z j,Z nm,Z lf,Z wd]/\Wrt (d.setCell (yA g 0) (yI (zY c 0) (a.length+1) aA)) base g (yI (zY c 0) (a.length+1) aA) (a++[x]) j nm lf wd/\Below base W d/\Below base W (d.setCell (yA g 0) (yI (zY c 0) (a.length+1) aA)):=by
 have q:=(h.row.alloc o).V p (λe=>h.ne e.symm);have B:=h.row.lt
 have l:c≠g:=by
  rcases u with e|e
  ·exactλb=>h.ne (by rw[<-b];exact e)
  omega
 have m:=RU (z.alloc A _) (h.own.alloc o) p τ;have t:=q.set 0 σ (yI (zY c 0) (a.length+1) aA);refine⟨q,⟨t,?_,h.ge,by simp[Value.ownBlock];exact l⟩,m,m.setCell (p:=(yA g 0)) h.ge _⟩;have y:d.grownBy (d.setCell (yA g 0) (yI (zY c 0) (a.length+1) aA)) (some g):=⟨rfl,rfl,rfl,by simp[World.setCell],λk _ b=>BM _ _ _ k (λe=>b (by rw[e]))⟩;have:=r.kept y (.inr (by simp[Value.ownBlock];exact l));obtain⟨b,n,s⟩:=x;rw[AK,O8];exact this
theorem Wrt.sl{c:List OpT}(h:Wrt w base g v c aA nm lf wd):∃a b,v=yI a c.length b:=by
 rcases MC h.own with ⟨b,d⟩|⟨g,a,b,_⟩
 ·exact⟨none,0,by rw[b,d]⟩
 exact⟨_,a,b⟩
theorem Wrt.count{b:List OpT}{x y:Int}(h:Wrt w base g v b aA nm lf wd):Wrt ((w.setCell (yA g 1) (Z x)).setCell (yA g 2) (Z y)) base g v b x y lf wd:=by
 refine⟨(h.row.set 1 σ (Z x)).set 2 σ (Z y),?_,h.ge,h.ne⟩;have c:w.grownBy ((w.setCell (yA g 1) (Z x)).setCell (yA g 2) (Z y)) (some g):=⟨rfl,rfl,rfl,by simp[World.setCell],λk _ a=>(BM _ _ _ k (λe=>a (by rw[e]))).E (BM _ _ _ k (λe=>a (by rw[e])))⟩;exact h.own.kept c (.inr h.ne)
structure WK(g:Nat)(w:xV)(v:qD)(w':xV)(v':qD):Prop where
 size:w.heap.size<=w'.heap.size
 own:∀k,v'.ownBlock=some k->v.ownBlock=some k\/w.heap.size<=k
 blk:∀b,b<w.heap.size->b≠g->some b≠v.ownBlock->w'.heap[b]?=w.heap[b]?
theorem WK.start(g:Nat)(w:xV)(v:qD):WK g w v w v:=⟨AA _,λ_ h=>.inl h,λ_ _ _ _=>rfl⟩
theorem WK.E{l m:xV}{f i:qD}(h:WK g w v l f)(k:WK g l f m i):WK g w v m i :=⟨AJ h.size k.size,λj n=>(k.own j n).elim (h.own j) (λe=>.inr (AJ h.size e)),λb d a c=>(k.blk b (AC d h.size) a (λe=>(h.own b e.symm).elim (λe=>c e.symm) (λe=>ω))).E (h.blk b d a c)⟩
theorem WK.I{c d:xV}{a:qD}(h:WK g w v c a)(k:yX c d):WK g w v d a:=h.E ⟨k.size,λ_ h=>.inl h,λb e _ _=>k.block b e⟩
theorem Row.wk{k:Nat}{j:qD}{a:List qD}(h:Row w k a)(b:WK g w v w' j)(c:k≠g)(d:some k≠v.ownBlock):Row w' k a:=by
 have e:=b.blk k h.lt c d;refine⟨AC h.lt b.size,λi v hv=>(?_:w'.cell? (yA k i)=some v),λi f=>?_⟩
 ·rw[<-h.cell i v hv];simp[World.cell?,e]
 rw[<-h.froz i f];simp[World.frozen?,e]
theorem xF{c:xV}{r:Option Nat}{o:Obj}{u x y:qD}(h:(w.alloc o).grownBy c r):∀b,b<w.heap.size->b≠g->some b≠r->(((c.setCell (yA g 0) u).setCell (yA g 1) x).setCell (yA g 2) y).heap[b]?=w.heap[b]?:=λb f a d=>by
 rw[BM _ _ _ b (λe=>a (by rw[e])),BM _ _ _ b (λe=>a (by rw[e])),BM _ _ _ b (λe=>a (by rw[e])),h.block b τ d];exact((AB w.heap.size w).alloc (AA _) o).block b f
theorem oR(base g:Nat)(v:qD)(c:List OpT)(b nm lf wd:Int)(f:yZ)(w:xV)(h:Wrt w base g v c b nm lf wd)(M:base<=w.heap.size)(S:c.length<=1000)(N:0<=b)(O:b<=100000)(P:0<=nm)(Q:nm<=2000000000):Calls prog 254 #[zW g 0,yQ f] w λe w'=>(∃x,e=yT x)/\∃a,Wrt w' base g a (c++[(false,b,f)]) (b+1) (nm+1) lf wd/\Below base w w'/\WK g w v w' a:=by
 obtain⟨T,a,d,e,i⟩:=WE xh;have I:=Y (AG a (AG d (AG e i)));clear a d e i;obtain⟨r,s,rfl⟩:=h.sl;have V:w.drew.cell? (yA g 0)=some (yI r c.length s):=h.row.drew.y 0;have W:(w.drew.alloc (.cells #[yR false,Z b,yQ f] 136)).cell? (yA g 0)=some (yI r c.length s):=(h.row.drew.alloc _).y 0;have R:w.cell? (yA g 0)=some (yI r c.length s):=h.row.y 0;have U:=h.row.lt;have J:=Y h;have L:=Y (LZ h.own ((AB _ _).drew.alloc (AA _) (.cells #[yR false,Z b,yQ f] 136)));have E:Hid ((w.drew.alloc (.cells #[yR false,Z b,yQ f] 136)).cell? (yA g 1)=some (Z b)/\g<(w.drew.alloc (.cells #[yR false,Z b,yQ f] 136)).heap.size):=⟨(h.row.drew.alloc _).y 1,(h.row.drew.alloc _).lt⟩;go_enter func254,ntmps254;go_wp2_with fail
 refine AN (S:=λw'=>w'.cell? (yA g 1)=some (Z b)/\g<w'.heap.size) κ (⟨h.row.drew.y 1,h.row.drew.lt⟩) (λd=>?_);refine TY 0 (zW g 0) rfl d (TY 1 (zW g 0) rfl d (TY 2 (zW g 0) rfl d (TY 3 (zW g 0) rfl d (TY 5 (zW g 0) rfl d (TY 6 (zW g 0) rfl d (TY 7 (zW g 1) rfl d (TY 8 (Z b) rfl d (TY 9 (yQ f) rfl d (TY 10 (.agg #[yR false,Z b,yQ f]) rfl d ?_)))))))));simp only[PS];refine ET (rs:=[4,11]) κ σ ?_;refine DC rfl (λK a=>?_) (DC rfl (λK a=>?_) EP)
 focus
  go_simp;refine a.j _ _ d (λ_=>?_);clear a K
  try simp only[PS]
  refine RD 11 rfl (λK a=>?_);go_simp;refine a.j _ _ (E.j) (λd=>?_)
 rotate_left
 focus
  go_simp;refine a.j _ _ (E.j) (λd=>?_);clear a K
  try simp only[PS]
  refine RD 4 rfl (λK a=>?_);go_simp;refine a.j _ _ d (λ_=>?_)
 rotate_left
 all_goals
  clear a K
  try simp only[PS]
  refine RD 12 rfl (λK a=>?_);refine RP _ ρ _ _ _ ρ base underlying100 I.j rfl ω (yI r c.length s) c.length _ ρ L.j (yA w.heap.size 0) 1 1 [yR false,Z b,yQ f] ρ rfl (World.news_of_block (AU w.drew _)) (YF _ _ _) ξ (w.heap.size+1) σ ?_;intro e j H t p q d;have i:=ji (x:=(false,b,f)) J.j M (AB _ _) t (cq p) q;have aA:=Y i;have F:=i.1.y 0;have m:=i.1.y 1;have G:=i.1.A 0;have l:=i.1.lt;have D:=Y (cq p);have C:=Y q
 ·clear t p q i
  refine a.j _ _ (⟨m,l⟩) (λd=>?_);clear a K
  try simp only[PS]
  refine TY 13 (zW g 0) rfl d (TY 14 (zW g 0) rfl d ?_);simp only[PS];refine RD 15 rfl (λK a=>?_);go_simp;refine a.j _ _ (⟨γ,by simpa[World.setCell] using l⟩) (λd=>?_);clear a K
  try simp only[PS]
  refine DN ?_;have d:=aA.j.2.1.row.y 1;have B:=aA.j.2.1.row.y 2;have z:=aA.j.2.1.row.A 1;have A:=aA.j.2.1.row.A 2;have u:=aA.j.2.1.row.lt;clear F m G l;have l:=Y (λx y=>xF (g:=g) (u:=yI (zY e 0) (c.length+1) j) (x:=x) (y:=y) D.j);obtain⟨o,m⟩:∃o,o=H.setCell (yA g 0) (yI (zY e 0) (c.length+1) j):=⟨_,rfl⟩;rw[<-m]at d B z A aA l u⊢;clear m;go_wp2;go_end0;refine⟨⟨_,rfl⟩,yI (zY e 0) (c.length+1) j,aA.j.2.1.count,(aA.j.2.2.2.setCell (p:=(yA g 1)) h.ge _).setCell (p:=(yA g 2)) h.ge _,((aA.j.2.2.2.setCell (p:=(yA g 1)) h.ge _).setCell (p:=(yA g 2)) h.ge _).size,λk n=>?_,l.j _ _⟩;have:k=e:=by simp[Value.ownBlock]at n;exact n.symm
  subst this;rcases C.j with d|d
  ·exact .inl d
  right;omega
 clear t p q i
 refine a.j _ _ (⟨m,l⟩) (λd=>?_);clear a K
 try simp only[PS]
 refine TY 13 (zW g 0) rfl d (TY 14 (zW g 0) rfl d ?_);simp only[PS];refine RD 15 rfl (λK a=>?_);go_simp;refine a.j _ _ (⟨γ,by simpa[World.setCell] using l⟩) (λd=>?_);clear a K
 try simp only[PS]
 refine DN ?_;have d:=aA.j.2.1.row.y 1;have B:=aA.j.2.1.row.y 2;have z:=aA.j.2.1.row.A 1;have A:=aA.j.2.1.row.A 2;have u:=aA.j.2.1.row.lt;clear F m G l;have l:=Y (λx y=>xF (g:=g) (u:=yI (zY e 0) (c.length+1) j) (x:=x) (y:=y) D.j);obtain⟨o,m⟩:∃o,o=H.setCell (yA g 0) (yI (zY e 0) (c.length+1) j):=⟨_,rfl⟩;rw[<-m]at d B z A aA l u⊢;clear m;go_wp2;go_end0;refine⟨⟨_,rfl⟩,yI (zY e 0) (c.length+1) j,aA.j.2.1.count,(aA.j.2.2.2.setCell (p:=(yA g 1)) h.ge _).setCell (p:=(yA g 2)) h.ge _,((aA.j.2.2.2.setCell (p:=(yA g 1)) h.ge _).setCell (p:=(yA g 2)) h.ge _).size,λk n=>?_,l.j _ _⟩;have:k=e:=by simp[Value.ownBlock]at n;exact n.symm
 subst this;rcases C.j with d|d
 ·exact .inl d
 right;omega
theorem pG(base g:Nat)(v:qD)(i:List OpT)(c nm lf wd:Int)(w:xV)(h:Wrt w base g v i c nm lf wd)(f:base<=w.heap.size)(u:i.length<=1000)(o:0<=c)(p:c<=100000)(s:0<=nm)(t:nm<=2000000000):Calls prog 229 #[zW g 0] w λe w'=>(∃x,e=yT x)/\∃j,Wrt w' base g j (i++[(false,c,MJ 3 lf nm empty wd)]) (c+1) (nm+1) lf wd/\Below base w w'/\WK g w v w' j:=by
 have z:=h.row.y 2;have y:=h.row.lt;go_enter func229,ntmps229;go_wp2_with fail;refine AN (S:=λw'=>w'.cell? (yA g 3)=some (Z lf)/\w'.cell? (yA g 4)=some (Z wd)) κ (⟨h.row.drew.y 3,h.row.drew.y 4⟩) (λaA=>?_);refine TY 0 (zW g 0) rfl aA (TY 1 (zW g 0) rfl aA (TY 2 (zW g 0) rfl aA (TY 3 (zW g 3) rfl aA (TY 4 (Z lf) rfl aA (TY 5 (zW g 0) rfl aA (TY 6 (zW g 0) rfl aA (TY 7 (zW g 2) rfl aA (TY 10 (zW g 0) rfl aA (TY 11 (zW g 0) rfl aA (TY 12 (zW g 4) rfl aA (TY 13 (Z wd) rfl aA ?_)))))))))));simp only[PS];refine RD 8 rfl (λK a=>?_);go_simp;refine a.j _ _ aA (λ_=>?_);clear a K
 try simp only[PS]
 refine TY 9 (.agg #[Z 3,Z lf,Z nm,yQ ⟨#[]⟩]) rfl aA ?_;simp only[PS];refine RD 14 rfl (λK a=>?_);refine LI ρ 276 #[ND 3 lf nm ⟨#[]⟩,Z wd] γ (fe 3 lf nm empty wd _ σ) ?_;rintro e m ⟨rfl,q⟩;refine⟨_,rfl,?_⟩;have d:yX w m:=(AB _ _).drew.E q;have k:=h.I d;refine a.j _ _ (⟨k.row.y 3,k.row.y 4⟩) (λb=>?_);clear a K
 try simp only[PS]
 refine RD 15 rfl (λK a=>?_);refine LI ρ 254 #[zW g 0,yQ (MJ 3 lf nm empty wd)] γ (oR base g v i c nm lf wd _ _ k (AJ f d.size) u o p s t) ?_;rintro e A ⟨⟨x,rfl⟩,j,l,r,n⟩;refine⟨_,rfl,?_⟩;refine a.j _ _ (⟨l.row.y 3,l.row.y 4⟩) (λb=>?_);clear a K
 try simp only[PS]
 refine DN ?_;go_end0;exact⟨⟨_,rfl⟩,j,l,(d.J f).E r,(⟨d.size,λ_ h=>.inl h,λb f _ _=>d.block b f⟩:WK g w v m v).E n⟩
theorem tB(T H F R S L:Int)(w:xV)(u:0<=T)(o:T<=1000000000)(s:0<=H)(n:H<=1)(hF:0<=F)(m:F<=999999000):Calls prog 225 #[NI T H F R,Z S,Z L] w λe w'=>e=yT (NI (T+1) (1-H) (F+hv S) L)/\yX w w':=by
 have j:0<=hv S/\hv S<=99:=by by_cases h:8<=S/\S<=200;have:=PG h;omega;rw[YH h];omega
 have c:=Y (λw'=>aa S w');obtain⟨Q,d⟩:∃Q,Hid (Q=hv S):=⟨_,Y rfl⟩;rw[<-d.j]at j c⊢;have p:IntKind.i64.wrap (T+1)=T+1:=by simp[IntKind.wrap,IntKind.bits,IntKind.signed];omega
 have q:IntKind.i64.wrap (1-H)=1-H:=by simp[IntKind.wrap,IntKind.bits,IntKind.signed];omega
 have r:IntKind.i64.wrap (F+Q)=F+Q:=by simp[IntKind.wrap,IntKind.bits,IntKind.signed];omega
 have f:∀ {i:Array qD} {b:Array qD} {t k:TypeId},yX w ((w.alloc (.cells i t)).alloc (.cells b k)):=(LG _ _).alloc σ _;go_enter func225,ntmps225;go_wp2_with fail;refine AN (S:=λw'=>w'.cell? (yA w.heap.size 0)=some (Z T)/\w'.cell? (yA w.heap.size 1)=some (Z H)/\w'.cell? (yA w.heap.size 2)=some (Z F)) κ (⟨γ,γ,γ⟩) (λaA=>?_);refine TY 0 (zW w.heap.size 0) rfl aA (TY 1 (Z T) rfl aA (TY 2 (Z (T+1)) rfl aA (TY 3 (zW w.heap.size 1) rfl aA (TY 4 (Z H) rfl aA (TY 5 (Z (1-H)) rfl aA (TY 6 (zW w.heap.size 2) rfl aA (TY 7 (Z F) rfl aA (TY 8 (Z S) rfl aA (TY 11 (Z L) rfl aA ?_)))))))));simp only[PS];refine RD 9 rfl (λK a=>?_);refine LI ρ 78 #[Z S] γ (c.j _) ?_
 rintro e x ⟨rfl,rfl⟩;refine⟨_,rfl,?_⟩;refine a.j _ _ aA (λ_=>?_);clear a K
 try simp only[PS]
 refine TY 10 (Z (F+Q)) rfl aA (TY 12 (.agg #[Z (T+1),Z (1-H),Z (F+Q),Z L]) rfl aA ?_);simp only[PS];refine RD 13 rfl (λK a=>?_);go_simp;refine a.j _ _ (⟨γ,γ,γ⟩) (λl=>?_);clear a K
 try simp only[PS]
 refine DN ?_;go_wp2;refine AE (v:=NI (T+1) (1-H) (F+Q) L) (by simp[results,results225,go_sem]) rfl ⟨rfl,?_⟩;exact f.drew
theorem wJ(base g:Nat)(v:qD)(f:List OpT)(c nm lf:Int)(n m:Nat)(aA:yZ)(w:xV)(h:Wrt w base g v f c nm lf (n:Int))(s:base<=w.heap.size)(ht:aA.size<=100000)(Q:f.length+(OC aA lf nm n m).length<=1000)(R:n+m=56)(I:1<=n)(J:n<=8)(X:0<=c)(bR:c<=10000)(bY:0<=nm)(bZ:nm<=1900000000):Calls prog 206 #[zW g 0,yQ aA] w λe w'=>(∃x,e=yT x)/\∃d,Wrt w' base g d (f++MM c (OC aA lf nm n m)) (c+((OC aA lf nm n m).length:Int)) (nm+((OC aA lf nm n m).length:Int)) lf (n:Int)/\Below base w w'/\WK g w v w' d:=by
 have u:=Y (λW=>Nx aA lf nm n m W ω R I J ω ω);obtain⟨a,hcut⟩:∃a,a=OC aA lf nm n m:=⟨_,rfl⟩;rw[<-hcut]at u Q⊢;clear hcut;go_enter func206,ntmps206;go_wp2_with fail;refine AN (S:=λw'=>w'.cell? (yA g 2)=some (Z nm)/\w'.cell? (yA g 3)=some (Z lf)/\w'.cell? (yA g 4)=some (Z (n:Int))) κ (⟨h.row.drew.y 2,h.row.drew.y 3,h.row.drew.y 4⟩) (λb=>?_);refine TY 0 (yQ aA) rfl b (TY 1 (zW g 0) rfl b (TY 2 (zW g 0) rfl b (TY 3 (zW g 3) rfl b (TY 4 (Z lf) rfl b (TY 5 (zW g 0) rfl b (TY 6 (zW g 0) rfl b (TY 7 (zW g 2) rfl b (TY 8 (Z nm) rfl b (TY 9 (zW g 0) rfl b (TY 10 (zW g 0) rfl b (TY 11 (zW g 4) rfl b ?_)))))))))))
 simp only[PS];refine TY 12 (Z (n:Int)) rfl b (TY 15 (Z 0) rfl b ?_);simp only[PS];refine RD 13 rfl (λK q=>?_);refine LI ρ 253 #[yQ aA,Z lf,Z nm,Z (n:Int)] γ (u.j _) ?_;rintro e t ⟨T,c4,rfl,p,o,l⟩;refine⟨_,rfl,?_⟩;have j:yX w t:=(AB _ _).drew.E l;have i:=h.I j;refine q.j _ _ (⟨i.row.y 2,i.row.y 3,i.row.y 4⟩) (λk=>?_);clear q K
 try simp only[PS]
 refine TY 14 (Z (a.length:Int)) rfl k ?_;simp only[PS];refine DN ?_;have C:=Y p;have B:=Y o;have E:=Y i;have y:=Y j;have L:=j.size;clear p o i j l b k;go_wp2_with fail;go_loopw [21] (λi wr=>∃j:Nat,j<=a.length/\i=Z (j:Int)/\∃d,Wrt wr base g d (f++MM c (a.take j)) (c+(j:Int)) (nm+(j:Int)) lf (n:Int)/\Below base w wr/\WK g t v wr d) (λi _=>a.length-(intOf i).toNat)
 case atStart =>
  refine⟨0,AL _,rfl,v,?_,y.j.J s,WK.start _ _ _⟩;rw[FV,Nl,FQ];simpa using E.j
 case round =>
  obtain⟨j,hj,rfl,d,k,p,i⟩:=hrel
  by_cases l:j<a.length
  ·have cC:=i.size
   obtain⟨r,rfl,K⟩:=C.j.resolve_left (by intro e;have:=BC List.length e;simp at this;rw[this]at l;simp at l);have W:w.heap.size<=r:=B.j r (ML _ _ _ ω);have bU:=h.row.lt;have o:=K.wk i ω (λe=>by have:=(h.own.lt r e.symm).2;omega);have H:=o.cell j (yQ (a.getD j empty)) (by simp[l,List.getD]);obtain⟨b,q⟩:∃b,b=a.getD j empty:=⟨_,rfl⟩;rw[<-q]at H;have U:=o.lt;have V:(j:Int)<(a.length:Int):=ω
   have bW:(0:Int)<=(j:Int):=ω
   have N:base<=wr.heap.size:=ω
   have z:=Y (oR base g d (f++MM c (a.take j)) (c+(j:Int)) (nm+(j:Int)) lf (n:Int) b wr k N (by simp[QZ];omega) ω ω ω ω);have A:=Y p;have D:=Y q;have bV:=k.row.lt;have F:=Y i;clear k p o i q;go_wp2_with (go_at_call 254;refine z.j.J ?_;rintro e w5 ⟨⟨x,rfl⟩,S,G,o,q⟩);have cA:=o.size;have M:f++MM c (a.take (j+1))=f++MM c (a.take j)++[(false,c+(j:Int),b)]:=by rw[ZR a j empty l,zy,<-D.j,BV,AX,show min j a.length=j by omega]
   refine⟨⟨j+1,ω,ν,S,?_,A.j.E o,F.j.E q⟩,by simp[intOf];omega⟩;rw[M];have O:c+((j+1:Nat):Int)=c+(j:Int)+1:=ω
   have P:nm+((j+1:Nat):Int)=nm+(j:Int)+1:=ω
   rw[O,P];exact G
  have o:j=a.length:=ω
  subst o;go_wp2_with fail;go_end0;rw[DF]at k;exact⟨⟨_,rfl⟩,d,k,p,(⟨L,λ_ h=>.inl h,λb s _ _=>y.j.block b s⟩:WK g w v t v).E i⟩
theorem nU(t h f l:Int)(a:0<=t)(w:xV):Calls prog 269 #[NI t h f l] w λe w'=>e=yT (Z (t % 2))/\yX w w':=by
 go_enter func269,ntmps269;go_wp2;go_ret;exact⟨rfl,LG _ _⟩
theorem Eq(base g:Nat)(v:qD)(o:List OpT)(W nm lf wd t p f l:Int)(w:xV)(h:Wrt w base g v o W nm lf wd)(L:base<=w.heap.size)(hl:o.length<=1000)(ht:0<=t):Calls prog 228 #[zW g 0,NI t p f l] w λe w'=>(∃x,e=yT x)/\(∃a,Wrt w' base g a (o++[(false,t % 2,OS t p f l wd)]) W nm lf wd)/\Below base w w':=by
 obtain⟨i0,a,b,c,d⟩:=WE xh;have I:=Y (AG a (AG b (AG c d)));clear a b c d;obtain⟨M,N,rfl⟩:=h.sl;have J:=Y (λw'=>wM t p f l wd w');obtain⟨j,a⟩:∃j,j=OS t p f l wd:=⟨_,rfl⟩;rw[<-a]at J⊢;clear a;have lg:=h.row.lt;obtain⟨x,a⟩:∃x,x=w.alloc (.cells #[Z t,Z p,Z f,Z l] 34):=⟨_,rfl⟩;have H:yX w x:=by rw[a];exact LG _ _
 have cP:x.heap.size=w.heap.size+1:=by rw[a];simp
 have A:Row x w.heap.size [Z t,Z p,Z f,Z l]:=by rw[a];exact LS w _ _
 have C:=h.I H;have cQ:=C.row.y 0;go_enter func228,ntmps228;go_wp2_with fail;rw[<-a];clear a;refine AN (S:=λw'=>w'.cell? (yA w.heap.size 0)=some (Z t)/\w'.cell? (yA w.heap.size 1)=some (Z p)/\w'.cell? (yA w.heap.size 2)=some (Z f)/\w'.cell? (yA w.heap.size 3)=some (Z l)/\w'.cell? (yA g 4)=some (Z wd)) κ (⟨A.drew.y 0,A.drew.y 1,A.drew.y 2,A.drew.y 3,C.row.drew.y 4⟩) (λb=>?_);refine TY 0 (zW g 0) rfl b (TY 1 (zW g 0) rfl b (TY 2 (zW g 0) rfl b (TY 3 (zW g 0) rfl b (TY 5 (.agg #[Z t,Z p,Z f,Z l]) rfl b (TY 7 (.agg #[Z t,Z p,Z f,Z l]) rfl b (TY 8 (zW g 0) rfl b (TY 9 (zW g 0) rfl b (TY 10 (zW g 4) rfl b (TY 11 (Z wd) rfl b ?_)))))))))
 simp only[PS];refine ET (rs:=[4,6]) κ σ ?_;refine DC rfl (λK a=>?_) (DC rfl (λK a=>?_) EP)
 focus
  go_simp;refine a.j _ _ b (λ_=>?_);clear a K
  try simp only[PS]
  refine RD 6 rfl (λK a=>?_);refine LI ρ _ _ γ (nU t p f l ht _) ?_;rintro e U ⟨rfl,Q⟩;refine⟨_,rfl,?_⟩;have s:yX x U:=(AB _ _).drew.E Q;have F:=C.I s;have z:=A.I s;have cO:=F.row.y 0;refine a.j _ _ (⟨z.y 0,z.y 1,z.y 2,z.y 3,F.row.y 4⟩) (λb=>?_);clear a K
  try simp only[PS]
  refine RD 12 rfl (λK a=>?_);refine LI ρ 275 #[NI t p f l,Z wd] γ (J.j _) ?_;rintro e n ⟨rfl,G⟩;refine⟨_,rfl,?_⟩;have i:yX x n:=s.E (G.J s.size);have k:=C.I i;have m:=A.I i;have cJ:=k.row.y 0;have X:=k.row.lt;have u:=k.I ((AB _ _).alloc (AA _) (.cells #[yR false,Z (t % 2),yQ j] 136));have d:=m.alloc (.cells #[yR false,Z (t % 2),yQ j] 136);refine a.j _ _ (⟨m.y 0,m.y 1,m.y 2,m.y 3,k.row.y 4⟩) (λb=>?_);clear a K
  try simp only[PS]
  refine TY 13 (.agg #[yR false,Z (t % 2),yQ j]) rfl b ?_;simp only[PS];refine RD 14 rfl (λK a=>?_);go_simp;refine a.j _ _ (⟨d.y 0,d.y 1,d.y 2,d.y 3,u.row.y 4⟩) (λb=>?_);clear a K
  try simp only[PS]
  refine RD 15 rfl (λK a=>?_);refine RP _ ρ _ _ _ ρ base underlying100 I.j rfl ω (yI M o.length N) o.length _ ρ u.own (yA n.heap.size 0) 1 1 [yR false,Z (t % 2),yQ j] ρ rfl (World.news_of_block (AU n _)) (YF _ _ _) (by have:=i.size;simp<;>omega) (n.heap.size+1) σ ?_;intro E B V q aA r O;have b:=ji (W:=w) (x:=(false,t % 2,j)) k (by have:=i.size;omega) ((H.J L).E (i.J ω)) q aA r;have c:=d.V aA (λe=>by have:=(h.own.lt w.heap.size e.symm).2;omega);have y:=Y b;have S:=b.1.y 0;have D:=b.1.y 4;have T:=b.1.A 0;have R:=b.1.lt;have P:w.heap.size≠g:=ω
  clear q aA r b;refine a.j _ _ (⟨c.y 0,c.y 1,c.y 2,c.y 3,D⟩) (λb=>?_);clear a K
  try simp only[PS]
  refine TY 16 (zW g 0) rfl b (TY 17 (zW g 0) rfl b ?_);simp only[PS];refine RD 18 rfl (λK a=>?_);go_simp;have b:=c.other (yA g 0) (by show g≠w.heap.size;omega) (yI (zY E 0) (o.length+1) B);refine a.j _ _ (⟨b.y 0,b.y 1,b.y 2,b.y 3,y.j.2.1.row.y 4⟩) (λq=>?_)
 rotate_left
 focus
  refine LI ρ _ _ γ (nU t p f l ht _) ?_;rintro e U ⟨rfl,Q⟩;refine⟨_,rfl,?_⟩;have s:yX x U:=(AB _ _).drew.E Q;have F:=C.I s;have z:=A.I s;have cO:=F.row.y 0;refine a.j _ _ (⟨z.y 0,z.y 1,z.y 2,z.y 3,F.row.y 4⟩) (λb=>?_);clear a K
  try simp only[PS]
  refine ET (rs:=[4,12]) κ σ ?_;refine DC rfl (λK a=>?_) (DC rfl (λK a=>?_) EP)
  focus
   go_simp;refine a.j _ _ b (λ_=>?_);clear a K
   try simp only[PS]
   refine RD 12 rfl (λK a=>?_);refine LI ρ 275 #[NI t p f l,Z wd] γ (J.j _) ?_;rintro e n ⟨rfl,G⟩;refine⟨_,rfl,?_⟩;have i:yX x n:=s.E (G.J s.size);have k:=C.I i;have m:=A.I i;have cJ:=k.row.y 0;have X:=k.row.lt;have u:=k.I ((AB _ _).alloc (AA _) (.cells #[yR false,Z (t % 2),yQ j] 136));have d:=m.alloc (.cells #[yR false,Z (t % 2),yQ j] 136);refine a.j _ _ (⟨m.y 0,m.y 1,m.y 2,m.y 3,k.row.y 4⟩) (λb=>?_);clear a K
   try simp only[PS]
   refine TY 13 (.agg #[yR false,Z (t % 2),yQ j]) rfl b ?_;simp only[PS];refine RD 14 rfl (λK a=>?_);go_simp;refine a.j _ _ (⟨d.y 0,d.y 1,d.y 2,d.y 3,u.row.y 4⟩) (λb=>?_);clear a K
   try simp only[PS]
   refine RD 15 rfl (λK a=>?_);refine RP _ ρ _ _ _ ρ base underlying100 I.j rfl ω (yI M o.length N) o.length _ ρ u.own (yA n.heap.size 0) 1 1 [yR false,Z (t % 2),yQ j] ρ rfl (World.news_of_block (AU n _)) (YF _ _ _) (by have:=i.size;simp<;>omega) (n.heap.size+1) σ ?_;intro E B V q aA r O;have b:=ji (W:=w) (x:=(false,t % 2,j)) k (by have:=i.size;omega) ((H.J L).E (i.J ω)) q aA r;have c:=d.V aA (λe=>by have:=(h.own.lt w.heap.size e.symm).2;omega);have y:=Y b;have S:=b.1.y 0;have D:=b.1.y 4;have T:=b.1.A 0;have R:=b.1.lt;have P:w.heap.size≠g:=ω
   clear q aA r b;refine a.j _ _ (⟨c.y 0,c.y 1,c.y 2,c.y 3,D⟩) (λb=>?_);clear a K
   try simp only[PS]
   refine TY 16 (zW g 0) rfl b (TY 17 (zW g 0) rfl b ?_);simp only[PS];refine RD 18 rfl (λK a=>?_);go_simp;have b:=c.other (yA g 0) (by show g≠w.heap.size;omega) (yI (zY E 0) (o.length+1) B);refine a.j _ _ (⟨b.y 0,b.y 1,b.y 2,b.y 3,y.j.2.1.row.y 4⟩) (λq=>?_)
  rotate_left
  focus
   refine LI ρ 275 #[NI t p f l,Z wd] γ (J.j _) ?_;rintro e n ⟨rfl,G⟩;refine⟨_,rfl,?_⟩;have i:yX x n:=s.E (G.J s.size);have k:=C.I i;have m:=A.I i;have cJ:=k.row.y 0;have X:=k.row.lt;have u:=k.I ((AB _ _).alloc (AA _) (.cells #[yR false,Z (t % 2),yQ j] 136));have d:=m.alloc (.cells #[yR false,Z (t % 2),yQ j] 136);refine a.j _ _ (⟨m.y 0,m.y 1,m.y 2,m.y 3,k.row.y 4⟩) (λb=>?_);clear a K
   try simp only[PS]
   refine TY 13 (.agg #[yR false,Z (t % 2),yQ j]) rfl b ?_;simp only[PS];refine ET (rs:=[4,14]) κ σ ?_;refine DC rfl (λK a=>?_) (DC rfl (λK a=>?_) EP)
   focus
    go_simp;refine a.j _ _ b (λ_=>?_);clear a K
    try simp only[PS]
    refine RD 14 rfl (λK a=>?_);go_simp;refine a.j _ _ (⟨d.y 0,d.y 1,d.y 2,d.y 3,u.row.y 4⟩) (λb=>?_);clear a K
    try simp only[PS]
    refine RD 15 rfl (λK a=>?_);refine RP _ ρ _ _ _ ρ base underlying100 I.j rfl ω (yI M o.length N) o.length _ ρ u.own (yA n.heap.size 0) 1 1 [yR false,Z (t % 2),yQ j] ρ rfl (World.news_of_block (AU n _)) (YF _ _ _) (by have:=i.size;simp<;>omega) (n.heap.size+1) σ ?_;intro E B V q aA r O;have b:=ji (W:=w) (x:=(false,t % 2,j)) k (by have:=i.size;omega) ((H.J L).E (i.J ω)) q aA r;have c:=d.V aA (λe=>by have:=(h.own.lt w.heap.size e.symm).2;omega);have y:=Y b;have S:=b.1.y 0;have D:=b.1.y 4;have T:=b.1.A 0;have R:=b.1.lt;have P:w.heap.size≠g:=ω
    clear q aA r b;refine a.j _ _ (⟨c.y 0,c.y 1,c.y 2,c.y 3,D⟩) (λb=>?_);clear a K
    try simp only[PS]
    refine TY 16 (zW g 0) rfl b (TY 17 (zW g 0) rfl b ?_);simp only[PS];refine RD 18 rfl (λK a=>?_);go_simp;have b:=c.other (yA g 0) (by show g≠w.heap.size;omega) (yI (zY E 0) (o.length+1) B);refine a.j _ _ (⟨b.y 0,b.y 1,b.y 2,b.y 3,y.j.2.1.row.y 4⟩) (λq=>?_)
   rotate_left
   focus
    go_simp;refine a.j _ _ (⟨d.y 0,d.y 1,d.y 2,d.y 3,u.row.y 4⟩) (λb=>?_);clear a K
    try simp only[PS]
    refine RD 4 rfl (λK a=>?_);go_simp;refine a.j _ _ b (λ_=>?_);clear a K
    try simp only[PS]
    refine RD 15 rfl (λK a=>?_);refine RP _ ρ _ _ _ ρ base underlying100 I.j rfl ω (yI M o.length N) o.length _ ρ u.own (yA n.heap.size 0) 1 1 [yR false,Z (t % 2),yQ j] ρ rfl (World.news_of_block (AU n _)) (YF _ _ _) (by have:=i.size;simp<;>omega) (n.heap.size+1) σ ?_;intro E B V q aA r O;have b:=ji (W:=w) (x:=(false,t % 2,j)) k (by have:=i.size;omega) ((H.J L).E (i.J ω)) q aA r;have c:=d.V aA (λe=>by have:=(h.own.lt w.heap.size e.symm).2;omega);have y:=Y b;have S:=b.1.y 0;have D:=b.1.y 4;have T:=b.1.A 0;have R:=b.1.lt;have P:w.heap.size≠g:=ω
    clear q aA r b;refine a.j _ _ (⟨c.y 0,c.y 1,c.y 2,c.y 3,D⟩) (λb=>?_);clear a K
    try simp only[PS]
    refine TY 16 (zW g 0) rfl b (TY 17 (zW g 0) rfl b ?_);simp only[PS];refine RD 18 rfl (λK a=>?_);go_simp;have b:=c.other (yA g 0) (by show g≠w.heap.size;omega) (yI (zY E 0) (o.length+1) B);refine a.j _ _ (⟨b.y 0,b.y 1,b.y 2,b.y 3,y.j.2.1.row.y 4⟩) (λq=>?_)
   rotate_left
  rotate_left 2
 rotate_left 3
 all_goals
  clear a K
  try simp only[PS]
  refine DN ?_;go_end0;exact⟨⟨_,rfl⟩,⟨_,y.j.2.1⟩,y.j.2.2.2⟩
theorem Hq(base g:Nat)(v:qD)(b:List OpT)(aA nm lf wd:Int)(w:xV)(h:Wrt w base g v b aA nm lf wd)(l:base<=w.heap.size)(u:b.length<=1000)(n:0<=aA)(p:aA<=100000)(q:0<=nm)(r:nm<=2000000000):Calls prog 226 #[zW g 0] w λe w'=>e=yT (.func (.func 273) #[] #[zW w.heap.size 0])/\Row w' w.heap.size [zW g 0]/\(∃c,Wrt w' base g c (b++[(false,aA,MJ 3 lf nm empty wd)]) (aA+1) (nm+1) lf wd/\∀k,c.ownBlock=some k->k≠w.heap.size)/\Below base w w':=by
 have y:∀(j:Fn) (first a:Array qD) (w:xV),(Instr.makeFunc j first a).run prog w=.ok (.func j first a) w:=λ_ _ _ _=>rfl
 have d:∀o,yX w (w.alloc o):=λo=>LG _ _
 have m:=Y (pG base g v b aA nm lf wd _ (h.I (d (.cells #[zW g 0] 229))) (AJ l (d _).size) u n p q r);go_enter func226,ntmps226;go_wp2_with (go_at_call 229;refine m.j.J ?_;rintro e A ⟨⟨x,rfl⟩,c,s,o,i⟩);go_ret;have z:=h.row.lt;refine⟨rfl,(LS w #[zW g 0] 229).wk i ω (λe=>by have:=(h.own.lt w.heap.size e.symm).2;omega),⟨c,s,λk t e=>?_⟩,((d _).J l).E o⟩;subst e;rcases i.own _ t with f|f
 ·have:=(h.own.lt _ f).2;omega
 rw[BE]at f;omega
theorem J8(base g B:Nat)(v:qD)(i:List OpT)(a nm lf:Int)(n m:Nat)(p:xA)(b:List Ch)(d:Nat)(w:xV)(h:Wrt w base g v i a nm lf (n:Int))(o:Row w B [zW g 0])(t:B≠g)(u:some B≠v.ownBlock)(G:Chs w p b)(E:b.length<=1048576)(F:∀x∈b,x.1.size<=1048576/\x.2.1.size<=1048576)(f:base<=w.heap.size)(N:i.length+(OC (MA b) lf nm n m).length<=1000)(O:n+m=56)(J:1<=n)(L:n<=8)(z:0<=a)(A:a<=10000)(H:0<=nm)(I:nm<=1900000000):Calls prog 273 #[yI p b.length d,zW B 0] w λe w'=>(∃x,e=yT x)/\∃j,Wrt w' base g j (i++MM a (OC (MA b) lf nm n m)) (a+((OC (MA b) lf nm n m).length:Int)) (nm+((OC (MA b) lf nm n m).length:Int)) lf (n:Int)/\Below base w w'/\WK g w v w' j:=by
 have r:=Y (λW (M:Chs W p b)=>wu p b d W M E F);have Q:=ac b;go_enter func273,ntmps273;go_wp2_with fail;refine AN (S:=λw'=>w'.cell? (yA B 0)=some (zW g 0)) κ (o.drew.y 0) (λc=>?_);refine TY 0 (zW g 0) rfl c (TY 1 (yI p b.length d) rfl c ?_);simp only[PS];refine RD 2 rfl (λK c=>?_);refine LI ρ 203 #[yI p b.length d] γ (r.j _ (G.I (AB _ _).drew)) ?_;rintro e q ⟨rfl,C⟩;refine⟨_,rfl,?_⟩;have aA:yX w q:=(AB _ _).drew.E C;have l:=o.I aA;refine c.j _ _ (l.y 0) (λk=>?_);clear c K
 try simp only[PS]
 refine RD 3 rfl (λK c=>?_);refine LI ρ 206 #[zW g 0,yQ (MA b)] γ (wJ base g v i a nm lf n m _ _ (h.I aA) (AJ f aA.size) ω N O J L z A H I) ?_;rintro e R ⟨⟨x,rfl⟩,j,y,D,k⟩;refine⟨_,rfl,?_⟩;have s:=l.wk k t u;refine c.j _ _ (s.y 0) (λP=>?_);clear c K
 try simp only[PS]
 refine DN ?_;go_end0;exact⟨⟨_,rfl⟩,j,y,(aA.J f).E D,(⟨aA.size,λ_ h=>.inl h,λb f _ _=>aA.block b f⟩:WK g w v q v).E k⟩
theorem ym{e:TypeId}{s:Nat}{n:Nat}{f:List qD}(h:w.ownsRow base e s v n f)(i:∀b,base<=b->b<w.heap.size->w'.heap[b]?=w.heap[b]?):w'.ownsRow base e s v n f:=by
 refine⟨h.1,?_⟩;rcases h.2 with j|⟨g,a,b,rfl,d,c,aA⟩
 ·exact .inl j
 exact .inr ⟨g,a,b,rfl,d,(i g d (AP.1 c).1).E c,aA⟩
theorem Bat.span{aA:List (List Ch)}(h:Bat w base v aA)(a:∀b,base<=b->b<w.heap.size->w'.heap[b]?=w.heap[b]?):Bat w' base v aA:=by
 obtain⟨f,b,c,d⟩:=h;exact⟨f,ym b a,λi e=>ym (c i e) a,d⟩
theorem Al(q:Int)(l r:List yZ):MM q (l++r)=MM q l++MM (q+(l.length:Int)) r:=by
 unfold MM;rw[List.mapIdx_append]
 congr 1
 apply KW
 ·simp
 intro i a b
 simp;omega
theorem Row.below2{N:Nat}{b:List qD}(h:Row w g b)(c:g<N)(a:Below N w w'):Row w' g b :=⟨AC h.lt a.size,λi v hv=>(a.cell (p:=(yA g i)) c).E (h.cell i v hv),λi d=>(a.frozen (p:=(yA g i)) c).E (h.froz i d)⟩
def pU(w w':xV)(x:Ending)(d:Dd)(a:xA)(c:Nat):Prop:=∃b e,x=yT (MD d a c b e)/\d.ops.length<=e/\OwnS w' b (Or d.ops)/\(∀g,blk b d.ops.length=some g->w.heap.size<=g)/\yX w w'
theorem K3(S L T H F R U O:Int)(n m:Nat)(a:xA)(j:List Pr)(c:Nat)(w:xV)(h:Prs w a j)(hc:j.length<=c)(hl:j.length<=1048576)(hs:∀x∈j,x.1.size<=1048576/\x.2.size<=1048576)(hm:n+m=56)(eR:1<=n)(eT:n<=8)(gX:XD (n:Int) S L T H F j)(aZ:T+1<=1000000000/\F+hv S<=999999000):Calls prog 171 #[MI (n:Int) S L T H F R U O a j.length c] w λx w'=>pU w w' x (WU (n:Int) S L T H F j) a c:=by
 obtain⟨i,hS,hL,hT,hH,hF,l⟩:=gX;have hQ:=PG hS;have cW:=Y (λw'=>tB T H F R S L w' ω ω ω ω ω ω);have b:SY (T+1) (1-H) (F+hv S) L=true:=by unfold SY;simp;omega
 have y:=Y (λw'=>sm (T+1) (1-H) (F+hv S) L w');rw[b]at y;have p:=Y (λw'=>ph (n:Int) S L (T+1) (1-H) (F+hv S) L 0 0 a j.length c w' ω ω ω ω ω ω);unfold WU;unfold MI at p⊢;have s:(n:Int).toNat=n:=ω
 have t:56-n=m:=ω
 rw[s,t];obtain⟨Q,HQ⟩:∃Q,Hid (Q=hv S):=⟨_,Y rfl⟩;rw[<-HQ.j]at hQ cW y p l aZ⊢;obtain⟨q,d⟩:∃q,q=2+(1-H)*Q:=⟨_,rfl⟩
 have iV:2<=q/\q<=101:=by
  rcases(show H=0\/H=1 by omega) with e|e
  ·subst e;omega
  subst e;omega
 rw[<-d]at p⊢;simp only[Int.add_zero]at p;clear d s t b;obtain⟨iM,iN⟩:=aZ;obtain⟨f,d⟩:∃f,f=MK j:=⟨_,rfl⟩;have gK:=ZC j
 have fS:Hid (∀b∈f,b.length<=1048576/\∀x∈b,x.1.size<=1048576/\x.2.1.size<=1048576):=by
  intro b o;rw[d]at o;obtain⟨A,h2⟩:=mg o;exact⟨ω,λx e=>hs _ (h2 x e)⟩
 have z:=Y (λw' e=>s6 a j c w' e hc hl hs);have aU:=Y (λk=>gq L (F+Q) n m hm eR eT (f.take k))
 have aK:Hid (∀k,MG (f.take k) (n:Int)<=Q-1):=λk=>by
  have:=sR f k (n:Int);rw[<-d]at l;omega
 rw[<-d]at gK z⊢;clear d l;have dV:Hid (yX w ((w.alloc (.cells (sK (n:Int) S L T H F R U O (yI a j.length c)) 39)).alloc (.cells (dK 0 0 0 0 0 0 0 0 0 0 (yI none 0 0) (yI none 0 0)) 102))):=(LG _ _).alloc σ _;go_enter func171,ntmps171;go_wp2_with fail;refine(cW.j _).J ?_;rintro e w1 ⟨rfl,l⟩;have d:=((LS w (sK (n:Int) S L T H F R U O (yI a j.length c)) 39).alloc (.cells (dK 0 0 0 0 0 0 0 0 0 0 (yI none 0 0) (yI none 0 0)) 102)).I l;have o:=(dq (w:=w.alloc (.cells (sK (n:Int) S L T H F R U O (yI a j.length c)) 39)) (A:=(dK 0 0 0 0 0 0 0 0 0 0 (yI none 0 0) (yI none 0 0))) (t:=102) (g:=w.heap.size+1) σ).I l;have A:=Y (dV.j.E (l.J τ));obtain⟨s,t,B,C,D,E,G,I,J,K⟩:=d.k10;have M:=d.A 0;have N:=d.A 1;have P:=d.A 2;have V:=d.A 3
 have W:=d.A 4;have X:=d.A 5;have cF:=d.A 6;have cH:=d.A 7;have cI:=d.A 8;have cJ:=d.A 9;have r:=Y d;have u:=Y o;clear d o l;go_wp2_with fail;refine(y.j _).J ?_;rintro e w2 ⟨rfl,l⟩;clear s M t N B P C V D W E X G cF I cH J cI K cJ;have d:=((((r.j.set 3 σ _).set 4 σ _).set 5 σ _).set 6 σ _).I l;have o:=((((u.j.other (yA w.heap.size 3) (by show w.heap.size≠_;omega) _).other (yA w.heap.size 4) (by show w.heap.size≠_;omega) _).other (yA w.heap.size 5) (by show w.heap.size≠_;omega) _).other (yA w.heap.size 6) (by show w.heap.size≠_;omega) _).I l;have s:=((((A.j.setCell (p:=(yA w.heap.size 3)) (AA _) (Z (T+1))).setCell (p:=(yA w.heap.size 4)) (AA _) (Z (1-H))).setCell (p:=(yA w.heap.size 5)) (AA _) (Z (F+Q))).setCell (p:=(yA w.heap.size 6)) (AA _) (Z L))
 have eB:=Y (s.E (l.J s.size));simp only[DL,DO]at d;clear l s A r u;obtain⟨s,t,B,C,D,E,G,I,J,K⟩:=d.k10;have M:=d.A 0;have N:=d.A 1;have P:=d.A 2;have V:=d.A 3;have W:=d.A 4;have X:=d.A 5;have cF:=d.A 6;have cH:=d.A 7;have cI:=d.A 8;have cJ:=d.A 9;have r:=Y d;have u:=Y o;clear d o;go_wp2_with fail;clear s M t N B P C V D W E X G cF I cH J cI K cJ;obtain⟨l,s⟩:∃l,l=(w2.setCell (yA w.heap.size 7) (Z 0)).setCell (yA w.heap.size 8) (Z 0):=⟨_,rfl⟩;have d:Row l (w.heap.size) (sJ (n:Int) S L (T+1) (1-H) (F+Q) L 0 0 (yI a j.length c)):=by rw[s];exact(r.j.set 7 σ _).set 8 σ _
 have o:Row l (w.heap.size+1) (dJ 0 0 0 0 0 0 0 0 0 0 (yI none 0 0) (yI none 0 0)):=by rw[s];exact(u.j.other (yA w.heap.size 7) (by show w.heap.size≠_;omega) _).other (yA w.heap.size 8) (by show w.heap.size≠_;omega) _
 have t:yX w l:=by rw[s];exact(eB.j.setCell (p:=(yA w.heap.size 7)) (AA _) _).setCell (p:=(yA w.heap.size 8)) (AA _) _
 rw[<-s];clear s r u eB;refine(p.j _).J ?_;rintro e w4 ⟨g,rfl,i,s⟩;have iO:=i.ge;have iP:=i.row.lt;have gZ:=s.size;have A:=Y i;have B:=Y s;have r:=Y d;have u:=Y o;have cL:=Y t;have cP:=d.lt;have dM:=o.lt;clear i s d o t p cW y dV;go_wp2_with fail;refine(Hq l.heap.size g _ _ q (F+Q) L (n:Int) _ A.j gZ σ ω ω ω ω).J ?_;rintro e w5 ⟨rfl,p,⟨v5,t,C⟩,y⟩;have i:yX l w5:=B.j.E y;have d:=r.j.I i;have s:=d.y 9;have iW:=y.size;have iL:=p.lt;clear d;go_wp2_with fail;clear s;refine(z.j _ (h.I (cL.j.E (i.J cL.j.size)))).J ?_;rintro e w6 ⟨v6,rfl,o,d⟩;obtain⟨va,vc,rfl,_⟩:=o.bts;have iX:=d.size;have fJ:=Y o;have fO:=Y (p.I d);have eE:=Y C
 have s:∀k,v5.ownBlock=some k->k<w5.heap.size:=λk hk=>(t.own.lt k hk).2
 have fT:=Y s;have fW:=Y (t.I d);have fI:=Y (i.E (d.J i.size));clear o p C s t d y i z A B;go_wp2_with fail;go_loopw [30] (λi wr=>∃k:Nat,k<=f.length/\i=Z (k:Int)/\∃v',Wrt wr l.heap.size g v' (MM q (ON L (F+Q) n m (f.take k))) (q+((ON L (F+Q) n m (f.take k)).length:Int)) (F+Q+((ON L (F+Q) n m (f.take k)).length:Int)) L (n:Int)/\yX l wr/\WK g w6 v5 wr v') (λi _=>f.length-(intOf i).toNat)
 case atStart =>
  refine⟨0,AL _,rfl,v5,?_,fI.j,WK.start _ _ _⟩;rw[FV,il];have d:MM q [MJ 3 L (F+Q) empty (n:Int)]=[]++[(false,q,MJ 3 L (F+Q) empty (n:Int))]:=by simp[MM]
  rw[d];exact fW.j
 case round =>
  obtain⟨k,hk,rfl,v',i,y,z⟩:=hrel;have hN:((ON L (F+Q) n m (f.take k)).length:Int)<=99:=by have A:=aU.j k;have h2:=aK.j k;omega
  obtain⟨aA,d⟩:∃aA,aA=ON L (F+Q) n m (f.take k):=⟨_,rfl⟩;rw[<-d]at i hN;have fA:l.heap.size<=wr.heap.size:=y.size
  by_cases dN:k<f.length
  ·have C:=fJ.j.span (w':=wr) (λb A h2=>z.blk b h2 ω (λe=>by have:=fT.j b e.symm;omega))
   obtain⟨iZ,i6,I,D⟩:=C.bts
   cases I
   obtain⟨X,p,E,rfl,V,P,B⟩:=D.at dN;have W:(k:Int)<(f.length:Int):=ω
   have iS:(0:Int)<=(k:Int):=ω
   have s:=fS.j (f.getD k []) (by simp[List.getD,dN]);have N:((ON L (F+Q) n m (f.take (k+1))).length:Int)<=99:=by have A:=aU.j (k+1);have h2:=aK.j (k+1);omega
   have t:ON L (F+Q) n m (f.take (k+1))=aA++OC (MA (f.getD k [])) L (F+Q+(aA.length:Int)) n m:=by rw[ZR f k [] dN,qy,<-d]
   obtain⟨b,o⟩:∃b,b=f.getD k []:=⟨_,rfl⟩;rw[<-o]at P B s t;rw[t,AK]at N;have K:=Y (J8 l.heap.size g w4.heap.size v' (MM q aA) (q+(aA.length:Int)) (F+Q+(aA.length:Int)) L n m p b E wr i (fO.j.wk z ω (λe=>eE.j _ e.symm rfl)) ω (λe=>by rcases z.own _ e.symm with A|A;exact eE.j _ A rfl;omega) B s.1 s.2 fA (by rw[QZ];omega) hm eR eT ω ω ω ω);have J:=Y t;have cS:=Y y;have M:=Y z;clear o t d s B y C D z i;go_wp2_with (go_at_call 273;refine K.j.J ?_;rintro e G ⟨⟨x,rfl⟩,D,C,B,o⟩);refine⟨⟨k+1,ω,ν,D,?_,cS.j.E B,M.j.E o⟩,by simp[intOf];omega⟩;rw[J.j,Al,AK];have s:q+((aA.length+(OC (MA b) L (F+Q+(aA.length:Int)) n m).length:Nat):Int)=q+(aA.length:Int)+((OC (MA b) L (F+Q+(aA.length:Int)) n m).length:Int):=ω
   have t:F+Q+((aA.length+(OC (MA b) L (F+Q+(aA.length:Int)) n m).length:Nat):Int)=F+Q+(aA.length:Int)+((OC (MA b) L (F+Q+(aA.length:Int)) n m).length:Int):=ω
   rw[s,t];exact C
  have gV:k=f.length:=ω
  subst gV;have he:aA=ON L (F+Q) n m f:=by rw[d,DF]
  clear d;have fH:=Y he;obtain⟨ya,yc,rfl⟩:=i.sl;rw[QZ]at i;have y0:=i.row.y 0;have d:=r.j.I y;have o:=u.j.I y;have iR:=i.row.lt;obtain⟨s,t,B,C,D,E,G,I,J,K⟩:=d.k10;have M:=d.A 0;have N:=d.A 1;have P:=d.A 2;have V:=d.A 3;have W:=d.A 4;have X:=d.A 5;have cF:=d.A 6;have cH:=d.A 7;have cI:=d.A 8;have cJ:=d.A 9;have p:=Y i;have cS:=Y y;have eH:=Y d;have eI:=Y o;clear i y d o z he;go_wp2_with fail;clear s M t N B P C V D W E X G cF I cH J cI K cJ;clear y0;obtain⟨G,i⟩:∃G,G=wr.setCell (yA w.heap.size 7) (Z (aA.length:Int)):=⟨_,rfl⟩;rw[<-i];have C:=p.j.set w.heap.size 7 cP (Z (aA.length:Int));have d:=eH.j.set 7 σ (Z (aA.length:Int));have o:=eI.j.other (yA w.heap.size 7) (by show w.heap.size≠_;omega) (Z (aA.length:Int))
  have W:yX w G:=by rw[i];exact(cL.j.E (cS.j.J cL.j.size)).setCell (p:=(yA w.heap.size 7)) (AA _) _
  have eX:l.heap.size<=G.heap.size:=by rw[i];simpa[World.setCell] using fA
  simp only[DL,DO]at d;rw[<-i]at C d o;clear i eH eI p;refine(ni l.heap.size g _ _ _ _ _ _ _ C eX (by rw[QZ];omega)).J ?_;rintro e w8 ⟨⟨t,rfl⟩,⟨v8,i⟩,D⟩;have K:=d.below2 cP D;have fF:=o.below2 dM D;have eY:l.heap.size<=w8.heap.size:=AJ eX D.size;obtain⟨x0,x1,x2,x3,x4,x5,x6,x7,t,s⟩:=K.k10;have P:=Y i;clear i;go_wp2_with fail;refine(Eq l.heap.size g _ _ _ _ _ _ _ _ _ _ _ P.j eY (by simp[QZ];omega) ω).J ?_;rintro e w9 ⟨⟨i7,rfl⟩,⟨v9,V⟩,E⟩;clear x0 x1 x2 x3 x4 x5 x6 x7 t s;have fE:=K.below2 cP E;have fG:=fF.below2 dM E;have eZ:l.heap.size<=w9.heap.size:=AJ eY E.size;go_wp2_with fail;refine(ni l.heap.size g _ _ _ _ _ _ _ V eZ (by simp[QZ];omega)).J ?_;rintro e z ⟨⟨iA,rfl⟩,⟨iY,y⟩,B⟩;have N:=fE.below2 cP B;have J:=fG.below2 dM B;have gY:l.heap.size<=z.heap.size:=AJ eZ B.size
  have X:yX w z:=((W.E (D.J ω)).E (E.J ω)).E (B.J ω);have fQ:=Y X;obtain⟨za,zc,rfl⟩:=y.sl;have I:(MM q aA++[(true,0,empty)]++[(false,(T+1) % 2,OS (T+1) (1-H) (F+Q) L (n:Int))]++[(true,0,empty)]).length=aA.length+3:=by simp[QZ]
  obtain⟨p,i,dL,ez,gS,gU,M⟩:∃p i,aA.length+3<=i/\yI za (MM q aA++[(true,0,empty)]++[(false,(T+1) % 2,OS (T+1) (1-H) (F+Q) L (n:Int))]++[(true,0,empty)]).length zc=yI (zY p 0) (aA.length+3) i/\l.heap.size<=p/\p<z.heap.size/\Row z p (Or (MM q aA++[(true,0,empty)]++[(false,(T+1) % 2,OS (T+1) (1-H) (F+Q) L (n:Int))]++[(true,0,empty)])):=by
   rcases MC y.own with ⟨s,t⟩|⟨g,i,s,t,e3,e4⟩
   ·simp at t
   exact⟨g,i,by have:=qq y.own;injection s with _ _ e;omega,by rw[s,I],t,e3,e4⟩
  have y0:=y.row.y 0;rw[ez]at y0;have gM:=y.row.lt;have iQ:w.heap.size≠g:=ω
  have gQ:w.heap.size+1≠g:=ω
  have gR:¬g=w.heap.size+1:=ω
  obtain⟨x0,x1,x2,x3,x4,x5,x6,x7,t,s⟩:=N.k10;obtain⟨d0,d1,d2,d3,d4,d5,d6,d7,d8,d9,fY,fZ⟩:=J.k12;obtain⟨iB,iC,iD,iE,iF,iG,iH,iI,iJ,iK,gE,gF⟩:=J.z12;have iT:w.heap.size<z.heap.size:=ω
  have iU:w.heap.size+1<z.heap.size:=ω
  have cT:=Y M;clear y B E D W X V C d o K fF fE fG N J P M ez;go_wp2_with fail;refine AN (S:=λw'=>w'.cell? (yA w.heap.size 0)=some (Z (n:Int))/\w'.cell? (yA w.heap.size 1)=some (Z S)/\w'.cell? (yA w.heap.size 2)=some (Z L)/\w'.cell? (yA w.heap.size 3)=some (Z (T+1))/\w'.cell? (yA w.heap.size 4)=some (Z (1-H))/\w'.cell? (yA w.heap.size 5)=some (Z (F+Q))/\w'.cell? (yA w.heap.size 6)=some (Z L)/\w'.cell? (yA w.heap.size 7)=some (Z (aA.length:Int))/\w'.cell? (yA w.heap.size 8)=some (Z 0)/\w'.cell? (yA w.heap.size 9)=some (yI a j.length c)/\w'.cell? (yA g 0)=some (yI (zY p 0) (aA.length+3) i)) κ (⟨γ,γ,γ,γ,γ,γ,γ,γ,γ,γ,γ⟩) (λd=>?_);refine TY 0 (.agg (sK (n:Int) S L (T+1) (1-H) (F+Q) L (aA.length:Int) 0 (yI a j.length c))) rfl d (TY 1 (zW g 0) rfl d (TY 2 (zW g 0) rfl d (TY 3 (zW g 0) rfl d (TY 4 (yI (zY p 0) (aA.length+3) i) rfl d (TY 5 (.agg #[Z 0,Z (n:Int),Z S,Z L,Z (T+1),Z (1-H),Z (F+Q),Z L,Z (aA.length:Int),Z 0,yI a j.length c,yI (zY p 0) (aA.length+3) i]) rfl d ?_)))))
  simp only[PS];refine RD 6 rfl (λK d=>?_);go_simp;refine d.j _ _ (⟨γ,γ,γ,γ,γ,γ,γ,γ,γ,γ,γ⟩) (λo=>?_);clear d K
  try simp only[PS]
  refine DN ?_;go_wp2;rw[<-fH.j];have o:MM q aA++[(true,0,empty),(false,(T+1) % 2,OS (T+1) (1-H) (F+Q) L (n:Int)),(true,0,empty)]=(MM q aA++[(true,0,empty)]++[(false,(T+1) % 2,OS (T+1) (1-H) (F+Q) L (n:Int))]++[(true,0,empty)]):=σ
  rw[o];refine AE (v:=MD ⟨0,(n:Int),S,L,T+1,1-H,F+Q,L,(aA.length:Int),0,j,(MM q aA++[(true,0,empty)]++[(false,(T+1) % 2,OS (T+1) (1-H) (F+Q) L (n:Int))]++[(true,0,empty)])⟩ a c (zY p 0) i) (by simp[results,results171,go_sem,MD,QZ,d0,d1,d2,d3,d4,d5,d6,d7,d8,d9,fY,fZ]) rfl ⟨_,i,rfl,by rw[I];exact dL,?_,?_,?_⟩
  ·refine .inr ⟨p,rfl,?_⟩
   refine Row.drew ?_
   iterate 12(refine Row.other ?_ _ (by show w.heap.size+1≠p;omega) _)
   exact cT.j
  ·exactλg d=>by change blk _ (MM q aA++[(true,0,empty)]++[(false,(T+1) % 2,OS (T+1) (1-H) (F+Q) L (n:Int))]++[(true,0,empty)]).length=_ at d;rw[I,ML _ _ _ ω]at d;cases d;omega
  refine Below.drew ?_
  iterate 12(refine GR ?_ (by show w.heap.size<=w.heap.size+1;omega) _)
  exact fQ.j
theorem Bo(W S L T H F R U O:Int)(a:xA)(f:List Pr)(c:Nat)(w:xV)(s:XD W S L T H F f)(aA:¬(T+1<=1000000000/\F+hv S<=999999000)):Calls prog 171 #[MI W S L T H F R U O a f.length c] w λx w'=>x=yT (MD (LJ 4) none 0 none 0)/\yX w w':=by
 obtain⟨hW,X,hL,hT,hH,hF,aJ⟩:=s;have V:=PG X;have l:=Y (λw'=>tB T H F R S L w' ω ω ω ω ω ω)
 have b:SY (T+1) (1-H) (F+hv S) L=false:=by
  refine fj _ _ _ _ ?_
  by_cases d:T+1<=1000000000
  ·exact .inr (.inr (.inr ω))
  exact .inl ω
 have i:=Y (λw'=>sm (T+1) (1-H) (F+hv S) L w');rw[b]at i;unfold MI;obtain⟨Q,m⟩:∃Q,Hid (Q=hv S):=⟨_,Y rfl⟩;rw[<-m.j]at V l i aA;clear b aA;have n:Hid (yX w ((w.alloc (.cells (sK W S L T H F R U O (yI a f.length c)) 39)).alloc (.cells (dK 0 0 0 0 0 0 0 0 0 0 (yI none 0 0) (yI none 0 0)) 102))):=(LG _ _).alloc σ _;go_enter func171,ntmps171;go_wp2_with fail;refine(l.j _).J ?_;rintro e w1 ⟨rfl,h⟩;have b:=((LS w (sK W S L T H F R U O (yI a f.length c)) 39).alloc (.cells (dK 0 0 0 0 0 0 0 0 0 0 (yI none 0 0) (yI none 0 0)) 102)).I h;have d:=(dq (w:=w.alloc (.cells (sK W S L T H F R U O (yI a f.length c)) 39)) (A:=(dK 0 0 0 0 0 0 0 0 0 0 (yI none 0 0) (yI none 0 0))) (t:=102) (g:=w.heap.size+1) σ).I h;have j:=Y (n.j.E (h.J τ));have p:=Y b;have k:=Y d
 obtain⟨o,q,r,t,u,x,y,z,A,B⟩:=b.k10;have C:=b.A 0;have D:=b.A 1;have E:=b.A 2;have G:=b.A 3;have I:=b.A 4;have J:=b.A 5;have K:=b.A 6;have M:=b.A 7;have N:=b.A 8;have P:=b.A 9;clear b d h;go_wp2_with fail;refine(i.j _).J ?_;rintro e w2 ⟨rfl,b⟩;clear o C q D r E t G u I x J y K z M A N B P;have d:=((((k.j.other (yA w.heap.size 3) (by show w.heap.size≠_;omega) _).other (yA w.heap.size 4) (by show w.heap.size≠_;omega) _).other (yA w.heap.size 5) (by show w.heap.size≠_;omega) _).other (yA w.heap.size 6) (by show w.heap.size≠_;omega) _).I b;have h:=((((j.j.setCell (p:=(yA w.heap.size 3)) (AA _) (Z (T+1))).setCell (p:=(yA w.heap.size 4)) (AA _) (Z (1-H))).setCell (p:=(yA w.heap.size 5)) (AA _) (Z (F+Q))).setCell (p:=(yA w.heap.size 6)) (AA _) (Z L))
 have o:=Y (h.E (b.J h.size));obtain⟨t,u,x,y,z,A,B,C,D,E,q,r⟩:=d.k12;obtain⟨J,K,M,N,P,cA,cC,cE,cF,cH,G,I⟩:=d.z12;have cI:=d.lt;clear b h j p k d;go_wp2_with fail;refine AE (v:=MD (LJ 4) none 0 none 0) (by simp[results,results171,go_sem,MD,LJ,t,u,x,y,z,A,B,C,D,E,q,r]) rfl ⟨rfl,?_⟩
 iterate 12(refine GR ?_ (by show w.heap.size<=w.heap.size+1;omega) _)
 exact o.j
theorem Ms(W S L T H F R U O:Int)(a:xA)(j:List Pr)(c:Nat)(w:xV)(s:0<=H/\H<=1)(r:1<=F/\F<=999999000)(u0:0<=U/\U<=99):Calls prog 172 #[MI W S L T H F R U O a j.length c] w λx w'=>pU w w' x ⟨0,W,S,L,T,H,F,R,U+1,O,j,[(false,2+H*hv S+U,MJ 3 L (F+U) empty W),(true,0,empty)]⟩ a c:=by
 have d:0<=hv S/\hv S<=99:=by by_cases h:8<=S/\S<=200;have:=PG h;omega;rw[YH h];omega
 have p:=Y (λw'=>ph W S L T H F R U O a j.length c w' s.1 s.2 r.1 r.2 u0.1 u0.2);unfold MI at p⊢;obtain⟨q,b⟩:∃q,q=2+H*hv S:=⟨_,rfl⟩
 have dU:2<=q/\q<=101:=by
  rcases(show H=0\/H=1 by omega) with e|e
  ·subst e;omega
  subst e;omega
 rw[<-b]at p⊢;clear b d;have dV:IntKind.i64.wrap (U+1)=U+1:=by simp[IntKind.wrap,IntKind.bits,IntKind.signed];omega
 go_enter func172,ntmps172;go_wp2_with fail;obtain⟨l,e⟩:∃x,x=(w.alloc (.cells (sK W S L T H F R U O (yI a j.length c)) 39)).alloc (.cells (dK 0 0 0 0 0 0 0 0 0 0 (yI none 0 0) (yI none 0 0)) 102):=⟨_,rfl⟩;have i:yX w l:=by rw[e];exact(LG _ _).alloc σ _
 have dL:w.heap.size+1+1<=l.heap.size:=by rw[e];simp
 have b:Dep l w.heap.size (w.heap.size+1) (λf=>Row f w.heap.size (sJ W S L T H F R U O (yI a j.length c))):=by rw[e];exact(Oi w _ _).I (LG _ _)
 have d:Dep l (w.heap.size+1) (w.heap.size+1+1) (λf=>Row f (w.heap.size+1) (dJ 0 0 0 0 0 0 0 0 0 0 (yI none 0 0) (yI none 0 0))):=by rw[e];exact bi (dq (w:=w.alloc _) σ) (AA _) ω σ
 rw[<-e];clear e;refine(p.j _).J ?_;rintro e v1 ⟨g,rfl,m,k⟩;have dM:l.heap.size<=v1.heap.size:=k.size;have f:=b.I k;clear b;have b:=f;clear f;have aA:=d.I k;clear d;have d:=aA;clear aA;have f:=i.E (k.J i.size);clear i;have i:=f;clear f;clear k;have dQ:=m.ge;have M:=Y m;clear m;go_wp2_with fail;refine(pG l.heap.size g _ [] (q+U) (F+U) L W _ M.j ω σ ω ω ω ω).J ?_;rintro e x1 ⟨⟨x,rfl⟩,v8,m,k,_⟩;have dN:=k.size;have f:=b.low k ω;clear b;have b:=f;clear f;have aA:=d.low k ω;clear d;have d:=aA;clear aA;have f:=i.E (k.J ω);clear i;have i:=f;clear f;have n:=Y m;clear m k;go_wp2_with fail;refine(ni l.heap.size g _ _ _ _ _ _ _ n.j ω σ).J ?_;rintro e x2 ⟨⟨x9,rfl⟩,⟨v9,m⟩,k⟩;have dP:=k.size;have f:=b.low k ω;clear b;have b:=f;clear f
 have aA:=d.low k ω;clear d;have d:=aA;clear aA;have f:=i.E (k.J ω);clear i;have i:=f;clear f;clear k n;simp only[EK,EV]at m;obtain⟨k,n,rfl⟩:=m.sl;simp only[BJ,AT,Nat.reduceAdd]at m;have y0:=m.row.y 0;have yl:=m.row.lt;have dR:w.heap.size≠g:=ω
 have cY:w.heap.size+1≠g:=ω
 have cZ:¬g=w.heap.size+1:=ω
 have dB:¬g=w.heap.size:=ω
 have o:=Y m;clear m;obtain⟨cF,cH,cI,cJ,cL,cM,cN,cO,cP,cQ⟩:=b.q.k10;have bJ:=b.q.A 0;have bP:=b.q.A 1;have bQ:=b.q.A 2;have bR:=b.q.A 3;have bT:=b.q.A 4;have bU:=b.q.A 5;have bV:=b.q.A 6;have bW:=b.q.A 7;have bY:=b.q.A 8;have bZ:=b.q.A 9;have cS:=b.q.lt;obtain⟨y,z,A,B,C,D,E,G,I,J,t,u⟩:=d.q.k12;obtain⟨aX,aY,aZ,bB,bC,bE,bF,bG,bH,bI,aT,aU⟩:=d.q.z12;have cE:=d.q.lt;go_wp2_with fail;refine AN (S:=λw'=>w'.cell? (yA w.heap.size 0)=some (Z W)/\w'.cell? (yA w.heap.size 1)=some (Z S)/\w'.cell? (yA w.heap.size 2)=some (Z L)/\w'.cell? (yA w.heap.size 3)=some (Z T)/\w'.cell? (yA w.heap.size 4)=some (Z H)/\w'.cell? (yA w.heap.size 5)=some (Z F)/\w'.cell? (yA w.heap.size 6)=some (Z R)/\w'.cell? (yA w.heap.size 7)=some (Z (U+1))/\w'.cell? (yA w.heap.size 8)=some (Z O)/\w'.cell? (yA w.heap.size 9)=some (yI a j.length c)/\w'.cell? (yA g 0)=some (yI k 2 n)) κ (⟨γ,γ,γ,γ,γ,γ,γ,γ,γ,γ,γ⟩) (λf=>?_)
 refine TY 0 (.agg (sK W S L T H F R (U+1) O (yI a j.length c))) rfl f (TY 1 (zW g 0) rfl f (TY 2 (zW g 0) rfl f (TY 3 (zW g 0) rfl f (TY 4 (yI k 2 n) rfl f (TY 5 (.agg (dK 0 W S L T H F R (U+1) O (yI a j.length c) (yI k 2 n))) rfl f ?_)))));simp only[PS];refine RD 6 rfl (λK f=>?_);go_simp;refine f.j _ _ (⟨γ,γ,γ,γ,γ,γ,γ,γ,γ,γ,γ⟩) (λm=>?_);clear f K
 try simp only[PS]
 refine DN ?_;go_wp2
 have m:∀g,blk k 2=some g->l.heap.size<=g:=λg f=>by
  unfold blk at f
  split at f
  ·cases f
  cases k with
  | none=>cases f
  | some K=>simp at f;subst f;exact(o.j.own.lt K.block rfl).1
 have N:OwnS x2 k (Or [(false,q+U,MJ 3 L (F+U) empty W),(true,0,empty)]):=by
  rcases MC o.j.own with ⟨_,Q⟩|⟨g,K,P,_,_,V⟩
  ·simp at Q
  have X:k=zY g 0:=by injection P
  subst X;exact .inr ⟨g,rfl,V⟩
 refine AE (v:=MD ⟨0,W,S,L,T,H,F,R,U+1,O,j,[(false,q+U,MJ 3 L (F+U) empty W),(true,0,empty)]⟩ a c k n) (by simp[results,results172,go_sem,MD,y,z,A,B,C,D,E,G,I,J,t,u]) rfl ⟨k,n,rfl,qq o.j.own,?_,?_,?_⟩
 ·refine OwnS.drew' ?_
  iterate 12(refine OwnS.set' ?_ _ (λg f K=>by have:=m g (by subst f;exact ML _ _ _ ω);show w.heap.size+1≠g;omega) _)
  iterate 1(refine OwnS.set' ?_ _ (λg f K=>by have:=m g (by subst f;exact ML _ _ _ ω);show w.heap.size≠g;omega) _)
  exact N
 ·exactλg f=>by have:=m g f;omega
 refine Below.drew ?_
 iterate 12(refine GR ?_ (by show w.heap.size<=w.heap.size+1;omega) _)
 iterate 1(refine GR ?_ (by show w.heap.size<=w.heap.size;omega) _)
 exact i
theorem wV(W S L T H F R U O:Int)(a:xA)(d:List Pr)(c:Nat)(w:xV)(h:Prs w a d)(hc:d.length<=c)(E:d.length<=1048576)(G:∀x∈d,x.1.size<=1048576/\x.2.size<=1048576):Calls prog 151 #[MI W S L T H F R U O a d.length c] w λx w'=>ef w w' x (PZ W S L T H F R U O d):=by
 have f:=Y (λw' b=>kz W S L T H F R U O a d c w' b hc E G);have z:=Y h;clear h G;obtain⟨u,q⟩:∃D,Hid (D=PZ W S L T H F R U O d):=⟨_,Y rfl⟩;rw[<-q.j];unfold MI at f⊢;go_enter func151,ntmps151;go_upto_region 1 with fail;generalize b:w.alloc _=v1;obtain⟨i,k,l⟩:=LK b;clear b;generalize b:v1.alloc _=D;obtain⟨j,m,e⟩:=LK b;clear b;rw[k]at e;have b:StB w D (sJ W S L T H F R U O (yI a d.length c)) (λ_=>True):=⟨i.E (j.J i.size),(l.I j).q,e.q,UO (λ_=>trivial)⟩;have n:w.heap.size+1<D.heap.size:=e.q.lt;clear i j l e k m;refine AV ?_;refine AZ rfl 39 _ rfl w.heap.size 0 rfl _ _ b.r1.range underlying39 rfl OQ ?_;simp only[PS];go_wp2_with fail;refine(f.j _ (z.j.I b.e)).J ?_;rintro x s ⟨rfl,e⟩;replace b:=b.I e;have l3:w.heap.size+1<s.heap.size:=b.r2.lt;clear e n f
 cases hok:NX W S L T H F R U O d with
 | false =>
  obtain rfl:u=LJ 1:=by rw[q.j];unfold PZ;rw[AF (by rw[hok];simp)]
  go_upto_region 2 with fail;refine b.noR 1 _ _ rfl γ rfl rfl rfl rfl (λy o k=>?_)
  try simp only[PS]
  clear b
  try go_wp2
  refine UZ 2 results151 _ ?_ o ?_ k.j<;>rfl
 | true =>
  obtain rfl:u=⟨0,W,S,L,T,H,F,R,U,0,d,[(true,0,empty)]⟩:=by rw[q.j];unfold PZ;rw[AI hok]
  have Q:0<=H/\H<=1/\1<=F/\F<=999999000/\0<=U/\U<=99:=by
   unfold NX SY at hok;simp at hok;have e:=PG (S:=S) ω;omega
  obtain⟨h0,h1,X,f1,u0,u1⟩:=Q;have f:=Y (λw'=>ph W S L T H F R U O a d.length c w' h0 h1 X f1 u0 u1);unfold MI at f;clear hok;go_upto_region 3 with fail;refine AV ?_;refine AZ rfl 39 _ rfl w.heap.size 0 rfl _ _ b.r1.range underlying39 rfl OQ ?_;simp only[PS];go_wp2_with fail;refine(f.j _).J ?_;rintro x v4 ⟨g,rfl,i,e⟩;replace b:=b.I e;have l4:=e.size;clear e f;go_wp2_with fail;refine(ni s.heap.size g _ [] _ _ _ _ _ i l4 σ).J ?_;rintro x v5 ⟨⟨x5,rfl⟩,⟨v',i⟩,e⟩;replace b:=b.low e l3;clear e
  obtain⟨j,f,rfl,aV⟩:∃j f,v'=yI (zY j 0) 1 f/\s.heap.size<=j:=by
   rcases MC i.own with ⟨k,e⟩|⟨g,f,k,e,l,m⟩
   ·simp at e
   exact⟨g,f,k,e⟩
  have l:=b.r1.y 8;have e:=b.r1.y 9;have m:=b.r1.A 8;have k:=b.r1.lt;go_wp2_with fail;clear l m e k;replace b:=b.set 8 σ (Z 0);replace i:=i.set w.heap.size 8 ω (Z 0);generalize e:World.setCell _ _ _=t at b i⊢;clear e;have V:j<t.heap.size:=(i.own.lt j rfl).2;have k:=ZK a d c t (z.j.I b.e) E;unfold LR at k;refine k.J ?_;rintro x v7 ⟨m,n,rfl,P,l,r,e⟩;unfold LR;have p:=QF (lo:=t.heap.size) l RG r;replace b:=b.I e;replace i:=i.I e;clear e k l;have e:=b.r1.y 9;have l:=b.r1.A 9;have k:=b.r1.lt;go_upto_region 7 with fail;clear e l k;replace b:=b.set 9 σ (yI m d.length n);replace i:=i.set w.heap.size 9 ω (yI m d.length n);replace p:=p.V (NA (AY v7 (some w.heap.size)) 9 (yI m d.length n)) (λg e=>by cases e;omega)
  generalize k:World.setCell _ _ _=e at b i p⊢;clear k;have B:=AB e.heap.size e;refine TU (6) (S:=λw'=>Row w' w.heap.size (sJ W S L T H F R U 0 (yI m d.length n))/\w'.cell? (yA g 0)=some (yI (zY j 0) 1 f)) κ (⟨b.r1.I B.drew,(i.I B.drew).row.y 0⟩) (λaA=>?_);refine LU 0 (.agg (sK W S L T H F R U 0 (yI m d.length n))) rfl (AS ⟨ρ,λw i=>by obtain⟨I,J⟩:=i;exact QI 39 _ rfl _ 0 rfl _ _ I.range underlying39 rfl OQ⟩) aA (NL 1 (zW g 0) rfl aA (NL 2 (zW g 0) rfl aA (LU 3 (zW g 0) rfl (AS ⟨ρ,λw i=>by obtain⟨I,J⟩:=i;have l:=DQ _ _ J;go_simp⟩) aA (NL 4 (yI (zY j 0) 1 f) rfl aA (NL 5 (.agg (dK 0 W S L T H F R U 0 (yI m d.length n) (yI (zY j 0) 1 f))) rfl aA ?_)))))
  simp only[PS];refine PM (rs:=[6]) κ σ ?_;refine AllReadyT.last rfl (λo k=>?_);have A:=b.I (AB e.heap.size e).drew;refine SN rfl 102 _ _ rfl (w.heap.size+1) 0 (dK 0 W S L T H F R U 0 (yI m d.length n) (yI (zY j 0) 1 f)) rfl rfl (A.r2.there rfl) RQ κ ?_;refine k.j _ _ trivial (λ_=>?_)
  try simp only[PS]
  refine SP κ ?_ _;have C:=AB e.heap.size e;have K:=qq i.own
  have N:ZS m d.length (zY j 0) 1:=Fa r (λg k=>by rw[ML _ _ _ σ]at k;cases k;exact V)
  obtain⟨o,y⟩:=A.fin ⟨0,W,S,L,T,H,F,R,U,0,d,[(true,0,empty)]⟩ m n (zY j 0) f P ⟨(p.I C.drew).q,.inr ⟨j,rfl,(RJ (LZ i.own C.drew))⟩,N⟩ (λg k=>by have:=r g k;omega) (λg k=>by rw[ML _ _ _ σ]at k;cases k;omega)
  have k:=Y y;clear y;generalize M:World.setCells _ _ _ _=y at o k⊢;clear M b
  try go_wp2
  refine UZ 2 results151 _ ?_ o ?_ k.j K<;>rfl
