import Derived.Test.YteflhojcomcfaaaGreatDoorPrG27
import Derived.Recover
import Derived.Defers
set_option maxHeartbeats 16000000
set_option maxRecDepth 8000
set_option linter.all false
namespace Go.Proofs.YteflhojcomcfaaaGreatDoor
open _root_.ByteArray(empty)
section
open Tryz
open Go.RowKit Go.Lib
variable {cur:List Ra}{base n p:Nat}{w:Q9}
theorem ZK(l:List Pr):(LS l).length=l.length*2:=aw l
theorem tu{a r:List Pr}(h:cur.take (n*2)=LS (a++r))(c:a.length=p)(e:n=p+r.length)(d:n*2<=cur.length):cur.take (p*2)=LS a/\(cur.drop (p*2)).take ((n-p)*2)=LS r:=by
 rw[XZ]at h;have b:(LS a).length=p*2:=by rw[ZK,c]
 constructor
 .have:(cur.take (n*2)).take (p*2)=cur.take (p*2):=by rw[IL,show min (p*2) (n*2)=p*2 by omega]
  rw[<-this,h,GZ b]
 have:(cur.drop (p*2)).take ((n-p)*2)=(cur.take (n*2)).drop (p*2):=by rw[FX];congr 1;omega
 rw[this,h,KA b]
theorem Ou{a r:List Pr}{s0 s1:Q4}(h:cur.take (n*2)=LS (a++r))(g:a.length=p)(f:n=p+r.length)(i:n*2+2<=cur.length):(ig cur n p s0 s1).take ((n+1)*2)=LS (a++[(s0,s1)]++r)/\(ig cur n p s0 s1).length=cur.length:=by
 obtain⟨b,c⟩:=tu h g f d;unfold ig;rw[b,c];have e:(LS a++[Ow s0,Ow s1]++LS r).length=(n+1)*2:=by simp only[AK,ZK,BN,AU];omega
 refine⟨?_,by rw[AK,e,BS];omega⟩;rw[GZ e,XZ,XZ];rfl
theorem Ew{a r:List Pr}{x:Pr}(h:cur.take (n*2)=LS (a++[x]++r))(c:a.length=p)(g:n=p+1+r.length)(b:n*2<=cur.length):(jf cur n p).take ((n-1)*2)=LS (a++r)/\(jf cur n p).length=cur.length:=by
 obtain⟨d,_⟩:=tu (a:=a) (r:=[x]++r) (by rw[h,BY]) c q b;obtain⟨_,f⟩:=tu (a:=a++[x]) (r:=r) (p:=p+1) h (by simp[c]) g b;unfold jf;rw[d,show p*2+2=(p+1)*2 by omega,show n-p-1=n-(p+1) by omega,f];have e:(LS a++LS r).length=(n-1)*2:=by simp only[AK,ZK];omega
 refine⟨?_,by simp only[AK,ZK,BN,AU,BS];omega⟩;rw[BY,GZ e,XZ]
theorem Oe{a r:List Pr}{k v b:Q4}(h:cur.take (n*2)=LS (a++[(k,v)]++r))(c:a.length=p)(d:n=p+1+r.length):(cur.set (p*2+1) (Ow b)).take (n*2)=LS (a++[(k,b)]++r):=by
 rw[List.take_set,h,XZ,XZ,XZ,XZ,BY,BY,IS _ _ (by rw[ZK];omega),ZK,c,show p*2+1-p*2=1 by omega];rfl
theorem n7{v:Ra}{b:List Pr}(h:w.ownsRow base 151 2 v b.length (LS b))(m:0<b.length):∃g a cur,v=Y (Hw g 0) b.length a/\base<=g/\w.heap[g]?=some (.cells (List.toArray cur) 151 (0,0))/\b.length<=a/\a<=maxLen/\cur.length=a*2/\cur.take (b.length*2)=LS b:=by
 rcases h.2 with ⟨_,e⟩|⟨g,a,cur,c,d,f,i,j,k,l⟩
 .omega
 exact⟨g,a,cur.toList,c,d,by simpa using f,i,j,by simpa using k,l⟩
theorem rz{g a:Nat}{b:List Pr}(c:base<=g)(e:w.heap[g]?=some (.cells cur.toArray 151 (0,0)))(h:n<=a)(d:a<=maxLen)(f:cur.length=a*2)(j:cur.take (n*2)=LS b)(i:b.length=n):w.ownsRow base 151 2 (Y (Hw g 0) n a) b.length (LS b):=by
 subst i;exact⟨ZK b,.inr ⟨g,a,cur.toArray,z,c,e,h,d,by simpa using f,by simpa using j⟩⟩
theorem uw{v:Ra}{b:List Pr}(h:w.ownsRow base 151 2 v b.length (LS b)):∃a c,v=Y a b.length c/\Prs w a b:=by
 rcases MS h with ⟨c,d⟩|⟨g,a,c,_,_,e⟩
 .exact⟨none,0,by rw[c,d],.inl (AD d)⟩
 exact⟨_,a,c,e.prs⟩
theorem oN(l:List Pr):∀u∈LS l,u.oneCell'=true:=λu a=>by
 unfold LS at a;rw[JQ]at a;obtain⟨x,_,b⟩:=a;exact bp x.1 x.2 u b
theorem C7(base:Nat)(a:Q5)(c:Nat)(b:List Pr)(i:Nat)(f h:Q4)(w:Q9)(own:w.ownsRow base 151 2 (Y a b.length c) b.length (LS b))(hv:w.heap[i]?=some (.cells #[Ow f,Ow h] 151 (0,0)))(K:b.length<=1000)(o:base<=w.heap.size):Calls prog 348 #[Y a b.length c,Z (b.length:Int),Y (Hw i 0) 1 1] w λe l=>∃k,e=Q2 k/\l.ownsRow base 151 2 k (b++[(f,h)]).length (LS (b++[(f,h)]))/\Below base w l:=by
 obtain⟨L,g,m,q,r⟩:=ZR kt;have x:=LE (I g (I m (I q r)));clear g m q r;have H:(0:Int)<=(b.length:Int):=d
 have G:b.length<=c:=by
  rcases own.2 with ⟨m,s⟩|⟨g,q,cur,m,_,_,r,_⟩
  .omega
  cases m;exact r
 have y:=LE (λj u (E:[Ow f,Ow h][j]?=some u)=>show w.cell? (((Ki i 0):Addr).add j)=some u by rw[IA,BK];exact ex (cur:=[Ow f,Ow h]) hv E);have m:=LE own;clear own
 have C:∀(A:Q5),A=a->Calls prog 348 #[Y A b.length c,Z (b.length:Int),Y (Hw i 0) 1 1] w λe l=>∃k,e=Q2 k/\l.ownsRow base 151 2 k (b++[(f,h)]).length (LS (b++[(f,h)]))/\Below base w l:=by
  intro A D;subst D
  cases A with
  | none =>
   go_enter func348,ntmps348;go_wp2_with (at_builtin;refine SX _ z _ _ 40 z base underlying40 x.j z d _ b.length _ z m.j (Ki i 0) 1 1 [Ow f,Ow h] z z y.j (bp _ _) o w.heap.size z ?_;intro t l F g e q B;have s:=LE g;have r:=LE e;clear g e q)
   all_goals
    go_ret;exact⟨Y (Hw t 0) (b.length+1) l,z,by simpa only[nL,AK,EJ] using s.j,LK r.j o (λk v=>(m.j.lt k v).1)⟩
  | some J =>
   go_enter func348,ntmps348;go_wp2_with (at_builtin;refine SX _ z _ _ 40 z base underlying40 x.j z d _ b.length _ z m.j (Ki i 0) 1 1 [Ow f,Ow h] z z y.j (bp _ _) o w.heap.size z ?_;intro t l F g e q B;have s:=LE g;have r:=LE e;clear g e q)
   all_goals
    go_ret;exact⟨Y (Hw t 0) (b.length+1) l,z,by simpa only[nL,AK,EJ] using s.j,LK r.j o (λk v=>(m.j.lt k v).1)⟩
 exact C a z
theorem Bi(base:Nat)(v:Ra)(f:List Pr)(h i:Q4)(w:Q9)(own:w.ownsRow base 151 2 v f.length (LS f))(t:MP f)(hl:f.length<=1000)(hb:base<=w.heap.size):Calls prog 346 #[.agg #[Ow h,Ow i],v] w λe C=>∃b,e=Q2 b/\C.ownsRow base 151 2 b (PW (h,i,false) f).length (LS (PW (h,i,false) f))/\MP (PW (h,i,false) f)/\Below base w C:=by
 obtain⟨a,c,rfl,aV⟩:=uw own
 have I:∀o,Q3 w (w.alloc o):=λo=>LH _ _
 have l:=LE (WF a f c h _ (aV.I (I (.cells #[Ow h,Ow i] 343))) d (UW t h));go_enter func346,ntmps346;go_wp2_with fail;refine l.j.J ?_;rintro e j ⟨p,T,r,s,rfl,g⟩;have k:=(LZ w #[Ow h,Ow i] 343).I g;have q0:=k.y 0;have q1:=k.y 1;have lr:=k.lt;have H:=MK own ((I _).E (g.J (I _).size));have O:Below base w j:=((I _).E (g.J (I _).size)).J hb;have bU:w.heap.size<j.heap.size:=lr;clear k l g
 by_cases M:p<f.length/\LJ (MV f p) h=0
 .obtain⟨l,y,F,o⟩:=RV t h p T r s 1 (by rw[AI M])
  have U:∃k,(f.drop p).take 1=[(h,k)]:=F.resolve_left (by intro V;have:=BD List.length V;rw[AZ,BS,AU]at this;omega);obtain⟨k,x⟩:=U;have hF:=SG (h,i,false) (f.take p) ((f.drop p).take 1) (f.drop (p+1)) y F o;have B:=QG (h,i,false) (f.take p) ((f.drop p).take 1) (f.drop (p+1)) (by rw[<-l];exact t) y o;rw[<-l]at hF;obtain⟨g,R,cur,S,J,m,P,Q,K,E⟩:=n7 H d
  cases S
  rw[AM M];have bJ:(0:Int)<=(p:Int):=d
  have A:(p:Int)<(f.length:Int):=d
  have X:j.cell? (Ki g (p*2+1))=some (Ow k):=by
   refine ex m ?_
   have:(cur.take (f.length*2))[p*2+1]?=some (Ow k):=by
    rw[E,l,x,XZ,XZ,BY,DY (by rw[ZK,AZ];omega),ZK,AZ,show p*2+1-min p f.length*2=1 by rw[Nat.min_eq_left d];omega];rfl
   rw[FQ]at this
   split at this
   .exact this
   cases this
  have W:j.frozen? (Ki g (p*2+1))=false:=by simp[World.frozen?,m]
  have L:=setCell_eq_setRow j g (p*2+1) cur.toArray 151 (0,0) (Ow i) m
  have D:(j.setCell (Ki g (p*2+1)) (Ow i)).ownsRow base 151 2 (Y (Hw g 0) f.length c) (PW (h,i,false) f).length (LS (PW (h,i,false) f)):=by
   rw[hF];unfold SY;simp only[FD,JA];refine rz (cur:=cur.set (p*2+1) (Ow i)) J ?_ P Q (by simpa using K) ?_ ?_
   .rw[L,IY j g _ _ 151 (0,0) m];simp
   .rw[show f.length*2=f.length*2 from z]
    refine Oe (k:=h) (v:=k) (by rw[E];congr 1;rw[<-x];exact l) (by rw[AZ];omega) (by rw[BS];omega)
   simp only[AK,AZ,BS,BN,AU];omega
  have N:=LE D;have u:Hid (MP (PW (h,i,false) f)):=by show MP _;rw[hF];exact B
  have bI:g<j.heap.size:=(AR.1 m).1;clear D B hF l y F o x L m E t own H r s;go_wp2_with fail;go_ret;exact⟨_,z,N.j,u.j,O.setCell (p:=(Ki g (p*2+1))) J _⟩
 obtain⟨l,y,F,o⟩:=RV t h p T r s 0 (by rw[AF M])
 have hF:=SG (h,i,false) (f.take p) ((f.drop p).take 0) (f.drop (p+0)) y F o;have B:=QG (h,i,false) (f.take p) ((f.drop p).take 0) (f.drop (p+0)) (by rw[<-l];exact t) y o;rw[<-l]at hF;rw[AH M];unfold SY at hF B;simp only[FD,JA,IQ]at hF B l o;have D:PW (h,i,false) f=f.take p++[(h,i)]++f.drop p:=hF;have bJ:(0:Int)<=(p:Int):=d
 have L:(j.alloc (.cells #[Ow h,Ow i] 151)).heap[j.heap.size]?=some (.cells #[Ow h,Ow i] 151 (0,0)):=AV j _;have N:=H.alloc (.cells #[Ow h,Ow i] 151);have V:Below base w (j.alloc (.cells #[Ow h,Ow i] 151)):=O.alloc d _
 have bF:Hid (Calls prog 348 #[Y a f.length c,Z (p:Int),Y (Hw j.heap.size 0) 1 1] (j.alloc (.cells #[Ow h,Ow i] 151)) λe C=>∃b,e=Q2 b/\C.ownsRow base 151 2 b (PW (h,i,false) f).length (LS (PW (h,i,false) f))/\Below base (j.alloc (.cells #[Ow h,Ow i] 151)) C):=by
  show Calls _ _ _ _ _;rcases JG T with bQ|G
  .subst bQ
   rw[DG,List.drop_length,FT]at D;rw[D];exact C7 base a c f j.heap.size h i _ N L hl q
  obtain⟨g,R,cur,S,J,m,P,Q,K,E⟩:=n7 N d
  cases S
  have U:∀u∈cur.take (f.length*2),u.oneCell'=true:=by rw[E];exact oN f
  have bI:g<j.heap.size:=by have:=(H.lt g z).2;exact this
  have hcut:cur.take (f.length*2)=LS (f.take p++f.drop p):=by rw[FL];exact E
  have u:(f.take p).length=p:=by rw[AZ];omega
  have A:f.length=p+(f.drop p).length:=by rw[BS];omega
  rcases JG P with W|X
  .refine(Md g f.length p j.heap.size h i cur _ m L (by rw[K,W]) d G U).J ?_ |> (λx=>by rw[<-W];exact x)
   rintro e C ⟨b,k,rfl,r,s,h3,h4,h5,h6,h7⟩;refine⟨_,z,?_,h5.J q⟩;rw[D];refine rz (cur:=k) q h7 r s h3 ?_ (by simp only[AK,AZ,BS,BN,AU];omega);rw[h4,XZ,XZ];obtain⟨c1,x⟩:=tu hcut u A d;rw[c1];rw[AS (by rw[BS];omega)]at x;rw[x];rfl
  refine(Oa g f.length c p j.heap.size h i cur _ m L d K X d G U).J ?_
  rintro e C ⟨rfl,r,s⟩;obtain⟨x,t2⟩:=Ou (s0:=h) (s1:=i) hcut u A d;refine⟨_,z,?_,LK r q (λk b=>by cases b;exact J)⟩;rw[D];exact rz J s d Q (by rw[t2];exact K) x (by simp only[AK,AZ,BS,BN,AU];omega)
 have u:Hid (MP (PW (h,i,false) f)):=by show MP _;rw[D];exact B
 have b:=LE V;clear B hF D l y F o t own H N r s L V O;go_wp2_with (go_at_call 348;refine bF.j.J ?_;rintro e m ⟨l,rfl,k,g⟩);go_ret;exact⟨_,z,k,u.j,b.j.E g⟩
end
section
open Tryz
open Go.RowKit Go.Lib
theorem xG(f:Nat)(v:Ra)(b:List Pr)(h m:Q4)(w:Q9)(own:w.ownsRow f 151 2 v b.length (LS b))(l:MP b)(hl:b.length<=1000)(G:f<=w.heap.size):Calls prog 342 #[.agg #[Ow h],v] w λe c=>∃a,e=Q2 a/\c.ownsRow f 151 2 a (PW (h,m,true) b).length (LS (PW (h,m,true) b))/\MP (PW (h,m,true) b)/\Below f w c:=by
 obtain⟨a,c,rfl,S⟩:=uw own
 have s:∀o,Q3 w (w.alloc o):=λo=>LH _ _
 have i:=LE (WF a b c h _ (S.I (s (.cells #[Ow h] 341))) d (UW l h));go_enter func342,ntmps342;go_wp2_with fail;refine i.j.J ?_;rintro e F ⟨p,P,y,B,rfl,g⟩;have lr:w.heap.size<F.heap.size:=AC σ g.size;have x:=MK own ((s _).E (g.J (s _).size));have K:Below f w F:=((s _).E (g.J (s _).size)).J G;clear i g
 by_cases r:p<b.length/\LJ (MV b p) h=0
 .obtain⟨k,n,o,q⟩:=RV l h p P y B 1 (by rw[AI r])
  have U:∃E,(b.drop p).take 1=[(h,E)]:=o.resolve_left (by intro A;have:=BD List.length A;rw[AZ,BS,AU]at this;omega);obtain⟨E,O⟩:=U;have hF:=SG (h,m,true) (b.take p) ((b.drop p).take 1) (b.drop (p+1)) n o q;have C:=QG (h,m,true) (b.take p) ((b.drop p).take 1) (b.drop (p+1)) (by rw[<-k];exact l) n q;rw[<-k]at hF;unfold SY at hF C;simp only[IV,FT]at hF C;obtain⟨g,X,t,j,L,M,V,W,N,D⟩:=n7 x d
  cases j
  have J:∀u∈t.take (b.length*2),u.oneCell'=true:=by rw[D];exact oN b
  have hw:IntKind.i64.wrap ((p:Int)+1)=(p:Int)+1:=by simp[IntKind.wrap,IntKind.bits,IntKind.signed];omega
  rw[AM r];have T:=LE (Fx g b.length c p t F M N V d r.1 J);obtain⟨Q,R⟩:=Ew (x:=(h,E)) (a:=b.take p) (r:=b.drop (p+1)) (n:=b.length) (p:=p) (by rw[D];congr 1;rw[<-O];exact k) (by rw[AZ];omega) (by rw[BS];omega) d;have H:=LE (AG Q R);have i:=LE hF;have u:=LE C;have I:=r.1;clear hF C k n o q O M D l own x y B Q R J;go_wp2_with (go_at_call 344;refine T.j.J ?_;rintro e C ⟨rfl,n,o⟩);go_ret;refine⟨_,z,?_,by rw[i.j];exact u.j,K.E (LK n d (λk q=>by cases q;exact L))⟩;rw[i.j];exact rz L o d W (by rw[H.j.2];exact N) H.j.1 (by rw[AK,AZ,BS];omega)
 obtain⟨k,n,o,q⟩:=RV l h p P y B 0 (by rw[AF r])
 have hF:=SG (h,m,true) (b.take p) ((b.drop p).take 0) (b.drop (p+0)) n o q;rw[<-k]at hF;unfold SY at hF;simp only[IV,FT,IQ,FL]at hF;rw[AH r];have i:=LE hF;have g:=LE x;have u:=LE l;clear hF k n o q l own x y B;go_wp2_with fail;go_ret;exact⟨_,z,by rw[i.j];exact g.j,by rw[i.j];exact u.j,K⟩
theorem uY(j:Nat)(v a:Ra)(w:Q9):Sem.run prog (method (j+1) 343 (.agg #[v,a]) "loop.example/kilnstone/impl.apply") w=.ok (346,.agg #[v,a]) w:=h
theorem vR(j:Nat)(v:Ra)(w:Q9):Sem.run prog (method (j+1) 341 (.agg #[v]) "loop.example/kilnstone/impl.apply") w=.ok (342,.agg #[v]) w:=h
theorem wP(a:Q5)(n c:Nat)(h:n<=100)(w:Q9):Calls prog 289 #[Y a n c] w λe b=>(∃x,e=Q2 x)/\b=w:=by
 have b:((n:Int)<=100):=d
 go_enter func289,ntmps289;go_wp2_with fail;go_end0;exact⟨⟨_,z⟩,z⟩
theorem wC(a:Q5)(n c:Nat)(h:100<n)(w:Q9):Calls prog 289 #[Y a n c] w λe b=>e=.panicked [{ v:=.iface 337 (Z 2),recovered:=false }]/\b=w:=by
 have b:((100:Int)<n):=d
 go_enter func289,ntmps289;go_wp2_with fail;simp[bodyPost]
theorem Bp(p q:Addr)(w:Q9):CallsD prog 288 #[.pointer (some p),.pointer (some q)] .returning w λe a b=>e=Q2 (.tuple #[])/\a=.returning/\b=w:=by
 refine callsD_of_wpS func288 z λc₀ b a=>?_
 apply wpS_seq
 apply wpS_region
 simp[wpOpsS,go_sem,recoverD,a,ntmps288,Exit.thenS];refine wpS_of_wp ?_;simp only[Array.replicate,List.replicate,CJ,DM,DS,FK,EX,EL];go_wp2
 cases c₀
 simp_all [bodyPostS,results,results288]
theorem yN(p q:Addr)(a:List PanicEntry)(w:Q9)(x:Ra)(y:Int)(i:w.cell? p=some x)(j:w.cell? q=some (Z y))(f:w.frozen? p=false)(g:w.frozen? q=false)(d:p≠q):CallsD prog 288 #[.pointer (some p),.pointer (some q)] (.panicking ({ v:=.iface 337 (Z 2),recovered:=false }::a)) w λe b c =>
   e=Q2 (.tuple #[])/\b=.panicking ({ v:=.iface 337 (Z 2),recovered:=true }::a)/\c=(w.setCell p (Y none 0 0)).setCell q (Z 2):=by
 have c:∀w,(Instr.typeAssert (.iface 337 (Z 2)) 20 337 true).run prog w=.ok (.tuple #[Z 2,Q1 true]) w:=λw=>h
 refine callsD_of_wpS func288 z λc₀ e b=>?_
 apply wpS_seq
 apply wpS_region
 simp[wpOpsS,go_sem,recoverD,b,ntmps288,Exit.thenS];refine wpS_of_wp ?_;simp only[Array.replicate,List.replicate,CJ,DM,DS,FK,EX,EL];go_wp2
 cases c₀
 simp_all [bodyPostS,results,results288]
end
section
open Tryz
open Go.RowKit
variable {w:Q9}
theorem Row.below3{d:Q9}{N g:Nat}{b:List Ra}(h:Row w g b)(c:g<N)(a:Below N w d):Row d g b :=⟨AC h.lt a.size,λi v hv=>(a.cell (p:=(Ki g i)) c).E (h.cell i v hv),λi e=>(a.frozen (p:=(Ki g i)) c).E (h.froz i e)⟩
theorem Dy{b o:Nat}{c:List Pr}(h:Prs w (Hw b o) c):∀j u,(LS c)[j]?=some u->w.cell? (((Ki b o):Addr).add j)=some u:=λj u a=>by
 rw[IA];have l:j<c.length*2:=by have:=(DJ.1 a).1;rw[ZK]at this;exact this
 obtain⟨m,n,p,q,e,i,k,f⟩:=h.at (k:=j / 2) d
 cases e
 have g:=py c (j / 2) d;rcases(show j=j / 2*2\/j=j / 2*2+1 by omega) with e|e
 .rw[e]at a⊢
  rw[g.1,<-f.j]at a;rw[<-a];exact i
 rw[e]at a⊢
 rw[g.2,<-f.j]at a;rw[<-a,<-KU];exact k
theorem Lt(t e f:TypeId)(b:prog.underlying t=some (.slice e))(d:((prog.info? e).map (·.size)).isSome=true)(a:Q5)(c:Nat)(w:Q9):(Builtin.append_ #[t,t] f #[Y none 0 0,Y a 0 c]).run prog w=.ok (Y none 0 0) w:=by
 cases hq:prog.info? e with
 | none=>simp[hq]at d
 | some i =>
  cases a with
  | none=>simp[Builtin.append_,GG b,Builtin.lenOf,Builtin.firstCells,sizeOf,typeInfo,hq]
  | some g=>simp[Builtin.append_,GG b,Builtin.lenOf,Builtin.firstCells,sizeOf,typeInfo,hq,loadCells,loadCellsFrom]
structure TB(w wr:Q9)(y:Ra)(cur:List Pr):Prop where
 own:wr.ownsRow (w.heap.size+1+1+1) 151 2 y cur.length (LS cur)
 asc:MP cur
 r1:Row wr (w.heap.size+1) [Y none 0 0]
 r2:Row wr (w.heap.size+1+1) [Z 0]
 bel:Q3 w wr
theorem TB.post{wr:Q9}{c:Q5}{d:Nat}{a:List Pr}{x:Ra}(h:TB w wr (Y c a.length d) a):eq w ((wr.setCell (Ki (w.heap.size+1) 0) (Y c a.length d)).setCell (Ki (w.heap.size+1+1) 0) x) (Q2 (.tuple #[.agg #[Y c a.length d],Z 0])) a 0:=by
 have i:a.length<=d:=by
  rcases h.own.2 with ⟨b,f⟩|⟨g,e,k,b,_,_,j,_⟩
  .rw[f];omega
  cases b;exact j
 have j:OwnS wr c (LS a):=by
  rcases MS h.own with ⟨_,f⟩|⟨g,e,b,_,_,k⟩
  .exact .inl (by rw[AD f];rfl)
  cases b;exact .inr ⟨g,rfl,k⟩
 have f:∀g,c=Hw g 0->LS a≠[]->w.heap.size+1+1<g:=λg b e=>by subst b;have:=(h.own.lt g rfl).1;omega
 refine⟨c,d,rfl,i,(j.setA _ (λg b e=>by have:=f g b e;show w.heap.size+1≠g;omega) _).setA _ (λg b e=>by have:=f g b e;show w.heap.size+1+1≠g;omega) _,λg b=>?_,(h.bel.setCell (p:=(Ki (w.heap.size+1) 0)) (by show w.heap.size<=w.heap.size+1;omega) _).setCell (p:=(Ki (w.heap.size+1+1) 0)) (by show w.heap.size<=w.heap.size+1+1;omega) _⟩;unfold blk at b
 split at b
 .cases b
 cases c with
 | none=>cases b
 | some e =>
  simp at b;subst b;have:=(h.own.lt e.block rfl).1;omega
theorem Hh(a:Q5)(m:List Pr)(c:Nat)(V:Q5)(b:List Ch)(c2:Nat)(w:Q9)(f:Prs w a m)(O:MH m=true)(B:Chs w V b)(P:PZ b=true):Calls prog 249 #[LX a m.length c,Y V b.length c2] w λe g=>eq w g e (QT m b) (QW m b):=by
 obtain⟨i0,g,i,k,l⟩:=ZR kt;have M:=LE (AG g (AG i (AG k l)));clear g i k l;have cS:m.length<=100:=(gw O).1;have cL:b.length<=20:=(dr P).1.2;have k:=ZE O;have h:=LE (TU m b);unfold LX;unfold QT QW;rw[O,P];simp only[Bool.and_self,IV]
 have cT:∀(fn:Fn) (first K:Array Ra) (w:Q9),(Instr.makeFunc fn first K).run prog w=.ok (.func fn first K) w:=λ_ _ _ _=>z
 obtain⟨E,A⟩:=nMz (((w.alloc (.cells #[Y a m.length c] 42)).alloc (.cells #[Y none 0 0] 42)).alloc (.cells #[Z 0] 3));have cQ:E.heap.size=w.heap.size+1+1+1:=by rw[A];simp
 have g:Q3 w E:=by rw[A];exact((LH _ _).alloc j _).alloc ξ _
 have i:Row E w.heap.size [Y a m.length c]:=by rw[A];exact((LZ w _ _).alloc _).alloc _
 have l:Row E (w.heap.size+1) [Y none 0 0]:=by rw[A];exact(lq (w:=w.alloc _) j).alloc _
 have n:Row E (w.heap.size+1+1) [Z 0]:=by rw[A];exact lq (w:=(w.alloc _).alloc _) j
 have q0:=i.y 0;have l0:=i.lt;have I:=LE l;have bV:=LE n;have X:=LE g;have u:=LE (f.I g);have W:=LE k;clear i l n g k O P
 by_cases hz:m.length=0
 case pos =>
  obtain rfl:=AD hz;have N:Hid (TB w E (Y none 0 0) []):=⟨BU _ _ _ _,W.j,I.j,bV.j,X.j⟩;go_enter_defers func249,ntmps249;go_wp2_with (at_builtin;refine Lib.wpList_append_run _ z _ _ 40 40 z _ _ z z _ _ (Lt _ 151 _ underlying40 κ a c _) ?_);simp only[AU]at A;rw[<-A];clear A q0 l0;go_wp2_with fail;go_loopw [6,15] (λy i wr=>∃k:Nat,k<=b.length/\i=Z (k:Int)/\TB w wr y (NP [] (b.take k))) (λ_ i _=>b.length-(intOf i).toNat)
  case atStart =>
   exact⟨0,AL,z,N.j⟩
  case round =>
   obtain⟨k,S,rfl,l⟩:=hrel;have R:=h.j k;have cP:w.heap.size+1<wr.heap.size:=l.r1.lt;have bG:w.heap.size+1+1<wr.heap.size:=l.r2.lt
   by_cases H:k<b.length
   .obtain⟨Q,oo,q,r,L,rfl,cF,cH,cI,n⟩:=(B.I l.bel).at H
    have bE:Q<w.heap.size:=by
     rcases B with f|⟨o,p,g,B,_⟩
     .subst f;simp at H
     cases g;exact B
    have bF:(k:Int)<(b.length:Int):=d
    have cJ:(0:Int)<=(k:Int):=d
    have p:NP [] (b.take (k+1))=PW (q,r,L) (NP [] (b.take k)):=by rw[tn b k (empty,empty,false) H,PB,<-n.j]
    have F:=LE p;obtain⟨t,o⟩:=nMz (NP [] (b.take k));rw[<-o]at l F R;have g:=LE l;clear p o n l;have aT:=uY;have aU:=vR
    cases L with
    | false =>
     go_wp2_with (first|(go_at_call 250;refine(ye q r _).J ?_;rintro e v ⟨rfl,s⟩;have n:=((@D wr.heap.size wr).alloc C (.cells #[Ow q,Ow r,Q1 false] 102)).E (s.J j);have x:=LE (Bi (w.heap.size+1+1+1) _ t q r v (MK g.j.own n) g.j.asc d (by have:=n.size;omega));have o:=LE n;clear s n)|(go_at_call 346;refine x.j.J ?_;rintro e U ⟨T,rfl,J,G,p⟩))
     refine⟨⟨k+1,d,ν,?_⟩,by simp[intOf];omega⟩;rw[F.j];exact⟨J,G,(g.j.r1.I o.j).below3 d p,(g.j.r2.I o.j).below3 d p,g.j.bel.E ((o.j.J g.j.bel.size).E (p.J d))⟩
    | true =>
     go_wp2_with (first|(go_at_call 250;refine(zy q r _).J ?_;rintro e v ⟨rfl,s⟩;have n:=((@D wr.heap.size wr).alloc C (.cells #[Ow q,Ow r,Q1 true] 102)).E (s.J j);have x:=LE (xG (w.heap.size+1+1+1) _ t q r v (MK g.j.own n) g.j.asc d (by have:=n.size;omega));have o:=LE n;clear s n)|(go_at_call 342;refine x.j.J ?_;rintro e U ⟨T,rfl,J,G,p⟩))
     refine⟨⟨k+1,d,ν,?_⟩,by simp[intOf];omega⟩;rw[F.j];exact⟨J,G,(g.j.r1.I o.j).below3 d p,(g.j.r2.I o.j).below3 d p,g.j.bel.E ((o.j.J g.j.bel.size).E (p.J d))⟩
   have p:k=b.length:=d
   subst p;rw[DG]at l;obtain⟨F,G,rfl,q⟩:=uw l.own;have n:=l.r1.y 0;have r:=l.r1.A 0;have o:=l.r2.y 0;have s:=l.r2.A 0;have g:=LE l;clear l q
   by_cases l:(NP [] b).length<=100
   focus
    go_wp2_with (go_at_call 289;refine(wP _ _ _ l _).J ?_;rintro e v ⟨⟨x,rfl⟩,rfl⟩)
   rotate_left
   focus
    go_wp2_with (go_at_call 289;refine(wC _ _ _ d _).J ?_;rintro e v ⟨rfl,rfl⟩)
   rotate_left
   all_goals
    refine leaves_cons (f:=288) (args:=#[Dr (w.heap.size+1) 0,Dr (w.heap.size+1+1) 0]) j (by simp[go_sem]) ?_
   .refine(Bp _ _ _).J ?_
    rintro e t q ⟨rfl,rfl,rfl⟩;simp[Leaves,settle,results,results249,go_sem,n,o];exact g.j.post
   refine(yN _ _ [] _ _ _ n o r s j).J ?_
   rintro e t q ⟨rfl,rfl,rfl⟩;simp[Leaves,settle,results,results249,go_sem,n,o];exact jj z ((g.j.bel.setCell (p:=(Ki (w.heap.size+1) 0)) (by show w.heap.size<=w.heap.size+1;omega) _).setCell (p:=(Ki (w.heap.size+1+1) 0)) (by show w.heap.size<=w.heap.size+1+1;omega) _)
 case neg =>
  have cO:=u.j;rcases cO with h0|⟨ab,ao,rfl,r,q⟩
  .exact absurd (by rw[h0];rfl) hz
  have o:=LE (Dy u.j);have cN:0<m.length:=d
  go_enter_defers func249,ntmps249;go_wp2_with (at_builtin;rw[<-A];refine wpList_append_lies _ z _ _ 40 z (w.heap.size+1+1+1) 151 i0 (.agg #[Ow empty,Ow empty]) 2 32 underlying40 M.j.1 M.j.2.1 M.j.2.2.1 M.j.2.2.2 z d _ 0 [] z (BU _ _ _ _) (Ki ab ao) m.length c (LS m) z (ZK m) o.j (oN m) cN (by unfold maxLen;omega) d d E.heap.size z ?_;intro g9 aY w9 l n p cM;have g:Q3 E w9:=LK n C (λk S=>by cases S);have N:Hid (TB w w9 (Y (Hw g9 0) (0+m.length) aY) m):=LE (by rw[BK]at l;exact⟨by rw[BK];simpa using l,W.j,I.j.I g,bV.j.I g,X.j.E (g.J d)⟩);clear l n p g);clear A q0 l0 r q o;go_wp2_with fail;go_loopw [6,15] (λy i wr=>∃k:Nat,k<=b.length/\i=Z (k:Int)/\TB w wr y (NP m (b.take k))) (λ_ i _=>b.length-(intOf i).toNat)
  case atStart =>
   exact⟨0,AL,z,by rw[BK]at N;exact N.j⟩
  case round =>
   obtain⟨k,S,rfl,l⟩:=hrel;have R:=h.j k;have cP:w.heap.size+1<wr.heap.size:=l.r1.lt;have bG:w.heap.size+1+1<wr.heap.size:=l.r2.lt
   by_cases H:k<b.length
   .obtain⟨Q,oo,q,r,L,rfl,cF,cH,cI,n⟩:=(B.I l.bel).at H
    have bE:Q<w.heap.size:=by
     rcases B with f|⟨o,p,g,B,_⟩
     .subst f;simp at H
     cases g;exact B
    have bF:(k:Int)<(b.length:Int):=d
    have cJ:(0:Int)<=(k:Int):=d
    have p:NP m (b.take (k+1))=PW (q,r,L) (NP m (b.take k)):=by rw[tn b k (empty,empty,false) H,PB,<-n.j]
    have F:=LE p;obtain⟨t,o⟩:=nMz (NP m (b.take k));rw[<-o]at l F R;have g:=LE l;clear p o n l;have aT:=uY;have aU:=vR
    cases L with
    | false =>
     go_wp2_with (first|(go_at_call 250;refine(ye q r _).J ?_;rintro e v ⟨rfl,s⟩;have n:=((@D wr.heap.size wr).alloc C (.cells #[Ow q,Ow r,Q1 false] 102)).E (s.J j);have x:=LE (Bi (w.heap.size+1+1+1) _ t q r v (MK g.j.own n) g.j.asc d (by have:=n.size;omega));have o:=LE n;clear s n)|(go_at_call 346;refine x.j.J ?_;rintro e U ⟨T,rfl,J,G,p⟩))
     refine⟨⟨k+1,d,ν,?_⟩,by simp[intOf];omega⟩;rw[F.j];exact⟨J,G,(g.j.r1.I o.j).below3 d p,(g.j.r2.I o.j).below3 d p,g.j.bel.E ((o.j.J g.j.bel.size).E (p.J d))⟩
    | true =>
     go_wp2_with (first|(go_at_call 250;refine(zy q r _).J ?_;rintro e v ⟨rfl,s⟩;have n:=((@D wr.heap.size wr).alloc C (.cells #[Ow q,Ow r,Q1 true] 102)).E (s.J j);have x:=LE (xG (w.heap.size+1+1+1) _ t q r v (MK g.j.own n) g.j.asc d (by have:=n.size;omega));have o:=LE n;clear s n)|(go_at_call 342;refine x.j.J ?_;rintro e U ⟨T,rfl,J,G,p⟩))
     refine⟨⟨k+1,d,ν,?_⟩,by simp[intOf];omega⟩;rw[F.j];exact⟨J,G,(g.j.r1.I o.j).below3 d p,(g.j.r2.I o.j).below3 d p,g.j.bel.E ((o.j.J g.j.bel.size).E (p.J d))⟩
   have p:k=b.length:=d
   subst p;rw[DG]at l;obtain⟨F,G,rfl,q⟩:=uw l.own;have n:=l.r1.y 0;have r:=l.r1.A 0;have o:=l.r2.y 0;have s:=l.r2.A 0;have g:=LE l;clear l q
   by_cases l:(NP m b).length<=100
   focus
    go_wp2_with (go_at_call 289;refine(wP _ _ _ l _).J ?_;rintro e v ⟨⟨x,rfl⟩,rfl⟩)
   rotate_left
   focus
    go_wp2_with (go_at_call 289;refine(wC _ _ _ d _).J ?_;rintro e v ⟨rfl,rfl⟩)
   rotate_left
   all_goals
    refine leaves_cons (f:=288) (args:=#[Dr (w.heap.size+1) 0,Dr (w.heap.size+1+1) 0]) j (by simp[go_sem]) ?_
   .refine(Bp _ _ _).J ?_
    rintro e t q ⟨rfl,rfl,rfl⟩;simp[Leaves,settle,results,results249,go_sem,n,o];exact g.j.post
   refine(yN _ _ [] _ _ _ n o r s j).J ?_
   rintro e t q ⟨rfl,rfl,rfl⟩;simp[Leaves,settle,results,results249,go_sem,n,o];exact jj z ((g.j.bel.setCell (p:=(Ki (w.heap.size+1) 0)) (by show w.heap.size<=w.heap.size+1;omega) _).setCell (p:=(Ki (w.heap.size+1+1) 0)) (by show w.heap.size<=w.heap.size+1+1;omega) _)
theorem vY(a:Q5)(f:List Pr)(c:Nat)(y:Q5)(b:List Ch)(E:Nat)(w:Q9)(h:Prs w a f)(V:f.length<=1048576)(W:∀x∈f,x.1.size<=1048576/\x.2.size<=1048576)(G:Chs w y b)(T:b.length<=1048576)(U:∀x∈b,x.1.size<=1048576/\x.2.1.size<=1048576):Calls prog 190 #[LX a f.length c,Y y b.length E] w λe d=>eq w d e (QT f b) (QW f b):=by
 have r:=LE (λd i=>ky a f c d i V W);have B:=LE (λd i=>ke y b E d i T U);have A:=LE (λd i g k m=>Hh a f c y b E d i g k m)
 have i:∀d k,Q3 w ((w.alloc d).alloc k):=λd k=>(LH _ _).alloc j _
 obtain⟨R,p⟩:=u (QT f b);obtain⟨C,k⟩:=u (QW f b);rw[<-p,<-k]at A⊢;unfold eq at A;unfold LX at A⊢
 cases g:MH f with
 | false =>
  have s:C=1:=by rw[k];unfold QW;rw[g];rfl
  have F:R=[]:=by rw[p];unfold QT;rw[<-k,s];rfl
  subst F s;rw[g]at r;clear p k;go_enter func190,ntmps190;go_wp2_with (go_at_call 97;refine(r.j _ (h.I (i _ _))).J ?_;rintro e v ⟨rfl,d⟩;have t:v.cell? (Ki (w.heap.size+1) 0)=some (Y none 0 0):=OG d l j;have L:v.frozen? (Ki (w.heap.size+1) 0)=false:=UL d l j;have M:w.heap.size+1<v.heap.size:=AC j d.size);refine H (v:=.tuple #[LX none 0 0,Z 1]) (by simp[results,results190,go_sem,LX,t]) z (jj z ?_);exact((i _ _).E (d.J q)).setCell (p:=(Ki (w.heap.size+1) 0)) (by show w.heap.size<=w.heap.size+1;omega) _
 | true =>
  rw[g]at r
  cases m:PZ b with
  | false =>
   have s:C=1:=by rw[k];unfold QW;rw[g,m];rfl
   have F:R=[]:=by rw[p];unfold QT;rw[<-k,s];rfl
   subst F s;rw[m]at B;clear p k;go_enter func190,ntmps190
   go_wp2_with (first|(go_at_call 97;refine(r.j _ (h.I (i _ _))).J ?_;rintro e v ⟨rfl,d⟩;have o:=LE d;clear d)|(go_at_call 189;refine(B.j _ (G.I ((i _ _).E (o.j.J q)))).J ?_;rintro e n ⟨rfl,D⟩;have d:=o.j;have x:=d.E (D.J d.size);have t:n.cell? (Ki (w.heap.size+1) 0)=some (Y none 0 0):=OG x l j;have L:n.frozen? (Ki (w.heap.size+1) 0)=false:=UL x l j;have M:w.heap.size+1<n.heap.size:=AC j x.size))
   refine H (v:=.tuple #[LX none 0 0,Z 1]) (by simp[results,results190,go_sem,LX,t]) z (jj z ?_);exact((i _ _).E (x.J q)).setCell (p:=(Ki (w.heap.size+1) 0)) (by show w.heap.size<=w.heap.size+1;omega) _
  | true =>
   rw[m]at B;clear p k;have Q:=LE g;have N:=LE m;clear g m;go_enter func190,ntmps190
   go_wp2_with (first|(go_at_call 97;refine(r.j _ (h.I (i _ _))).J ?_;rintro e v ⟨rfl,d⟩;have o:=LE d;clear d)|(go_at_call 189;refine(B.j _ (G.I ((i _ _).E (o.j.J q)))).J ?_;rintro e n ⟨rfl,D⟩;have k:=LE (o.j.E (D.J o.j.size));clear D;have q0:n.cell? (Ki w.heap.size 0)=some (Y a f.length c):=OG k.j l q)|(go_at_call 249;have g:Q3 w n:=(i _ _).E (k.j.J q);refine(A.j _ (h.I g) Q.j (G.I g) N.j).J ?_;rintro e s ⟨x,K,rfl,S,J,I,p⟩;have m:=k.j.E (p.J k.j.size);have t:s.cell? (Ki (w.heap.size+1) 0)=some (Y none 0 0):=OG m l j;have L:s.frozen? (Ki (w.heap.size+1) 0)=false:=UL m l j;have M:w.heap.size+1<s.heap.size:=AC j m.size;have X:w.heap.size+1<n.heap.size:=AC j k.j.size;have P:=LE J;have F:=LE I;have O:=LE (g.E (p.J g.size));clear J I p m g))
   refine H (v:=.tuple #[LX x R.length K,Z C]) (by simp[results,results190,go_sem,LX,t]) z ⟨x,K,z,S,?_,λg d=>by have:=F.j g d;omega,?_⟩
   .exact P.j.setA _ (λg d m=>by have:=F.j g (by subst d;exact ND _ _ _ (yx m));show w.heap.size+1≠g;omega) _
   exact O.j.setCell (p:=(Ki (w.heap.size+1) 0)) (by show w.heap.size<=w.heap.size+1;omega) _
theorem Oq(W S L T b F R U O:Int)(a:Q5)(o:List Pr)(c:Nat)(w:Q9)(D:0<=b/\b<=1)(B:1<=F/\F<=999999000)(u0:0<=U/\U<=99):Calls prog 153 #[NA W S L T b F R U O a o.length c] w λx k=>tQ w k x ⟨0,W,S,L,T,b,F,R,U+1,O,o,[(false,2+b*hv S+U,NB 3 L (F+U) empty W),(true,0,empty)]⟩ a c:=by
 have i:0<=hv S/\hv S<=99:=by by_cases f:8<=S/\S<=200;have:=QS f;omega;rw[eh f];omega
 have y:=LE (λk=>vf W S L T b F R U O a o.length c k D.1 D.2 B.1 B.2 u0.1 u0.2);unfold NA at y⊢;obtain⟨q,g⟩:=nMz (2+b*hv S)
 have dU:2<=q/\q<=101:=by
  rcases(show b=0\/b=1 by omega) with e|e
  .subst e;omega
  subst e;omega
 rw[<-g]at y⊢;clear g i;have dV:IntKind.i64.wrap (U+1)=U+1:=by simp[IntKind.wrap,IntKind.bits,IntKind.signed];omega
 go_enter func153,ntmps153;go_wp2_with fail;obtain⟨r,e⟩:=nMz ((w.alloc (.cells (sK W S L T b F R U O (Y a o.length c)) 44)).alloc (.cells (dK 0 0 0 0 0 0 0 0 0 0 (Y none 0 0) (Y none 0 0)) 115));have n:Q3 w r:=by rw[e];exact(LH _ _).alloc j _
 have dL:w.heap.size+1+1<=r.heap.size:=by rw[e];simp
 have i:Dep r w.heap.size (w.heap.size+1) (λg=>Row g w.heap.size (sJ W S L T b F R U O (Y a o.length c))):=by rw[e];exact(Qr w _ _).I (LH _ _)
 have m:Dep r (w.heap.size+1) (w.heap.size+1+1) (λg=>Row g (w.heap.size+1) (dJ 0 0 0 0 0 0 0 0 0 0 (Y none 0 0) (Y none 0 0))):=by rw[e];exact jl (km (w:=w.alloc _) j) AA d j
 rw[<-e];clear e;refine(y.j _).J ?_;rintro e v1 ⟨g,rfl,t,s⟩;have dM:r.heap.size<=v1.heap.size:=s.size;have p:=i.I s;clear i;have i:=p;clear p;have p:=m.I s;clear m;have m:=p;clear p;have p:=n.E (s.J n.size);clear n;have n:=p;clear p;clear s;have dQ:=t.ge;have H:=LE t;clear t;go_wp2_with fail;refine(tA r.heap.size g _ [] (q+U) (F+U) L W _ H.j d j d d d d).J ?_;rintro e x1 ⟨⟨x,rfl⟩,v8,t,s,_⟩;have dN:=s.size;have p:=i.low s d;clear i;have i:=p;clear p;have p:=m.low s d;clear m;have m:=p;clear p;have p:=n.E (s.J d);clear n;have n:=p;clear p;have v:=LE t;clear t s;go_wp2_with fail;refine(uh r.heap.size g _ _ _ _ _ _ _ v.j d j).J ?_;rintro e x2 ⟨⟨x9,rfl⟩,⟨v9,s⟩,t⟩;have dP:=t.size;have p:=i.low t d;clear i;have i:=p;clear p
 have p:=m.low t d;clear m;have m:=p;clear p;have p:=n.E (t.J d);clear n;have n:=p;clear p;clear t v;simp only[EL,EX]at s;obtain⟨p,t,rfl⟩:=s.sl;simp only[BN,AU,Nat.reduceAdd]at s;have y0:=s.row.y 0;have yl:=s.row.lt;have dR:w.heap.size≠g:=d
 have cY:w.heap.size+1≠g:=d
 have cZ:¬g=w.heap.size+1:=d
 have dB:¬g=w.heap.size:=d
 have v:=LE s;clear s;obtain⟨cF,cH,cI,cJ,cL,cM,cN,cO,cP,cQ⟩:=i.q.k10;have bJ:=i.q.A 0;have bP:=i.q.A 1;have bQ:=i.q.A 2;have bR:=i.q.A 3;have bT:=i.q.A 4;have bU:=i.q.A 5;have bV:=i.q.A 6;have bW:=i.q.A 7;have bY:=i.q.A 8;have bZ:=i.q.A 9;have cS:=i.q.lt;obtain⟨I,J,M,N,P,Q,V,X,h,C,E,G⟩:=m.q.k12;obtain⟨aX,aY,aZ,bB,bC,bE,bF,bG,bH,bI,aT,aU⟩:=m.q.z12;have cE:=m.q.lt;go_wp2_with fail;refine AN (S:=λk=>k.cell? (Ki w.heap.size 0)=some (Z W)/\k.cell? (Ki w.heap.size 1)=some (Z S)/\k.cell? (Ki w.heap.size 2)=some (Z L)/\k.cell? (Ki w.heap.size 3)=some (Z T)/\k.cell? (Ki w.heap.size 4)=some (Z b)/\k.cell? (Ki w.heap.size 5)=some (Z F)/\k.cell? (Ki w.heap.size 6)=some (Z R)/\k.cell? (Ki w.heap.size 7)=some (Z (U+1))/\k.cell? (Ki w.heap.size 8)=some (Z O)/\k.cell? (Ki w.heap.size 9)=some (Y a o.length c)/\k.cell? (Ki g 0)=some (Y p 2 t)) κ (⟨l,l,l,l,l,l,l,l,l,l,l⟩) (λs=>?_)
 refine TY 0 (.agg (sK W S L T b F R (U+1) O (Y a o.length c))) z s (TY 1 (Dr g 0) z s (TY 2 (Dr g 0) z s (TY 3 (Dr g 0) z s (TY 4 (Y p 2 t) z s (TY 5 (.agg (dK 0 W S L T b F R (U+1) O (Y a o.length c) (Y p 2 t))) z s ?_)))));simp only[PS];refine RD 6 z (λK k=>?_);go_simp;refine k.j _ _ (⟨l,l,l,l,l,l,l,l,l,l,l⟩) (λcX=>?_);clear k K
 try simp only[PS]
 refine DN ?_;go_wp2
 have A:∀g,blk p 2=some g->r.heap.size<=g:=λg k=>by
  unfold blk at k
  split at k
  .cases k
  cases p with
  | none=>cases k
  | some K=>simp at k;subst k;exact(v.j.own.lt K.block z).1
 have u:OwnS x2 p (LG [(false,q+U,NB 3 L (F+U) empty W),(true,0,empty)]):=by
  rcases MS v.j.own with ⟨_,e2⟩|⟨g,K,e1,_,_,e4⟩
  .simp at e2
  have e5:p=Hw g 0:=by injection e1
  subst e5;exact .inr ⟨g,z,e4⟩
 refine AE (v:=MT ⟨0,W,S,L,T,b,F,R,U+1,O,o,[(false,q+U,NB 3 L (F+U) empty W),(true,0,empty)]⟩ a c p t) (by simp[results,results153,go_sem,MT,I,J,M,N,P,Q,V,X,h,C,E,G]) z ⟨p,t,z,wt v.j.own,?_,?_,?_⟩
 .refine OwnS.drew' ?_
  iterate 12(refine OwnS.set' ?_ _ (λg k K=>by have:=A g (by subst k;exact ND _ _ _ d);show w.heap.size+1≠g;omega) _)
  iterate 1(refine OwnS.set' ?_ _ (λg k K=>by have:=A g (by subst k;exact ND _ _ _ d);show w.heap.size≠g;omega) _)
  exact u
 .exactλg k=>by have:=A g k;omega
 refine Below.drew ?_
 iterate 12(refine GS ?_ (by show w.heap.size<=w.heap.size+1;omega) _)
 iterate 1(refine GS ?_ (by show w.heap.size<=w.heap.size;omega) _)
 exact n
theorem zM(W S L T H F R U O:Int)(a:Q5)(n c:Nat)(w:Q9)(o:0<=U)(m:U<=100000):Calls prog 151 #[NA W S L T H F R U O a n c] w λe g=>e=Q2 (Z (hv S-U))/\Q3 w g:=by
 have k:0<=hv S/\hv S<=99:=by by_cases b:8<=S/\S<=200;have:=QS b;omega;rw[eh b];omega
 have i:=LE (λg=>it S g);obtain⟨Q,j⟩:=x (hv S);rw[<-j.j]at k i⊢;have p:IntKind.i64.wrap (Q-U)=Q-U:=by simp[IntKind.wrap,IntKind.bits,IntKind.signed];omega
 unfold NA;go_enter func151,ntmps151;go_wp2_with fail;refine AN (S:=λg=>g.cell? (Ki w.heap.size 1)=some (Z S)/\g.cell? (Ki w.heap.size 7)=some (Z U)) h (⟨l,l⟩) (λd=>?_);refine TY 0 (Dr w.heap.size 1) z d (TY 1 (Z S) z d (TY 3 (Dr w.heap.size 7) z d (TY 4 (Z U) z d ?_)));simp only[PS];refine RD 2 z (λK g=>?_);refine LM f 66 #[Z S] l (i.j _) ?_;rintro e q ⟨rfl,rfl⟩;refine⟨_,z,?_⟩;refine g.j _ _ d (λ_=>?_);clear g K
 try simp only[PS]
 refine TY 5 (Z (Q-U)) z d ?_;simp only[PS];refine RD 6 z (λK g=>?_);go_simp;refine g.j _ _ d (λ_=>?_);clear g K
 try simp only[PS]
 refine DN ?_;go_wp2;go_ret;exact⟨z,(LH _ _).drew⟩
theorem tD{a n o:Nat}{i:Q5}{c:List OpT}(h:w.ownsRow a 167 3 (Y i n o) c.length (LG c)):n=c.length/\OwnS w i (LG c)/\∀g,blk i c.length=some g->a<=g/\g<w.heap.size:=by
 rcases MS h with ⟨b,e⟩|⟨g,j,b,e,l,f⟩
 .injection b with b l f
  rw[e];exact⟨d,.inl (by rw[AD e];rfl),λg k=>by simp[blk]at k⟩
 injection b with b m p
 subst b
 exact⟨m,.inr ⟨g,z,f⟩,λq k=>by
  unfold blk at k
  split at k
  .cases k
  simp at k;subst k;exact⟨e,f.lt⟩⟩
theorem Bm(W S L T H F R U O:Int)(a:Q5)(I:List Pr)(c:Nat)(u:Q5)(i:List Ch)(c2:Nat)(w:Q9)(s:Prs w a I)(hc:I.length<=c)(hl:I.length<=1048576)(hs:∀o∈I,o.1.size<=1048576/\o.2.size<=1048576)(h2:Chs w u i)(bB:i.length<=1048576)(A:∀o∈i,o.1.size<=1048576/\o.2.1.size<=1048576):Calls prog 131 #[NA W S L T H F R U O a I.length c,Y u i.length c2] w λo C=>kw w C o (QV W S L T H F R U O I i):=by
 have m:=LE (λC e=>sm W S L T H F R U O a I c C e hc hl hs);have E:=LE (λC e=>ke u i c2 C e bB A);have j:=LE (λC e g=>vY a I c u i c2 C e hl hs g bB A);unfold eq LX at j;have cF:=xm I i;have bJ:=LE (sZ I i (λo=>o.1.size<=1048576/\o.2.size<=1048576) hs A);obtain⟨p,V⟩:=x (QV W S L T H F R U O I i);rw[<-V.j];have k:=V.j;unfold QV at k;clear V;obtain⟨J,bI⟩:=x (QT I i);obtain⟨C1,bW⟩:=x (QW I i);rw[<-bI.j]at cF bJ;rw[<-bI.j,<-bW.j]at j k;have HH:=LE s;have aS:=LE h2;have bZ:=LE A;clear s h2 hs A;unfold NA at m⊢;have g:=LE k;clear k;go_enter func131,ntmps131;go_upto_region 1 with fail;generalize k:w.alloc _=v1;obtain⟨n,t,v⟩:=LP k;clear k;generalize r:v1.alloc _=v2;obtain⟨q,y,k⟩:=LP r;clear r;rw[t]at k;have B:StB w v2 (sJ W S L T H F R U O (Y a I.length c)) (λ_=>True):=⟨n.E (q.J n.size),(v.I q).q,k.q,XP (λ_=>trivial)⟩
 have r:w.heap.size+1<v2.heap.size:=k.q.lt;clear n q v k t y;refine AX ?_;refine BE z 44 _ z w.heap.size 0 z _ _ B.r1.range underlying44 z QD ?_;simp only[PS];go_wp2_with fail;refine(m.j _ (HH.j.I B.e)).J ?_;rintro o v3 ⟨rfl,t⟩;replace B:=B.I t;clear t r m
 cases hok:OW W S L T H F R U O I
 focus
  obtain rfl:p=LO 1:=by rw[g.j,AF (by rw[hok];simp)]
  go_upto_region 2 with fail;refine B.noR 1 _ _ z γ z z z z (λy K P=>?_)
 rotate_left
 focus
  go_wp2_with fail;refine(E.j _ (aS.j.I B.e)).J ?_;rintro o v4 ⟨rfl,t⟩;replace B:=B.I t;clear t E
  cases hokb:PZ i
  focus
   obtain rfl:p=LO 1:=by rw[g.j,AF (by rw[hokb];simp)]
   go_upto_region 2 with fail;refine B.noR 1 _ _ z γ z z z z (λy K P=>?_)
  rotate_left
  focus
   have k:=g.j;rw[G (by rw[hok,hokb];rfl)]at k;obtain⟨hW,hS,cI,hT,hH,hF,hU,hO,_⟩:=an hok;have hQ:=QS hS;clear hok hokb g;obtain⟨n,rfl⟩:∃n:Nat,W=(n:Int):=⟨W.toNat,d⟩;have g:(n:Int).toNat=n:=d
   rw[g]at k;obtain⟨m,q⟩:=nMz (56-n);rw[<-q]at k;have bT:n+m=56:=d
   clear g q;have HF:=LE (λC e=>nT u i c2 C e bB bZ.j);have cJ:=iw i;have l:=LE (λC=>nJ (MN i) (n:Int) C d);have bU:=p7 (MN i).size (n:Int) d d;have r:=Ag (MN i) L (F+U) n m bT d d cI d;have E:=LE (λg q C e t=>zf (n:Int) S L T H F R U O g J q C e t d bJ.j);have aQ:=LE (λg q C=>zM (n:Int) S L T H F R U O g J.length q C hU.1 d);have h:=LE (λg q C=>vf (n:Int) S L T H F R U O g J.length q C hH.1 hH.2 hF.1 hF.2 hU.1 d);have D:=LE (λq g v N C hW t M=>zH q g v N (2+H*hv S+U) (F+U) L n m (MN i) C hW t d M bT d d (by have:0<=H*hv S:=Int.mul_nonneg hH.1 d;omega) (by rcases(show H=0\/H=1 by omega) with e|e<;>subst e<;>omega) d d);unfold NA at E aQ h;obtain⟨Q,HQ⟩:=x (hv S)
   obtain⟨N,HN⟩:=x (QB (MN i).size (n:Int));obtain⟨bo,q⟩:=nMz (MN i);obtain⟨X,hcut⟩:=nMz (PK (MN i) L (F+U) n m);have v:(X.length:Int)=N:=by rw[hcut,HN.j];exact r d
   rw[<-hcut]at D k;rw[<-q]at HF l D cJ bU;rw[<-q]at HN;rw[<-HN.j]at bU l;rw[<-HQ.j]at hQ hU E aQ h D k;rw[<-q,<-HN.j]at k;clear r hcut q;obtain⟨q,r⟩:=nMz (2+H*Q)
   have cW:2<=q/\q<=101:=by
    rcases(show H=0\/H=1 by omega) with e|e
    .subst e;omega
    subst e;omega
   rw[<-r]at h D k;clear r;obtain⟨r,bY⟩:=x (MY (NC J) (n:Int));rw[<-bY.j]at E k;have V:=LE k;have aZ:=LE v;clear k v;have cX:IntKind.i64.wrap (U+N)=U+N:=by simp[IntKind.wrap,IntKind.bits,IntKind.signed];omega
   have cY:IntKind.i64.wrap (O+N)=O+N:=by simp[IntKind.wrap,IntKind.bits,IntKind.signed];omega
   have c9:=B.r1.y 9;have f:=B.r1.lt;go_wp2_with fail;clear c9 f;refine(j.j _ (HH.j.I B.e) (aS.j.I B.e)).J ?_;rintro o v5 ⟨M,b,rfl,bQ,k,hg,t⟩;have l4:=B.r2.lt;have v:=RX (lo:=v4.heap.size) k TS hg;replace B:=B.I t;clear t j k;go_upto_region 4 with fail;generalize k:v5.alloc _=v6;obtain⟨t,bH,j⟩:=LP k;clear k;have k:=j.q;obtain⟨X5,f⟩:=nMz v5.heap.size;rw[<-f]at k⊢;have l5:w.heap.size+1<X5:=by rw[f];exact B.r2.lt
   replace B:=B.I t;replace v:=v.I t;clear t j bH f;generalize Value.tuple _=T0;generalize Value.agg _=A0
   try generalize Value.agg _=A9
   by_cases hC:C1=0
   rotate_left
   focus
    obtain rfl:p=LO 2:=by rw[V.j,AF hC]
    have cV:(C1 == 0)=false:=by simp[hC]
    go_upto_region 5 with fail;refine B.noR 2 _ _ z γ z z z z (λy K P=>?_)
   rotate_left
   focus
    have cT:=LE hC;subst hC;have t:=k.y 0;have j:=k.lt;have c9:=B.r1.y 9;have f9:=B.r1.A 9;have f:=B.r1.lt;go_upto_region 7 with fail;clear t j c9 f9 f;replace B:=B.set 9 σ (Y M J.length b);replace v:=v.V (NZ (BC v6 (some w.heap.size)) 9 (Y M J.length b)) (λg e=>by cases e;omega);generalize t:World.setCell _ _ _=v7 at B v⊢;clear t k;go_wp2_with fail;refine(HF.j _ (aS.j.I B.e)).J ?_;rintro o v8 ⟨rfl,t⟩;replace B:=B.I t;replace v:=v.I t;clear t HF;have t:=B.r1.y 0;have f:=B.r1.lt;go_wp2_with fail;clear t f;refine(l.j _).J ?_;rintro o v9 ⟨rfl,t⟩;replace B:=B.I t;replace v:=v.I t;clear t l;go_upto_region 9 with fail;refine AX ?_;refine BE z 44 _ z w.heap.size 0 z _ _ B.r1.range underlying44 z QD ?_;simp only[PS];go_wp2_with fail
    refine(E.j _ _ _ v.q.prs bQ).J ?_;rintro o va ⟨rfl,t⟩;replace B:=B.I t;replace v:=v.I t;clear t E
    by_cases l:r<=Q-1
    rotate_left
    focus
     obtain rfl:p=LO 3:=by rw[V.j,G trivial,AF l]
     rw[AH l];go_upto_region 10 with fail;refine B.noR 3 _ _ z γ z z z z (λy K P=>?_)
    rotate_left
    focus
     rw[AM l];go_upto_region 11 with fail;refine AX ?_;refine VD z (Z N) γ ?_;simp only[PS];refine BE z 44 _ z w.heap.size 0 z _ _ B.r1.range underlying44 z QD ?_;simp only[PS];go_wp2_with fail;refine(aQ.j _ _ _).J ?_;rintro o vb ⟨rfl,t⟩;replace B:=B.I t;replace v:=v.I t;clear t aQ;have cS:=B.r2.lt;have cP:=v.top
     have cQ:∀g,blk M J.length=some g->g<vb.heap.size:=λg k=>gz v.q k
     by_cases hp:N<=Q-U
     rotate_left
     focus
      obtain rfl:p=LO 4:=by rw[V.j,G trivial,G l,AF hp]
      have cN:Q-U<N:=d
      go_upto_region 12 with fail;refine B.noR 4 _ _ z γ z z z z (λy K P=>?_)
     rotate_left
     focus
      have cN:¬(Q-U<N):=d
      obtain rfl:p=⟨0,(n:Int),S,L,T,H,F,R,U+N,O+N,J,NE (q+U) X⟩:=by rw[V.j,G trivial,G l,G hp]
      go_upto_region 13 with fail;refine AX ?_;refine BE z 44 _ z w.heap.size 0 z _ _ B.r1.range underlying44 z QD ?_;simp only[PS];go_wp2_with fail;refine(h.j _ _ _).J ?_;rintro o vc ⟨g,rfl,E,t⟩;replace B:=B.I t;replace v:=v.I t;have lb:=t.size;clear t h;go_wp2_with fail;refine(D.j _ _ _ _ _ E lb (by have:=aZ.j;simp;omega)).J ?_;rintro o vd ⟨⟨x5,rfl⟩,v',E,t,-⟩;replace B:=B.low t cS;replace v:=v.low t cP;clear t D
      obtain⟨h,yn,j,rfl⟩:∃a n c,v'=Y a n c:=by
       rcases MS E.own with ⟨e,_⟩|⟨g,t,e,_⟩<;>exact⟨_,_,_,e⟩
      rw[EL]at E;obtain⟨bV,bC,bE⟩:=tD E.own;rw[TN]at bV;subst bV;have t:=B.r1.y 7;have D:=B.r1.y 8;have f7:=B.r1.A 7;have f8:=B.r1.A 8;have f:=B.r1.lt;go_upto_region 17 with fail;clear t f7 D f8 f;replace B:=(B.set 7 σ (Z (U+N))).set 8 σ (Z (O+N));replace E:=(E.set w.heap.size 7 d (Z (U+N))).set w.heap.size 8 d (Z (O+N));replace v:=(v.V (NZ (BC vd (some w.heap.size)) 7 (Z (U+N))) (λg e=>by cases e;omega)).V (NZ (BC _ (some w.heap.size)) 8 (Z (O+N))) (λg e=>by cases e;omega);generalize t:World.setCell (World.setCell _ _ _) _ _=D at B E v⊢;clear t bC;have dD:=@AB D.heap.size D;refine WN (6) (S:=λC=>Row C w.heap.size (sJ (n:Int) S L T H F R (U+N) (O+N) (Y M J.length b))/\C.cell? (Ki g 0)=some (Y h X.length j)) κ (⟨B.r1.I dD.drew,(E.I dD.drew).row.y 0⟩) (λf=>?_)
      refine ME 0 (.agg (sK (n:Int) S L T H F R (U+N) (O+N) (Y M J.length b))) z (AT ⟨ρ,λw E=>by obtain⟨z0,z1⟩:=E;exact SA 44 _ z _ 0 z _ _ z0.range underlying44 z QD⟩) f (OK 1 (Dr g 0) z f (OK 2 (Dr g 0) z f (ME 3 (Dr g 0) z (AT ⟨ρ,λw E=>by obtain⟨z0,z1⟩:=E;have t:=DP _ _ z1;go_simp⟩) f (OK 4 (Y h X.length j) z f (OK 5 (.agg (dK 0 (n:Int) S L T H F R (U+N) (O+N) (Y M J.length b) (Y h X.length j))) z f ?_)))));simp only[PS];refine QZ (rs:=[6]) κ σ ?_;refine AllReadyT.last z (λKq cH=>?_);have S8:=B.I (@AB D.heap.size D).drew;refine VC z 115 _ _ z (w.heap.size+1) 0 (dK 0 (n:Int) S L T H F R (U+N) (O+N) (Y M J.length b) (Y h X.length j)) z z (S8.r2.there z) UH κ ?_
      refine cH.j _ _ trivial (λ_=>?_)
      try simp only[PS]
      refine VE κ ?_ _;have dd:=(@AB D.heap.size D).drew;have cO:=TN (q+U) X;obtain⟨_,bC,bF⟩:=tD (MK E.own dd);have aM:=wt E.own
      have bE:=λg k=>(bF g k).1
      obtain⟨K,C⟩:=S8.fin ⟨0,(n:Int),S,L,T,H,F,R,U+N,O+N,J,NE (q+U) X⟩ M b h j bQ ⟨(v.I dd).q,bC,gy (N:=vb.heap.size) cQ (λg k=>bE g k)⟩ (λg k=>by have:=hg g k;omega) (λg k=>by have:=bE g k;omega);have P:=LE C;clear C;simp only[RU,TN]at K P;generalize k:World.setCells _ _ _ _=y at K P⊢;clear k B
      try go_wp2
      refine YG 4 results131 (a:=M) (c:=b) (b:=h) (e:=j) _ ?_ (by simp only[RU,TN];exact K) ?_ P.j (by rw[cO]at aM⊢;exact aM)<;>rfl
  rotate_left 3
 rotate_left 4
 all_goals
  try simp only[PS]
  clear B
  try go_wp2
  refine YG 4 results131 _ ?_ K ?_ P.j<;>rfl
theorem zU(W S L T H F R U O:Int)(a:Q5)(o:List Pr)(c:Nat)(w:Q9)(m:Prs w a o)(hc:o.length<=c)(l:o.length<=1048576)(x:∀i∈o,i.1.size<=1048576/\i.2.size<=1048576):Calls prog 132 #[NA W S L T H F R U O a o.length c] w λi k=>kw w k i (RM W S L T H F R U O o):=by
 have g:=LE (λk e=>sm W S L T H F R U O a o c k e hc l x);have P:=LE m;clear m x;obtain⟨N,I⟩:=nHz (RM W S L T H F R U O o);rw[<-I.j];unfold NA at g⊢;go_enter func132,ntmps132;go_upto_region 1 with fail;generalize e:w.alloc _=v1;obtain⟨p,r,s⟩:=LP e;clear e;generalize n:v1.alloc _=A;obtain⟨q,t,e⟩:=LP n;clear n;rw[r]at e;have n:StB w A (sJ W S L T H F R U O (Y a o.length c)) (λ_=>True):=⟨p.E (q.J p.size),(s.I q).q,e.q,XP (λ_=>trivial)⟩;have u:w.heap.size+1<A.heap.size:=e.q.lt;clear p q s e r t;refine AX ?_;refine BE z 44 _ z w.heap.size 0 z _ _ n.r1.range underlying44 z QD ?_;simp only[PS];go_wp2_with fail;refine(g.j _ (P.j.I n.e)).J ?_;rintro i K ⟨rfl,e⟩;replace n:=n.I e;have l3:w.heap.size+1<K.heap.size:=n.r2.lt;clear e u g
 cases hok:OW W S L T H F R U O o with
 | false =>
  obtain rfl:N=LO 1:=by rw[I.j];unfold RM;rw[AF (by rw[hok];simp)]
  go_upto_region 2 with fail;refine n.noR 1 _ _ z γ z z z z (λy B C=>?_)
  try simp only[PS]
  clear n
  try go_wp2
  refine YG 2 results132 _ ?_ B ?_ C.j<;>rfl
 | true =>
  obtain rfl:N=⟨0,W,S,L,T,H,F,R,U,0,o,[(true,0,empty)]⟩:=by rw[I.j];unfold RM;rw[AI hok]
  have aT:0<=H/\H<=1/\1<=F/\F<=999999000/\0<=U/\U<=99:=by
   unfold OW VO at hok;simp at hok;have e:=QS (S:=S) d;omega
  obtain⟨h0,h1,f0,f1,u0,u1⟩:=aT;have p:=LE (λk=>vf W S L T H F R U O a o.length c k h0 h1 f0 f1 u0 u1);unfold NA at p;clear hok;go_upto_region 3 with fail;refine AX ?_;refine BE z 44 _ z w.heap.size 0 z _ _ n.r1.range underlying44 z QD ?_;simp only[PS];go_wp2_with fail;refine(p.j _).J ?_;rintro i v4 ⟨g,rfl,q,e⟩;replace n:=n.I e;have l4:=e.size;clear e p;go_wp2_with fail;refine(uh K.heap.size g _ [] _ _ _ _ _ q l4 j).J ?_;rintro i v5 ⟨⟨x5,rfl⟩,⟨v',q⟩,e⟩;replace n:=n.low e l3;clear e
  obtain⟨r,p,rfl,aV⟩:∃r p,v'=Y (Hw r 0) 1 p/\K.heap.size<=r:=by
   rcases MS q.own with ⟨s,e⟩|⟨g,p,s,e,t,u⟩
   .simp at e
   exact⟨g,p,s,e⟩
  have s:=n.r1.y 8;have e:=n.r1.y 9;have t:=n.r1.A 8;have u:=n.r1.lt;go_wp2_with fail;clear s t e u;replace n:=n.set 8 j (Z 0);replace q:=q.set w.heap.size 8 d (Z 0);generalize e:World.setCell _ _ _=M at n q⊢;clear e;have aU:r<M.heap.size:=(q.own.lt r z).2;have u:=gu a o c M (P.j.I n.e) l;unfold LX at u;refine u.J ?_;rintro i v7 ⟨s,t,rfl,aS,v,J,e⟩;unfold LX;have E:=RX (lo:=M.heap.size) v TS J;replace n:=n.I e;replace q:=q.I e;clear e u v;have e:=n.r1.y 9;have v:=n.r1.A 9;have u:=n.r1.lt;go_upto_region 7 with fail;clear e v u;replace n:=n.set 9 j (Y s o.length t);replace q:=q.set w.heap.size 9 d (Y s o.length t);replace E:=E.V (NZ (BC v7 (some w.heap.size)) 9 (Y s o.length t)) (λg e=>by cases e;omega)
  generalize e:World.setCell _ _ _=v at n q E⊢;clear e;have V:=@D v.heap.size v;refine WN (6) (S:=λk=>Row k w.heap.size (sJ W S L T H F R U 0 (Y s o.length t))/\k.cell? (Ki g 0)=some (Y (Hw r 0) 1 p)) h (⟨n.r1.I V.drew,(q.I V.drew).row.y 0⟩) (λu=>?_);refine ME 0 (.agg (sK W S L T H F R U 0 (Y s o.length t))) z (AT ⟨ρ,λw q=>by obtain⟨G,b⟩:=q;exact SA 44 _ z _ 0 z _ _ G.range underlying44 z QD⟩) u (OK 1 (Dr g 0) z u (OK 2 (Dr g 0) z u (ME 3 (Dr g 0) z (AT ⟨ρ,λw q=>by obtain⟨G,b⟩:=q;have e:=DP _ _ b;go_simp⟩) u (OK 4 (Y (Hw r 0) 1 p) z u (OK 5 (.agg (dK 0 W S L T H F R U 0 (Y s o.length t) (Y (Hw r 0) 1 p))) z u ?_)))))
  simp only[PS];refine QZ (rs:=[6]) h j ?_;refine AllReadyT.last z (λKq aQ=>?_);have Q:=n.I (@D v.heap.size v).drew;refine VC z 115 _ _ z (w.heap.size+1) 0 (dK 0 W S L T H F R U 0 (Y s o.length t) (Y (Hw r 0) 1 p)) z z (Q.r2.there z) UH h ?_;refine aQ.j _ _ trivial (λ_=>?_)
  try simp only[PS]
  refine VE h ?_ _;have X:=@D v.heap.size v;have f:=wt q.own
  have aR:ic s o.length (Hw r 0) 1:=Hg J (λg k=>by rw[ND _ _ _ j]at k;cases k;exact aU)
  obtain⟨B,y⟩:=Q.fin ⟨0,W,S,L,T,H,F,R,U,0,o,[(true,0,empty)]⟩ s t (Hw r 0) p aS ⟨(E.I X.drew).q,.inr ⟨r,z,(UA (MK q.own X.drew))⟩,aR⟩ (λg k=>by have:=J g k;omega) (λg k=>by rw[ND _ _ _ j]at k;cases k;omega)
  have C:=LE y;clear y;generalize k:World.setCells _ _ _ _=y at B C⊢;clear k n
  try go_wp2
  refine YG 2 results132 _ ?_ B ?_ C.j f<;>rfl
