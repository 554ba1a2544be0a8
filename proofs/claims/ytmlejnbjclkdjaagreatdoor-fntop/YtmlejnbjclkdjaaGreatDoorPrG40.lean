import Derived.Test.YtmlejnbjclkdjaaGreatDoorPrDrvOf
import Derived.Test.YtmlejnbjclkdjaaGreatDoorPrG39
import Derived.Sort.LoopGhostIn
import Derived.Scope
import Derived.Stop.RegionWithIn
import Derived.Sort.CutIn
import Derived.Test.YtmlejnbjclkdjaaGreatDoorPrWoE
set_option maxHeartbeats 32000000
set_option maxRecDepth 8000
set_option linter.all false
namespace Go.Proofs.YtmlejnbjclkdjaaGreatDoor
open _root_.ByteArray(empty)
section
open Tryz
open Go.RowKit
def SK:List (Int×List Int)->List (List Int)->List (List Int)
 | [],ps=>ps
 | x::r,ps=>SK r (ps.set x.1.toNat x.2)
theorem ey:∀(hs:List (Int×List Int)) (ps:List (List Int)),(SK hs ps).length=ps.length
 | [],_=>rfl
 | x::r,ps=>by rw[SK,ey r];simp
theorem pS:∀(hs:List (Int×List Int)) (x:Int×List Int) (ps:List (List Int)),SK (hs++[x]) ps=(SK hs ps).set x.1.toNat x.2
 | [],_,_=>rfl
 | y::r,x,ps=>by rw[EI,SK,pS r];rfl
theorem zg(a:List (Int×List Int))(b:List (List Int))(k:Nat)(h:k<a.length):SK (a.take (k+1)) b=(SK (a.take k) b).set (a.getD k (0,[])).1.toNat (a.getD k (0,[])).2:=by
 rw[AY h,pS];simp[List.getD,h]
theorem Aw(k:Nat)(a:M6)(n c:Nat)(w:Nb):Sem.run prog (method (k+1) 113 (.slice a n c) "loop.example/kilnstone/impl.read") w=.ok (241,.slice a n c) w:=κ
theorem oQ(k:Nat)(v a:Nc)(w:Nb):Sem.run prog (method (k+1) 257 (.agg #[v,a]) "loop.example/kilnstone/impl.read") w=.ok (257,.agg #[v,a]) w:=κ
set_option maxRecDepth 100000 in
theorem rV(a:M6)(f:List (Int×List Int))(c:Nat)(g n q m:Nat)(l:List (List Int))(w:Nb)(h:Hld w a f)(M:∀p∈f,p.2.length=64)(K:∀p∈f,0<=p.1)(hl:f.length<=300)(J:PR w g l)(S:l.length=n)(R:n<=200)(T:m<n):Calls prog 257 #[.agg #[.slice a f.length c,.iface 113 (.slice (Mw g 0) n q)],.int .i64 (m:Int)] w λe b=>e=M3 (.tuple #[.agg (((SK f l).getD m []).map (Value.int .u8)).toArray,M0 true])/\Below w.heap.size w b:=by
 obtain⟨d,G⟩:∃d,Hid (d=(SK f l).getD m []):=⟨_,Z rfl⟩;rw[<-G.l]
 have N:∀b i,Below w.heap.size w ((w.alloc b).alloc i):=λb i=>(LO _ _).alloc σ _
 go_enter func257,ntmps257;go_wp2_with fail;obtain⟨F,b⟩:∃F,F=((w.alloc (.cells #[.slice a f.length c,.iface 113 (.slice (Mw g 0) n q)] 257)).alloc (.cells UZ 142)):=⟨_,rfl⟩;have C:=N (.cells #[.slice a f.length c,.iface 113 (.slice (Mw g 0) n q)] 257) (.cells UZ 142);have E:=(Cx.new w (.slice a f.length c) (.iface 113 (.slice (Mw g 0) n q)) 257).I (LD _ (.cells UZ 142));have j:=LM (w.alloc (.cells #[.slice a f.length c,.iface 113 (.slice (Mw g 0) n q)] 257)) UZ 142 (w.heap.size+1) σ;rw[<-b]at C E j;go_loopw [6] (λi wr=>∃k:Nat,k<=f.length/\i=.int .i64 ((k:Int)-1)/\Hid (d=(SK (f.take k) l).getD m [])/\wr=F) (λi _=>((intOf i)+1).toNat)
 case atStart=>exact⟨f.length,AA _,rfl,by show _=_;rw[CW,G.l],by rw[b];kernel_rfl⟩
 case round =>
  obtain⟨k,X,rfl,z,rfl⟩:=hrel;have U:=E.c0;have V:=E.c1;have I:=Z j;have H:=Z C;clear j b;rcases k with _|j
  ·have o:=J.I C
   have u:=λk=>Aw k (Mw g 0) n q wr
   have p:d.length=64:=by rw[z.l];exact bh J.len (by show m<l.length;omega)
   have t:(d.map (Value.int .u8)).toArray.size=64:=by simp[p]
   have B:Hid ((prog.info? 142).map (·.size)=some (d.map (Value.int .u8)).length):=by show _=_;rw[BU,p];kernel_rfl
   have D:Hid (l.getD m []=d):=z.l.symm;go_wp2_with fail;refine(Ig g n q m l _ o S R T).z ?_;rw[D.l];rintro e v ⟨rfl,b⟩;have s:=(I.l.I b).there (n:=64) κ;have r:=Z (Below.then H.l (AA _) b);clear b o u U V;go_wp2_with (with_reducible refine MW 142 _ _ rfl ?_;refine BI rfl 142 _ _ rfl (w.heap.size+1) 0 (d.map (Value.int .u8)).toArray rfl rfl (by rw[t];exact s) (by rw[t];kernel_rfl) (GH (WB d)) ?_);refine AJ (v:=.tuple #[.agg (d.map (Value.int .u8)).toArray,M0 true]) (yj (p:=4) (u:=5) results257 _ _ (w.heap.size+1) 0 rfl (d.map (Value.int .u8)) _ (EG _ _ _ _ (by rw[BU,p];exact s)) underlying142 rfl B.l) rfl ⟨rfl,?_⟩;exact Go.below_setCells ω _ _ _ r.l
  have u:j<f.length:=ω
  obtain⟨b,o,y,x,rfl,W,r,A⟩:=(h.I C).at u;have p:x.length=64:=M (y,x) (by rw[A.l];simp[List.getD,u]);have O:=r 0 _ rfl;rw[FX]at O;have s:((j+1:Nat):Int)-1=(j:Int):=ω
  rw[s];clear s
  by_cases Q:y=(m:Int)
  ·subst Q
   have P:m<(SK (f.take j) l).length:=by rw[ey];omega
   have D:Hid (x=d):=by
    show _=_;rw[z.l,zg f l j u,<-A.l,BM];simp[List.getD,P]
   rw[D.l]at r p;have t:(d.map (Value.int .u8)).toArray.size=64:=by simp[p]
   have B:Hid ((prog.info? 142).map (·.size)=some (d.map (Value.int .u8)).length):=by show _=_;rw[BU,p];kernel_rfl
   have L:Hid (wr.rangeAt b (o+j*65+1) (d.map (Value.int .u8))):=λi v hv=>by
    have:=r (i+1) v (by simpa using hv);rw[<-this];congr 2;omega
   have s:=I.l.there (n:=64) κ;clear r
   go_wp2_with (first|(with_reducible refine OF 142 _ rfl ?_;refine AS rfl 142 _ rfl b (o+j*65+1) rfl (d.map (Value.int .u8)) _ L.l underlying142 rfl B.l ?_)|(with_reducible refine MW 142 _ _ rfl ?_;refine BI rfl 142 _ _ rfl (w.heap.size+1) 0 (d.map (Value.int .u8)).toArray rfl rfl (by rw[t];exact s) (by rw[t];kernel_rfl) (GH (WB d)) ?_))
   refine AJ (v:=.tuple #[.agg (d.map (Value.int .u8)).toArray,M0 true]) (yj (p:=4) (u:=5) results257 _ _ (w.heap.size+1) 0 rfl (d.map (Value.int .u8)) _ (EG _ _ _ _ (by rw[BU,p];exact s)) underlying142 rfl B.l) rfl ⟨rfl,?_⟩;exact Go.below_setCells ω _ _ _ H.l
  have i:Hid (d=(SK (f.take j) l).getD m []):=by
   show _=_;rw[z.l,zg f l j u,<-A.l];have t:0<=y:=K (y,x) (by rw[A.l];simp[List.getD,u]);have s:y.toNat≠m:=ω
   simp[List.getD,FR s]
  clear r;go_wp2;go_roundw
  case rel=>exact⟨j,ω,ν,i,trivial⟩
  case measure=>simp[intOf]
theorem qk:∀(hs:List (Int×List Int)) (ps:List (List Int)),(∀p∈hs,p.2.length=64)->(∀p∈ps,p.length=64)->∀p∈SK hs ps,p.length=64
 | [],ps,_,h=>h
 | x::r,ps,h1,h2=>qk r _ (λp hp=>h1 p (DO _ hp)) (λp hp=>by
  rcases FG hp with h3|h3
  ·exact h2 p h3
  ·rw[h3];exact h1 x (EE ..))
theorem rq:∀(ws:List (Int×Y)) (ss:List Y),OI (SK (ME ws) (ss.map LI))=xhE ws ss
 | [],ss=>by
  show(ss.map LI).map strOfNums=ss;rw[IE];exact JR (λs=>TM s) ss
 | x::r,ss=>by
  have:=rq r (ss.set x.1.toNat x.2);rw[JY]at this;exact this
section
set_option maxHeartbeats 4000000
@[reducible] def YT(x:RtT):Nc:=ON x.1 x.2.1 x.2.2.1 x.2.2.2
def UR(s:Y)(n:Int):RtT :=match MA s n with
 | none=>OA
 | some (_,l,m,p)=>if p.size=5/\MZ m (RU p) (RK p) l n=s then (m,RU p,RK p,l) else OA
theorem Jr(s:Y)(n:Int)(w:Nb)(k l m:Int)(p:Y)(E:MA s n=some (k,l,m,p))(Q:∀b,Below w.heap.size w b->Calls prog 13 #[Mz s,.int .i64 n] b λe a=>e=M3 (.tuple #[OE k l m p,M0 true])/\Below b.heap.size b a)(D:p.size=5):Calls prog 191 #[Mz s,.int .i64 n] w λe a=>e=M3 (YT (UR s n))/\Below w.heap.size w a:=by
 have M:∀o,Below w.heap.size w (w.alloc o):=λo=>(AB _ _).alloc (AA _) _
 obtain⟨_,_,cL,cM,cI,cJ,cN⟩:=SA E;obtain⟨i,c⟩:∃i,Hid (i=UR s n):=⟨_,MF rfl⟩;obtain⟨H,t⟩:∃H,Hid (H=RU p):=⟨_,MF rfl⟩;obtain⟨F,r⟩:∃F,Hid (F=RK p):=⟨_,MF rfl⟩;obtain⟨f,J⟩:∃f,Hid (f=MZ m H F l n):=⟨_,MF rfl⟩
 have L:Hid (i=if f=s then (m,H,F,l) else OA):=by
  show _=_;rw[c.l,J.l,t.l,r.l];unfold UR;rw[E];simp[D]
 rw[<-c.l];clear E c;have bY:(p.size:Int)=5:=ω
 have X:(LI p).length=5:=by rw[NH,D]
 have c:=fv p;have g:=YW 1 ((LI p).take 1) τ (λy d=>c y (DE d));have j:=YW 4 (((LI p).drop 1).take 4) τ (λy d=>c y (FE (DE d)));have cB:0<=H:=by rw[t.l];exact g.1
 have cC:H<=255:=by rw[t.l];have:=g.2;unfold RU;omega
 have bZ:0<=F:=by rw[r.l];exact j.1
 have b7:F<=4294967295:=by rw[r.l];have:=j.2;unfold RK;omega
 have cE:IntKind.i64.wrap H=H:=by simp[IntKind.wrap,IntKind.bits,IntKind.signed];omega
 have cA:IntKind.i64.wrap F=F:=by simp[IntKind.wrap,IntKind.bits,IntKind.signed];omega
 obtain⟨d,h⟩:∃d,Hid (d=LI p):=⟨_,MF rfl⟩;have K:Hid (∀y∈d,0<=y/\y<=255):=by rw[h.l];exact c
 have T:Hid (H=NY ((d.drop 0).take 1)):=by show _=_;rw[h.l,FD];exact t.l
 have S:Hid (F=NY ((d.drop 1).take 4)):=by show _=_;rw[h.l];exact r.l
 rw[<-h.l]at X;clear c g j
 have B:=λb=>uI m H F l n b
 rw[<-J.l]at B;have W:=MF (λb=>Jd b p);go_enter func191,ntmps191;go_wp2_with (go_at_call 13;refine(Q _ (M _)).z ?_;rintro e c ⟨rfl,C⟩;have z:=MF ((B4.new w (.int .i64 0) (.int .i64 0) (.int .i64 0) (.int .i64 0) _).I C);have g:=MF ((M _).j (C.z σ));clear C;obtain⟨q,b,N,v,G,x,R⟩:=W.l (c.alloc (.cells #[.int .i64 k,.int .i64 l,.int .i64 m,Mz p] 51));rw[D]at N R;have j:=(B4.new c (.int .i64 k) (.int .i64 l) (.int .i64 m) (Mz p) 51).I v;have I:=MF ((z.l.alloc _).I v);have y:=MF ((g.l.alloc g.l.size _).j (v.z (g.l.alloc g.l.size _).size));have bT:w.heap.size<c.heap.size:=z.l.lt;clear z g v;simp only[BD]at G x N;rw[<-h.l]at x;have u:=MF x;clear x;have p1:=j.c1;have p2:=j.c2;have p3:=j.c3;have A:=MF j;clear j);have bW:c.heap.size+1<b.heap.size:=ω
 have v:Hid (∀o,Fm (b.alloc o) (c.heap.size+1) d):=λo=>u.l.I ((AB _ _).alloc (AA _) _) bW
 have cH:(1:Int)<=(q:Int):=ω
 have cF:¬q=1:=ω
 have g:Hid (∀a,Below b.heap.size b a->a.cell? ⟨c.heap.size,1,none⟩=some (.int .i64 l)/\a.cell? ⟨c.heap.size,2,none⟩=some (.int .i64 m)/\Below b.heap.size b a):=λa j=>⟨(A.l.I j).c1,(A.l.I j).c2,j⟩
 refine(λj:Wr ?G=>?main) ⟨?pf⟩
 case main =>
  go_region_held3 (λa=>a.cell? ⟨c.heap.size,1,none⟩=some (.int .i64 l)/\a.cell? ⟨c.heap.size,2,none⟩=some (.int .i64 m)/\Below b.heap.size b a)
   (first|assumption|exact g.l _ ((AB _ _).drew)|exact g.l _ (((AB _ _).drew).alloc (AA _) _)|exact g.l _ (((AB _ _).alloc (AA _) _).drew)|exact g.l _ ((AB _ _).alloc (AA _) _))
   (first
    | (have o:=a;go_at_call 87;refine(bw (c.heap.size+1) d K 1 4 _ ω ω _ (by first|exact u.l.drew|exact(v.l _).drew) F S.l).z ?_;rintro e O ⟨rfl,rfl⟩)
    | (go_at_call 87;refine(bw (c.heap.size+1) d K 0 1 _ ω ω _ (by first|exact u.l.drew|exact(v.l _).drew) H T.l).z ?_;rintro e O ⟨rfl,rfl⟩;have a:=True.intro))
  all_goals exact j.l
 have a:=(B4.new b (.int .i64 m) (.int .i64 H) (.int .i64 F) (.int .i64 l) 28).drew;have j:Below b.heap.size b (b.alloc (.cells #[.int .i64 m,.int .i64 H,.int .i64 F,.int .i64 l] 28)).drew:=((AB _ _).alloc (AA _) _).drew;obtain⟨P,o⟩:∃P,P=(b.alloc (.cells #[.int .i64 m,.int .i64 H,.int .i64 F,.int .i64 l] 28)).drew:=⟨_,rfl⟩;rw[G]at a;rw[<-o]at a j⊢;have V:=MF (I.l.I j);have x:=MF (y.l.j (j.z (by have:=y.l.size;omega)));have U:=MF a;clear o g j I y A u v p1 p2 p3;have q0:=a.c0;have q1:=a.c1;have q2:=a.c2;have q3:=a.c3;clear a
 by_cases a:f=s
 focus
  have o:Hid (i=(m,H,F,l)):=by show _=_;rw[L.l,AE a]
  have I:=MF a;clear a;rw[I.l]at B
 rotate_left
 focus
  have o:Hid (i=OA):=by show _=_;rw[L.l,AG a]
  have hG:(!f.toList == s.toList)=true:=by simp only[JH,EO];intro C;rw[DF,DF]at C;exact a (EP (JB C))
  clear a
 rotate_left
 all_goals
  go_wp2_with (first|(go_at_call 201;refine(B _).z ?_;rintro e O ⟨rfl,j⟩;have a:=V.l.I j;have g:=U.l.I j;have u:=MF (x.l.j (j.z x.l.size));clear j;have v:=a.c0;have y:=a.c1;have z:=a.c2;have A:=a.c3;have f0:=a.f0;have f1:=a.f1;have f2:=a.f2;have f3:=a.f3;have r0:=g.c0;have r1:=g.c1;have r2:=g.c2;have r3:=g.c3;clear a g))
 ·refine AJ (v:=ON m H F l) (by simp[results,results191,go_sem,v,y,z,A]) rfl ⟨by rw[o.l],?_⟩
  exact(((u.l.setCell (AA _) _).setCell (AA _) _).setCell (AA _) _).setCell (AA _) _
 refine AJ (v:=ON 0 0 0 0) (by simp[results,results191,go_sem,v,y,z,A]) rfl ⟨by rw[o.l];rfl,?_⟩
 exact(((u.l.setCell (AA _) _).setCell (AA _) _).setCell (AA _) _).setCell (AA _) _
theorem oW(s:Y)(n:Int)(w:Nb)(k l m:Int)(p:Y)(b:Bool)(i:∀a,Below w.heap.size w a->Calls prog 13 #[Mz s,.int .i64 n] a λe c=>e=M3 (.tuple #[OE k l m p,M0 b])/\Below a.heap.size a c)(v:p.size<=64)(g:b=false\/p.size≠5)(j:Hid (UR s n=OA)):Calls prog 191 #[Mz s,.int .i64 n] w λe c=>e=M3 (YT (UR s n))/\Below w.heap.size w c:=by
 have f:∀o,Below w.heap.size w (w.alloc o):=λo=>(AB _ _).alloc (AA _) _
 cases b
 focus
  focus
  rotate_left
 rotate_left
 focus
  focus
   have u:((p.size:Int) != 5)=true:=by
    have h:=g.resolve_left σ;simp;omega
  rotate_left
 rotate_left
 all_goals
  clear g;go_enter func191,ntmps191;go_wp2_with (go_at_call 13;refine(i _ (f _)).z ?_;rintro e B ⟨rfl,c⟩;have a:=MF ((B4.new w (.int .i64 0) (.int .i64 0) (.int .i64 0) (.int .i64 0) _).I c);have d:=MF ((f _).j (c.z σ));clear c;have h:=λo=>(a.l.alloc o).c0;have q:=λo=>(a.l.alloc o).c1;have r:=λo=>(a.l.alloc o).c2;have t:=λo=>(a.l.alloc o).c3;have x:=λo=>(a.l.alloc o).f0;have y:=λo=>(a.l.alloc o).f1;have z:=λo=>(a.l.alloc o).f2;have A:=λo=>(a.l.alloc o).f3);refine AJ (v:=ON 0 0 0 0) (by simp[results,results191,go_sem,h,q,r,t]) rfl ⟨by rw[j.l];rfl,?_⟩;exact((((d.l.alloc d.l.size _).setCell (AA _) _).setCell (AA _) _).setCell (AA _) _).setCell (AA _) _
theorem Jh(s:Y)(n:Int)(w:Nb)(d:TypeId)(v:Nc)(hv:w.cell? ⟨1,0,none⟩=some (.iface d v))(f:w.cell? ⟨0,0,none⟩=some (.iface 200 (.agg #[Mv 3 91])))(g:1<w.heap.size):Calls prog 191 #[Mz s,.int .i64 n] w λe a=>e=M3 (YT (UR s n))/\Below w.heap.size w a:=by
 have a:=λwx (c:Below w.heap.size w wx)=>mt s n wx d v ((c.cell (p:=⟨1,0,none⟩) g).j hv) ((c.cell (p:=⟨0,0,none⟩) (by show 0<_;omega)).j f) (by have:=c.size;omega)
 cases hR:MA s n with
 | none =>
  rw[hR]at a;exact oW s n w 0 0 0 ⟨#[]⟩ false a δ (.inl rfl) (by show _=_;unfold UR;rw[hR])
 | some x =>
  obtain⟨k,l,m,p⟩:=x;rw[hR]at a
  by_cases b:p.size=5
  ·exact Jr s n w k l m p hR a b
  exact oW s n w k l m p true a (SA hR).2.2.2.2.2.2 (.inr b) (by show _=_;unfold UR;rw[hR];simp[b])
theorem Mf(x:RtT)(w:Nb)(h:0<=x.1):Calls prog 192 #[YT x] w λe a=>e=M3 (.int .i64 (x.1 % 2))/\Below w.heap.size w a:=by
 obtain⟨t,a,b,c⟩:=x;go_enter func192,ntmps192;go_wp2;go_ret;refine⟨?_,(AB _ _).alloc (AA _) _⟩;have:t.tmod 2=t % 2:=EK h
 first|rfl|simp[this]
theorem Lh(s:Y)(a n:Int)(d:a=0\/a=1):(if (UR s n).1 % 2=a then UR s n else OA)=(MV s a n).getD OA:=by
 unfold UR MV
 cases MA s n with
 | none=>exact ite_self _
 | some x =>
  obtain⟨k,l,m,p⟩:=x
  by_cases b:p.size=5/\MZ m (RU p) (RK p) l n=s
  ·by_cases c:m % 2=a
   ·simp[b.1,b.2,c]
   simp[b.1,b.2,c]
  simp only[AG b]
  have c:¬(p.size=5/\MZ m (RU p) (RK p) l n=s/\m % 2=a):=λh=>b ⟨h.1,h.2.1⟩
  rw[AG c];exact ite_self _
theorem xK(s:Y)(n:Int):0<=(UR s n).1:=by
 unfold UR
 cases h:MA s n with
 | none=>simp[OA]
 | some x =>
  obtain⟨k,l,m,p⟩:=x;have:=(SA h).2.2.1;show 0<=(if p.size=5/\MZ m (RU p) (RK p) l n=s then (m,RU p,RK p,l) else OA).1
  split
  ·show 0<=m;omega
  simp[OA]
theorem Gb(s u:Nc)(x:List Int)(a n:Int)(w:Nb)(X:a=0\/a=1)(m:x.length=64)
  (C:∀b,Below w.heap.size w b->Calls prog 257 #[.agg #[s,u],.int .i64 a] b λe c=>e=M3 (.tuple #[.agg (x.map (Value.int .u8)).toArray,M0 true])/\Below b.heap.size b c)
  (M:TypeId)(v:Nc)(hv:w.cell? ⟨1,0,none⟩=some (.iface M v))(J:w.cell? ⟨0,0,none⟩=some (.iface 200 (.agg #[Mv 3 91])))(hg:1<w.heap.size):Calls prog 145 #[.iface 257 (.agg #[s,u]),.int .i64 a,.int .i64 n] w λe c=>e=M3 (YT ((MV (strOfNums x) a n).getD OA))/\Below w.heap.size w c:=by
 have E:∀o,Below w.heap.size w (w.alloc o):=λo=>(AB _ _).alloc (AA _) _
 rw[<-Lh _ a n X]
 have c:=λb (r:Below w.heap.size w b)=>Jh (strOfNums x) n b M v ((r.cell (p:=⟨1,0,none⟩) hg).j hv) ((r.cell (p:=⟨0,0,none⟩) (by show 0<_;omega)).j J) (by have:=r.size;omega)
 have y:=xK (strOfNums x) n;obtain⟨o,d⟩:∃o,UR (strOfNums x) n=o:=⟨_,rfl⟩;rw[d]at c y⊢;clear d hv J;obtain⟨t,h,f,l⟩:=o;have bI:(x.map (Value.int .u8)).toArray.size=64:=by simp[m]
 have N:Hid ((prog.info? 142).map (·.size)=some (x.map (Value.int .u8)).length):=by show _=_;rw[BU,m];kernel_rfl
 have d:=λk b=>oQ k s u b
 obtain⟨L,D⟩:∃L,Hid (L=strOfNums x):=⟨_,Z rfl⟩;rw[<-D.l]at c;have U:=Z (λb=>Mf (t,h,f,l) b y);have P:=Z c;have O:=Z C;clear c C
 by_cases K:t % 2=a
 focus
  have c:(if ((t,h,f,l):RtT).1 % 2=a then ((t,h,f,l):RtT) else OA)=(t,h,f,l):=AE K
 rotate_left
 focus
  have c:(if ((t,h,f,l):RtT).1 % 2=a then ((t,h,f,l):RtT) else OA)=OA:=AG K
 rotate_left
 all_goals
  rw[c];clear c;go_enter func145,ntmps145;go_wp2_with fail;refine(O.l _ (E _)).z ?_;rintro e w2 ⟨rfl,c⟩;have Q:=Z ((B4.new w (.int .i64 0) (.int .i64 0) (.int .i64 0) (.int .i64 0) 28).I c);have A:=Z ((E (.cells #[.int .i64 0,.int .i64 0,.int .i64 0,.int .i64 0] 28)).j (c.z σ));clear c d
  go_wp2_with (first
   | (with_reducible refine MW 142 _ _ rfl ?_;refine df rfl 142 _ _ rfl (x.map (Value.int .u8)) (WB x) rfl rfl _ _ (by rw[BU,m];kernel_rfl) N.l ?_;intro b z q W;have V:=z.text (P:=prog) x 0 64 64 m (λi hi=>by simp[List.getD,show i<x.length by omega]) 22 5 9 underlying22 underlying5 underlying9;rw[<-D.l]at V;have T:=Z (Q.l.I q);have k:=Z (A.l.j (q.z A.l.size));clear q W z)
   | (go_at_call 191;refine(P.l _ k.l).z ?_;rintro e w3 ⟨rfl,p⟩;have R:=Z (T.l.I p);have g:=Z (k.l.j (p.z k.l.size));clear p)
   | (go_at_call 192;refine(U.l _).z ?_;rintro e w4 ⟨rfl,j⟩;have S:=Z ((R.l.alloc _).I j);have d:=(B4.new w3 (.int .i64 t) (.int .i64 h) (.int .i64 f) (.int .i64 l) 28).I j;have B:=Z ((g.l.alloc g.l.size _).j (j.z (g.l.alloc g.l.size _).size));clear j;have r0:=d.c0;have r1:=d.c1;have r2:=d.c2;have r3:=d.c3;clear d;have c:=S.l;have F:=c.c0;have G:=c.c1;have H:=c.c2;have I:=c.c3;have f0:=c.f0;have f1:=c.f1;have f2:=c.f2;have f3:=c.f3;clear c))
 ·refine AJ (v:=ON t h f l) (by simp[results,results145,go_sem,F,G,H,I]) rfl ⟨rfl,?_⟩
  exact(((B.l.setCell (AA _) _).setCell (AA _) _).setCell (AA _) _).setCell (AA _) _
 refine AJ (v:=ON 0 0 0 0) (by simp[results,results145,go_sem,F,G,H,I]) rfl ⟨rfl,?_⟩
 exact(((B.l.setCell (AA _) _).setCell (AA _) _).setCell (AA _) _).setCell (AA _) _
theorem Kj(a:M6)(d:List Y)(c:Nat)(g:M6)(f:List (Int×Y))(j:Nat)(n:Int)(w:Nb)(h:Strs w a d)(u:Wrs w g f)(v:d.length<=1048576)(o:f.length<=1048576)(y:∀s∈d,s.size<=1048576)(p:∀x∈f,x.2.size<=1048576)(l:¬(LE d f=true/\1<=n/\n<=8)):Calls prog 95 #[LF a d.length c g f.length j,.int .i64 n] w λe b=>e=M3 (ON 0 0 0 0)/\Below w.heap.size w b:=by
 have k:∀b i,Below w.heap.size w ((w.alloc b).alloc i):=λb i=>((AB _ _).alloc (AA _) _).alloc σ _
 cases hok:LE d f
 focus
  clear l;go_enter func95,ntmps95;go_wp2_with fail;refine(NF a d c g f j _ (h.I (k _ _)) (u.I (k _ _)) v o y p).z ?_;rw[hok];rintro e E ⟨rfl,i⟩;have b:=((B4.new (w.alloc (.cells #[.slice a d.length c,.slice g f.length j] 26)) (.int .i64 0) (.int .i64 0) (.int .i64 0) (.int .i64 0) 28).I i);rw[BD]at b;have m:=Z ((k (.cells #[.slice a d.length c,.slice g f.length j] 26) (.cells #[.int .i64 0,.int .i64 0,.int .i64 0,.int .i64 0] 28)).j (i.z ξ));clear i;have q:=b.c0;have r:=b.c1;have s:=b.c2;have t:=b.c3;have z:=b.f0;have A:=b.f1;have B:=b.f2;have C:=b.f3;clear b;go_wp2
 rotate_left
 focus
  have D:decide (1<=n/\n<=8)=false:=AI (λx=>l ⟨hok,x⟩);clear l;go_enter func95,ntmps95;go_wp2_with fail;refine(NF a d c g f j _ (h.I (k _ _)) (u.I (k _ _)) v o y p).z ?_;rw[hok];rintro e E ⟨rfl,i⟩;have b:=((B4.new (w.alloc (.cells #[.slice a d.length c,.slice g f.length j] 26)) (.int .i64 0) (.int .i64 0) (.int .i64 0) (.int .i64 0) 28).I i);rw[BD]at b;have m:=Z ((k (.cells #[.slice a d.length c,.slice g f.length j] 26) (.cells #[.int .i64 0,.int .i64 0,.int .i64 0,.int .i64 0] 28)).j (i.z ξ));clear i;have q:=b.c0;have r:=b.c1;have s:=b.c2;have t:=b.c3;have z:=b.f0;have A:=b.f1;have B:=b.f2;have C:=b.f3;clear b
  go_wp2_with (first|(go_at_call 53;refine(SZ _ _).z ?_;rw[D];rintro e i ⟨rfl,b⟩;rw[b];clear b i))
 rotate_left
 all_goals
  refine AJ (v:=ON 0 0 0 0) (by simp[results,results95,go_sem,q,r,s,t]) rfl ⟨rfl,?_⟩;exact(((m.l.setCell (by show _<=w.heap.size+1;omega) _).setCell (by show _<=w.heap.size+1;omega) _).setCell (by show _<=w.heap.size+1;omega) _).setCell (by show _<=w.heap.size+1;omega) _
theorem yJ(a:M6)(j:List Y)(c:Nat)(C:M6)(d:List (Int×Y))(H:Nat)(n:Int)(w:Nb)(h:Strs w a j)(h':Wrs w C d)(hl:j.length<=1048576)(dM:d.length<=1048576)(V:∀s∈j,s.size<=1048576)(dQ:∀x∈d,x.2.size<=1048576)(ty:TypeId)(v:Nc)(hv:w.cell? ⟨1,0,none⟩=some (.iface ty v))(I:w.cell? ⟨0,0,none⟩=some (.iface 200 (.agg #[Mv 3 91])))(hg:1<w.heap.size)(R:LE j d=true)(hn:1<=n/\n<=8):Calls prog 95 #[LF a j.length c C d.length H,.int .i64 n] w λe t=>e=M3 (YT (NJ j d n))/\Below w.heap.size w t:=by
 have Q:∀b f,Below w.heap.size w ((w.alloc b).alloc f):=λb f=>((AB _ _).alloc (AA _) _).alloc σ _
 have hd:decide (1<=n/\n<=8)=true:=AL hn;obtain⟨G,aI⟩:∃G,Hid (G=NJ j d n):=⟨_,Z rfl⟩;rw[<-aI.l];obtain⟨⟨eC,cF,cH⟩,cW,W⟩:=LK R;go_enter func95,ntmps95;go_wp2_with fail;refine(NF a j c C d H _ (h.I (Q _ _)) (h'.I (Q _ _)) hl dM V dQ).z ?_;rw[R];rintro e w1 ⟨rfl,b⟩;have l:=Z ((((Cx.new w (.slice a j.length c) (.slice C d.length H) 26)).I (LD _ (.cells #[.int .i64 0,.int .i64 0,.int .i64 0,.int .i64 0] 28))).I b);have f:=((B4.new (w.alloc (.cells #[.slice a j.length c,.slice C d.length H] 26)) (.int .i64 0) (.int .i64 0) (.int .i64 0) (.int .i64 0) 28).I b);rw[BD]at f;have F:=Z f;have i:=Z ((Q (.cells #[.slice a j.length c,.slice C d.length H] 26) (.cells #[.int .i64 0,.int .i64 0,.int .i64 0,.int .i64 0] 28)).j (b.z ξ));clear b f;have f:=l.l.c0;have k:=l.l.c1
 go_wp2_with (first|(go_at_call 53;refine(SZ _ _).z ?_;rw[hd];rintro e g ⟨rfl,b⟩;rw[b];clear b g))
 refine(fy a j c C d H _ (h.I i.l) (h'.I i.l) cF cH (λs V=>by have:=cW s V;omega) (λx hx=>by have:=AV (W x hx);omega)).z ?_;rintro e w2 ⟨g,vv,rfl,u,m,eB,b⟩;clear f k
 obtain⟨D,z,dU,p⟩:∃D z,vv=.slice D (ME d).length z/\OwnS w2 D (OY (ME d)):=by
  rw[RL];rcases NU m with ⟨e,I⟩|⟨y,k,e,o,A,f⟩
  ·have:d=[]:=AC I
   subst this;exact⟨none,0,e,.inl rfl⟩
  exact⟨_,k,e,.inr ⟨y,rfl,f⟩⟩
 subst dU;have E:=Z (Below.then i.l (AA _) b);have J:=Z (F.l.I b);clear b m;go_wp2_with fail;refine(rdr _ _ _ _ _ _ _).z ?_;rintro e q ⟨rfl,b⟩;have k:=Z (Below.then E.l (AA _) b);have r:=Z (J.l.I b);have o:=Z (u.I b);have s:=Z (p.I b);clear u p b
 have K:∀p∈ME d,p.2.length=64:=λp b=>by
  obtain⟨x,hx,rfl⟩:=DS.1 b;have:=AV (W x hx);show(LI x.2).length=64;rw[NH];omega
 have u:Hld q D (ME d):=by
  rcases s.l with I|⟨y,rfl,A⟩
  ·refine .inl (AC ?_)
   have:=CX List.length I;rw[sp _ K,AR]at this;omega
  exact A.hld K
 obtain⟨X,cV⟩:∃X:Nat->List Int,Hid (X=λm=>(SK (ME d) (j.map LI)).getD m []):=⟨_,Z rfl⟩
 have P:Hid (∀m:Nat,X m=(SK (ME d) (j.map LI)).getD m []):=λm=>by rw[cV.l]
 have cU:Hid (∀m:Nat,m<2->(X m).length=64):=λm B=>by
  rw[P.l];exact bh (qk _ _ K o.l.len) (by rw[ey];simp;omega)
 have cA:Hid (∀m:Nat,m<2->∀f,Below q.heap.size q f->Calls prog 257 #[.agg #[.slice D (ME d).length z,.iface 113 (.slice (Mw g 0) j.length j.length)],.int .i64 (m:Int)] f λe t=>e=M3 (.tuple #[.agg ((X m).map (Value.int .u8)).toArray,M0 true])/\Below f.heap.size f t):=λm B f A=>by
  rw[P.l];exact rV D (ME d) z g j.length j.length m (j.map LI) f (u.I A) K (λp b=>by obtain⟨y,t,rfl⟩:=DS.1 b;exact(AV (W y t)).1) (by rw[RL];exact cH) (o.l.I A) σ cF ω
 have HF:Hid (G=if RN (RN OA ((MV (strOfNums (X 0)) 0 n).getD OA)) ((MV (strOfNums (X 1)) 1 n).getD OA)=OA then ((0,0,1,0):RtT) else RN (RN OA ((MV (strOfNums (X 0)) 0 n).getD OA)) ((MV (strOfNums (X 1)) 1 n).getD OA)):=by
  show _=_
  have b:∀m:Nat,m<2->strOfNums (X m)=(xhE d j).getD m empty:=λm B=>by
   have p:m<(SK (ME d) (j.map LI)).length:=by rw[ey];simp;omega
   rw[P.l,<-rq];simp[OI,List.getD,p]
  rw[b 0 ω,b 1 ω,Dh,aI.l];unfold NJ;rw[AE ⟨R,hn⟩]
 obtain⟨U,cP⟩:∃U,Hid (U=Value.iface 113 (.slice (Mw g 0) j.length j.length)):=⟨_,Z rfl⟩;rw[<-cP.l]at cA⊢;clear s o u F J i E l;have dV:w.heap.size<=q.heap.size:=k.l.size;have aY:=r.l.lt;obtain⟨F,bI⟩:∃F,Hid (F=(MV (strOfNums (X 0)) 0 n).getD OA):=⟨_,Z rfl⟩;obtain⟨J,bJ⟩:∃J,Hid (J=(MV (strOfNums (X 1)) 1 n).getD OA):=⟨_,Z rfl⟩;rw[<-bI.l,<-bJ.l]at HF;have cS:=Z (λf (A:Below w.heap.size w f)=>((A.cell (p:=⟨1,0,none⟩) hg).j hv));have cQ:=Z (λf (A:Below w.heap.size w f)=>((A.cell (p:=⟨0,0,none⟩) (by show 0<_;omega)).j I));clear hv I;go_wp2_with fail;have i:=B4.new q (.int .i64 0) (.int .i64 0) (.int .i64 0) (.int .i64 0) 28;have b:Below q.heap.size q (q.alloc (.cells #[.int .i64 0,.int .i64 0,.int .i64 0,.int .i64 0] 28)):=(AB _ _).alloc (AA _) _;have dR:(q.alloc (.cells #[.int .i64 0,.int .i64 0,.int .i64 0,.int .i64 0] 28)).heap.size=q.heap.size+1:=σ
 obtain⟨wb,l⟩:∃wb,wb=q.alloc (.cells #[.int .i64 0,.int .i64 0,.int .i64 0,.int .i64 0] 28):=⟨_,rfl⟩;rw[<-l]at i b dR⊢;have cO:=Z i;have cN:=Z b;have cT:=Z (r.l.I b);have bT:=Z (k.l.j (b.z k.l.size));clear l i b r k;go_loopw [21] (λi wr=>∃(k:Nat) (b:RtT),k<=2/\i=.int .i64 (k:Int)/\Hid ((k=0->b=OA)/\(k=1->b=RN OA F)/\(k=2->b=RN (RN OA F) J))/\Below q.heap.size wb wr/\B4 wr q.heap.size (.int .i64 b.1) (.int .i64 b.2.1) (.int .i64 b.2.2.1) (.int .i64 b.2.2.2)) (λi _=>2-(intOf i).toNat)
 case atStart=>exact⟨0,OA,ω,rfl,⟨λ_=>rfl,λh=>absurd h δ,λh=>absurd h δ⟩,AB _ _,cO.l⟩
 case round =>
  obtain⟨k,⟨b0,p,s,u⟩,hk,rfl,M,y,E⟩:=hrel;have aG:=Z y;have aH:=Z E;have dZ:=y.size
  by_cases cE:k<2
  ·have dN:(k:Int)<2:=ω
   have L:=Z (bT.l.j (y.z ω));have bZ:=Z (cN.l.j (y.z (AA _)));clear y E;obtain⟨r,O⟩:∃r:RtT,Hid (r=(MV (strOfNums (X k)) (k:Int) n).getD OA):=⟨_,Z rfl⟩
   have bV:Hid (∀i:RtT,i=RN (b0,p,s,u) r->(k+1=0->i=OA)/\(k+1=1->i=RN OA F)/\(k+1=2->i=RN (RN OA F) J)):=λi l=>by
    refine⟨λh=>absurd h ω,λh=>?_,λh=>?_⟩
    ·have i:k=0:=ω
     subst i;rw[l,M.l.1 rfl,O.l,bI.l];rfl
    have i:k=1:=ω
    subst i;rw[l,M.l.2.1 rfl,O.l,bJ.l];rfl
   have N:=Z (Gb (.slice D (ME d).length z) U (X k) (k:Int) n wr ω (cU.l k cE) (λf A=>cA.l k cE f (bZ.l.j (A.z (by have:=bZ.l.size;omega)))) ty v (cS.l _ L.l) (cQ.l _ L.l) (by have:=L.l.size;omega));rw[<-O.l]at N;obtain⟨t,h9,f,l⟩:=r;go_wp2_with fail;refine N.l.z ?_;rintro e w5 ⟨rfl,o⟩;have cM:=Z (aG.l.j (o.z ω));have i:=Z (aH.l.I o);have eF:=o.size;clear o aG aH N
   have N:=λo=>(i.l.alloc o).c0
   have S:=λo=>(i.l.alloc o).c1
   have z:=λo=>(i.l.alloc o).c2
   have T:=λo=>(i.l.alloc o).c3
   have f0:=λo=>(i.l.alloc o).f0
   have f1:=λo=>(i.l.alloc o).f1
   have f2:=λo=>(i.l.alloc o).f2
   have f3:=λo=>(i.l.alloc o).f3
   have bR:=Z (λo=>cM.l.alloc ω o)
   by_cases cC:b0<t
   ·have B:=bV.l (t,h9,f,l) (by simp[RN,cC])
    have o:=Z B;clear B;go_wp2;go_roundw
    case rel=>exact⟨k+1,(t,h9,f,l),ω,ν,o.l,((((bR.l _).setCell (AA _) _).setCell (AA _) _).setCell (AA _) _).setCell (AA _) _,(i.l.alloc _).set4 _ _ _ _⟩
    case measure=>simp[intOf];omega
   have B:=bV.l (b0,p,s,u) (by simp[RN,cC])
   have o:=Z B;clear B;go_wp2;go_roundw
   case rel=>exact⟨k+1,(b0,p,s,u),ω,ν,o.l,bR.l _,i.l.alloc _⟩
   case measure=>simp[intOf];omega
  have r:k=2:=ω
  subst r
  have i:Hid (G=if ((b0,p,s,u):RtT)=OA then (0,0,1,0) else (b0,p,s,u)):=by
   show _=_;rw[HF.l,<-M.l.2.2 rfl]
  have f:=cT.l.past (N:=q.heap.size) aY y;have N:=f.c0;have S:=f.c1;have z:=f.c2;have T:=f.c3;have f0:=f.f0;have f1:=f.f1;have f2:=f.f2;have f3:=f.f3;have O:=E.c0;have d1:=E.c1;have d2:=E.c2;have d3:=E.c3;have o:=Z (bT.l.j (y.z ω));clear f y E
  by_cases f:((b0,p,s,u):RtT)=OA
  ·have l:Hid (G=(0,0,1,0)):=by show _=_;rw[i.l,AE f]
   have t:b0=0:=CX (λx:RtT=>x.1) f;have y:p=0:=CX (λx:RtT=>x.2.1) f;have E:s=0:=CX (λx:RtT=>x.2.2.1) f;have L:u=0:=CX (λx:RtT=>x.2.2.2) f;clear f i;subst t y E L;go_wp2;refine AJ (v:=ON 0 0 1 0) (by simp[results,results95,go_sem,N,S,z,T]) rfl ⟨by rw[l.l],?_⟩;exact(((o.l.setCell (by show _<=w.heap.size+1;omega) _).setCell (by show _<=w.heap.size+1;omega) _).setCell (by show _<=w.heap.size+1;omega) _).setCell (by show _<=w.heap.size+1;omega) _
  have l:Hid (G=(b0,p,s,u)):=by show _=_;rw[i.l,AG f]
  have t:¬(b0=0/\p=0/\s=0/\u=0):=λh=>f (by rw[h.1,h.2.1,h.2.2.1,h.2.2.2];rfl)
  clear f i;go_wp2
  all_goals first
   | (exfalso;omega)
   | (refine AJ (v:=ON b0 p s u) (by simp[results,results95,go_sem,N,S,z,T]<;>omega) rfl ⟨by rw[l.l],?_⟩;exact(((o.l.setCell (by show _<=w.heap.size+1;omega) _).setCell (by show _<=w.heap.size+1;omega) _).setCell (by show _<=w.heap.size+1;omega) _).setCell (by show _<=w.heap.size+1;omega) _)
theorem J9(a:M6)(b:List Y)(c:Nat)(f:M6)(d:List (Int×Y))(i:Nat)(n:Int)(w:Nb)(h:Strs w a b)(l:Wrs w f d)(m:b.length<=1048576)(j:d.length<=1048576)(o:∀s∈b,s.size<=1048576)(k:∀x∈d,x.2.size<=1048576)(p:TypeId)(v:Nc)(hv:w.cell? ⟨1,0,none⟩=some (.iface p v))(q:w.cell? ⟨0,0,none⟩=some (.iface 200 (.agg #[Mv 3 91])))(r:1<w.heap.size):Calls prog 95 #[LF a b.length c f d.length i,.int .i64 n] w λe g=>e=M3 (YT (NJ b d n))/\Below w.heap.size w g:=by
 by_cases g:LE b d=true/\1<=n/\n<=8
 ·exact yJ a b c f d i n w h l m j o k p v hv q r g.1 g.2
 have e:NJ b d n=OA:=by unfold NJ;rw[AG g]
 rw[e];exact Kj a b c f d i n w h l m j o k g
end
section
set_option maxHeartbeats 4000000
theorem Fw(h j:Nc)(x:List Int)(a c n:Int)(m:Int)(w:Nb)(o:x.length=64)(X:IntKind.i64.wrap (a+m)=a+m)
  (C:∀d,Below w.heap.size w d->Calls prog 257 #[.agg #[h,j],.int .i64 (a+m)] d λe b=>e=M3 (.tuple #[.agg (x.map (Value.int .u8)).toArray,M0 true])/\Below d.heap.size d b)
  (F:TypeId)(v:Nc)(hv:w.cell? ⟨1,0,none⟩=some (.iface F v))(E:w.cell? ⟨0,0,none⟩=some (.iface 200 (.agg #[Mv 3 91])))(U:1<w.heap.size):Calls prog 194 #[iz h j a c n,.int .i64 m] w λe b=>e=M3 (TP (MA (strOfNums x) n))/\Below w.heap.size w b:=by
 have D:∀b d,Below w.heap.size w ((w.alloc b).alloc d):=λb d=>(LO _ _).alloc σ _
 have t:=Z (λd (z:Below w.heap.size w d)=>mt (strOfNums x) n d F v ((z.cell (p:=⟨1,0,none⟩) U).j hv) ((z.cell (p:=⟨0,0,none⟩) (by show 0<_;omega)).j E) (by have:=z.size;omega))
 obtain⟨k,l,q,p,b,e⟩:∃k l q p b,TP (MA (strOfNums x) n)=.tuple #[OE k l q p,M0 b]:=by
  cases MA (strOfNums x) n with
  | none=>exact⟨_,_,_,_,_,rfl⟩
  | some y=>obtain⟨k,l,q,p⟩:=y;exact⟨_,_,_,_,_,rfl⟩
 rw[e]at t⊢;clear e hv E;have bE:(x.map (Value.int .u8)).toArray.size=64:=by simp[o]
 have G:Hid ((prog.info? 142).map (·.size)=some (x.map (Value.int .u8)).length):=by show _=_;rw[BU,o];kernel_rfl
 have i:=λk d=>oQ k h j d
 obtain⟨y,u⟩:∃y,Hid (y=strOfNums x):=⟨_,Z rfl⟩;rw[<-u.l]at t;have H:=Z C;clear C;go_enter func194,ntmps194;go_wp2_with fail;refine(H.l _ (D _ _)).z ?_;rintro e V ⟨rfl,f⟩;have I:=Z (((B4.new w (.iface 257 (.agg #[h,j])) (.int .i64 a) (.int .i64 c) (.int .i64 n) 218).alloc (.cells #[.int .i64 0,.int .i64 0,.int .i64 0,Mz empty] 51)).I f);have g:=(B4.new (w.alloc (.cells #[.iface 257 (.agg #[h,j]),.int .i64 a,.int .i64 c,.int .i64 n] 218)) (.int .i64 0) (.int .i64 0) (.int .i64 0) (Mz empty) 51).I f;rw[BD]at g;have K:=Z g;have B:=Z ((D (.cells #[.iface 257 (.agg #[h,j]),.int .i64 a,.int .i64 c,.int .i64 n] 218) (.cells #[.int .i64 0,.int .i64 0,.int .i64 0,Mz empty] 51)).j (f.z ξ));clear f i g
 go_wp2_with (first
   | (with_reducible refine MW 142 _ _ rfl ?_;refine df rfl 142 _ _ rfl (x.map (Value.int .u8)) (WB x) rfl rfl _ _ (by rw[BU,o];kernel_rfl) G.l ?_;intro d r g M;have L:=r.text (P:=prog) x 0 64 64 o (λi N=>by simp[List.getD,show i<x.length by omega]) 22 5 9 underlying22 underlying5 underlying9;rw[<-u.l]at L;have A:=r.drew.text (P:=prog) x 0 64 64 o (λi N=>by simp[List.getD,show i<x.length by omega]) 22 5 9 underlying22 underlying5 underlying9;rw[<-u.l]at A;have f:=Z (K.l.I g);have J:=Z (I.l.I g);have s:=Z (B.l.j (g.z B.l.size));clear g M r)
   | fail)
 have r0:=f.l.c0;have r1:=f.l.c1;have r2:=f.l.c2;have r3:=f.l.c3;have Q:=f.l.f0;have R:=f.l.f1;have S:=f.l.f2;have T:=f.l.f3;have q3:=J.l.c3;have W:(convert 22 9 (.slice (Mw V.heap.size 0) 64 64)).run prog d.drew=.ok (Mz y) d.drew:=A
 go_region_with (first|(go_at_call 13;refine(t.l _ (s.l.drew)).z ?_;rintro e w3 ⟨rfl,i⟩;have g:=f.l.drew.I i;have r:=Z (s.l.drew.j (i.z s.l.drew.size));have M:=g.c0;have N:=g.c1;have O:=g.c2;have P:=g.c3;have Q:=g.f0;have R:=g.f1;have S:=g.f2;have T:=g.f3;clear i g))
 all_goals
  go_wp2;refine AJ (v:=.tuple #[OE k l q p,M0 b]) (by simp[results,results194,go_sem,M,N,O,P]) rfl ⟨rfl,?_⟩;exact(((r.l.setCell (by show _<=w.heap.size+1;omega) _).setCell (by show _<=w.heap.size+1;omega) _).setCell (by show _<=w.heap.size+1;omega) _).setCell (by show _<=w.heap.size+1;omega) _
end
theorem yO(d f q:Int)(r:Y)(k l m:Int)(p:Y)(w:Nb):Calls prog 148 #[OE d f q r,OE k l m p] w λe a=>e=M3 (M0 (PD d f k l))/\Below w.heap.size w a:=by
 have h:∀a b,Below w.heap.size w ((w.alloc a).alloc b):=λa b=>(LO _ _).alloc σ _
 rw[<-Jy];obtain⟨B,b⟩:∃B,WM d f k l=B:=⟨_,rfl⟩;have a:=Z b;rw[b];clear b
 by_cases b:k=1\/k=2
 ·by_cases g:l=f
  ·have e:B=true:=by rw[<-a.l];unfold WM;rw[AE b];simp[g]
   subst e;subst g;clear a
   rcases b with rfl|rfl<;>(go_enter func148,ntmps148;go_wp2;all_goals (go_ret;exact⟨rfl,h _ _⟩))
  have j:(l == f)=false:=by simp[g]
  by_cases c:d=1
  ·subst c
   have e:B=false:=by rw[<-a.l];unfold WM;rw[AE b];simp[g]
   subst e;clear a
   rcases b with rfl|rfl<;>(go_enter func148,ntmps148;go_wp2;all_goals (go_ret;exact⟨rfl,h _ _⟩))
  have o:(d == 1)=false:=by simp[c]
  by_cases i:f<l
  focus
   have e:B=true:=by rw[<-a.l];unfold WM;rw[AE b];simp[c,i]
  rotate_left
  focus
   have e:B=false:=by rw[<-a.l];unfold WM;rw[AE b];simp[c,i,g]
  rotate_left
  all_goals
   subst e;clear a
   rcases b with rfl|rfl<;>(go_enter func148,ntmps148;go_wp2;all_goals (go_ret;exact⟨by simp[i],h _ _⟩))
 have j:¬k=1:=λe=>b (.inl e)
 have n:¬k=2:=λe=>b (.inr e)
 have s:(k == 1)=false:=by simp[j]
 have t:(k == 2)=false:=by simp[n]
 by_cases g:k=3
 focus
  subst g
  by_cases i:f<=l
  focus
   by_cases c:d=1
   focus
    subst c;have e:B=false:=by rw[<-a.l];unfold WM;simp
   rotate_left
   focus
    have o:(d == 1)=false:=by simp[c]
    have e:B=true:=by rw[<-a.l];unfold WM;simp[c,i]
   rotate_left
  rotate_left 2
  focus
   have e:B=false:=by rw[<-a.l];unfold WM;simp[i]
  rotate_left
 rotate_left 3
 focus
  have u:(k == 3)=false:=by simp[g]
  have e:B=false:=by rw[<-a.l];unfold WM;rw[AG b,AG g]
 rotate_left
 all_goals
  subst e;clear a b;go_enter func148,ntmps148;go_wp2
  all_goals (go_ret;exact⟨rfl,h _ _⟩)
theorem oD(n:Nat)(f s:Int)(i:n<=1048576)(d:-9223372036854775808<=f)(g:f<=9223372036854775807)(w:Nb):Calls prog 146 #[.int .i64 (n:Int),.int .i64 f,.int .i64 s] w λe a=>e=M3 (M0 (decide (0<=f/\0<=s/\s<=(n:Int)-f)))/\a=w:=by
 by_cases b:0<=f
 ·have j:IntKind.i64.wrap ((n:Int)-f)=(n:Int)-f:=by simp[IntKind.wrap,IntKind.bits,IntKind.signed];omega
  by_cases c:0<=s
  ·by_cases a:s<=(n:Int)-f
   ·have e:decide (0<=f/\0<=s/\s<=(n:Int)-f)=true:=AL ⟨b,c,a⟩
    rw[e];go_enter func146,ntmps146;go_wp2;go_ret;exact⟨by simp[a],rfl⟩
   have e:decide (0<=f/\0<=s/\s<=(n:Int)-f)=false:=AI (λh=>a h.2.2)
   rw[e];go_enter func146,ntmps146;go_wp2;go_ret;exact⟨by simp[a],rfl⟩
  have e:decide (0<=f/\0<=s/\s<=(n:Int)-f)=false:=AI (λh=>c h.2.1)
  rw[e];go_enter func146,ntmps146;go_wp2;go_ret;exact⟨rfl,rfl⟩
 have e:decide (0<=f/\0<=s/\s<=(n:Int)-f)=false:=AI (λh=>b h.1)
 rw[e];go_enter func146,ntmps146;go_wp2;go_ret;exact⟨rfl,rfl⟩
end
section
open Tryz
open Go.RowKit Go.Shelf
attribute [local go_sem] Oper.semAt_some
theorem Jq(a b:Y):(a++b).data.toList=a.data.toList++b.data.toList:=by rw[ByteArray.data_append,Array.toList_append]
theorem xL(a:Y):(Lib.byteCells a.data.toList).length=a.size:=by rw[Lib.byteCells_length];exact Array.length_toList
theorem Df(a:Y):(⟨a.data.toList.toArray⟩:Y)=a:=by rw[Array.toArray_toList]
theorem ru{w:Nb}{b0 c:Nat}{e:TypeId}{s:Nat}{v:Nc}{n:Nat}{d:List Nc}(h:w.ownsRow c e s v n d)(k:b0<=c):w.ownsRow b0 e s v n d:=by
 refine⟨h.1,?_⟩;rcases h.2 with f|⟨g,a,b,hv,j,i⟩
 ·exact .inl f
 exact .inr ⟨g,a,b,hv,ω,i⟩
theorem Ce{d:Nb}{g:Nat}{c:Nc}{a:List (Int×Y)}(f:d.ownsRow (g+1) 175 65 c a.length (OY (ME a))):∃b e,c=.slice b (ME a).length e/\OwnS d b (OY (ME a)):=by
 rw[RL];rcases NU f with ⟨e,i⟩|⟨h,b,e,k,l,j⟩
 ·have:a=[]:=AC i
  subst this;exact⟨none,0,e,.inl rfl⟩
 exact⟨_,b,e,.inr ⟨h,rfl,j⟩⟩
theorem Hj(a:M6)(q:List Y)(c:Nat)(L:M6)(t:List (Int×Y))(U:Nat)(M C first B n:Int)(w:Nb)(h:Strs w a q)(h':Wrs w L t)(hl:q.length<=1048576)(iP:t.length<=1048576)(hs:∀s∈q,s.size<=1048576)(gJ:∀x∈t,x.2.size<=1048576)(eT:-9223372036854775808<=first/\first<=9223372036854775807)
  (ty:TypeId)(v:Nc)(hv:w.cell? ⟨1,0,none⟩=some (.iface ty v))(h0:w.cell? ⟨0,0,none⟩=some (.iface 200 (.agg #[Mv 3 91])))(hg:1<w.heap.size)(dQ:XS q t M C n):Calls prog 96 #[LF a q.length c L t.length U,.int .i64 M,.int .i64 C,.int .i64 first,.int .i64 B,.int .i64 n] w λe l=>au w l e (TQ q t M C first B n):=by
 have b:TQ q t M C first B n=ML (λk=>(xhE t q).getD k empty) M.toNat first n C.toNat 0 2 B empty ([],0,B):=by unfold TQ;rw[AE dQ,Fc]
 rw[b];clear b;obtain⟨f,hn,f0,s0,f1,s1⟩:=dQ;obtain⟨j,rfl⟩:∃k:Nat,M=(k:Int):=⟨M.toNat,ω⟩;obtain⟨N,rfl⟩:∃k:Nat,C=(k:Int):=⟨C.toNat,ω⟩;simp only[BM];have i:decide (1<=n/\n<=8)=true:=AL hn;obtain⟨⟨jD,gD,gE⟩,d,g⟩:=LK f
 obtain⟨H,b⟩:∃H:Nat->Y,H=λk=>(xhE t q).getD k empty:=⟨_,rfl⟩
 rw[<-b];have iJ:=Z b
 obtain⟨bR,cJ⟩:∃bR,Hid (bR=ML H j first n N 0 2 B empty ([],0,B)):=⟨_,Z rfl⟩
 rw[<-cJ.l];clear b;have cM:N<=200:=ω
 have fT:Hid (∀z,Calls prog 146 #[.int .i64 (q.length:Int),.int .i64 (j:Int),.int .i64 (N:Int)] z λe l=>e=M3 (M0 true)/\l=z):=λz=>by
  have:=oD q.length (j:Int) (N:Int) hl ω ω z;rw[AL (show 0<=(j:Int)/\0<=(N:Int)/\(N:Int)<=(q.length:Int)-(j:Int) by omega)]at this;exact this
 have o:=Z (λ(z:Nb) (O:Below w.heap.size w z)=>NF a q c L t U z (h.I O) (h'.I O) hl iP hs gJ);rw[f]at o;have T:=Z (λ(z:Nb) (O:Below w.heap.size w z)=>fy a q c L t U z (h.I O) (h'.I O) gD gE (λs hs=>by have:=d s hs;omega) (λx hx=>by have:=AV (g x hx);omega));have D:=Z (λz=>SZ n z);rw[i]at D
 have b:∀m p r,Below w.heap.size w (((w.alloc m).alloc p).alloc r):=λm p r=>((LO _ _).alloc σ _).alloc τ _
 have A:=Z b;have HH:=Z h;have iE:=Z h';have F:=Z g;have iB:=Z d;have W:=Z (λz (O:Below w.heap.size w z)=>((O.cell (p:=⟨1,0,none⟩) hg).j hv));have V:=Z (λz (O:Below w.heap.size w z)=>((O.cell (p:=⟨0,0,none⟩) (by show 0<_;omega)).j h0));clear h h' g d hv h0 hs gJ b f i;refine(FI (n:=4)).1 ?_;refine callsIn_of_wp_marks func96 rfl trivial ?_ rfl;simp only[ntmps96,GS,CY,AR,Nat.reduceAdd,Nat.reduceSub,FZ,GA,GR,FL,DW,EI]
 gi_wp2
 refine wpIn_wide.2 (wp_scope_straight ((wpIn_wide (n:=4)).1 ?_))
 gi_wp2_with (first
  | (refine⟨trivial,?_⟩;gi_at_call 57;refine(FI.2 (o.l _ (A.l _ _ _))).z ?_;rintro e w1 ⟨rfl,i⟩;have m:=(((LM w #[.slice a q.length c,.slice L t.length U] 26 w.heap.size rfl).alloc (.cells #[.int .i64 first] 3)).alloc (.cells #[.slice none 0 0,.int .i64 0,.int .i64 0] 162)).I i;have G:=((LM (w.alloc (.cells #[.slice a q.length c,.slice L t.length U] 26)) #[.int .i64 first] 3 (w.heap.size+1) σ).alloc (.cells #[.slice none 0 0,.int .i64 0,.int .i64 0] 162)).I i;have K:=(LM ((w.alloc (.cells #[.slice a q.length c,.slice L t.length U] 26)).alloc (.cells #[.int .i64 first] 3)) #[.slice none 0 0,.int .i64 0,.int .i64 0] 162 (w.heap.size+1+1) σ).I i;have r:=(A.l (.cells #[.slice a q.length c,.slice L t.length U] 26) (.cells #[.int .i64 first] 3) (.cells #[.slice none 0 0,.int .i64 0,.int .i64 0] 162)).j (i.z ξ);have fO:=Z G;have fQ:=Z K;have u:=Z r;have q0:=m.y 0;have q1:=m.y 1;have ql:=m.lt;clear m G K r i)
  | (refine⟨trivial,?_⟩;gi_at_call 53;refine(FI.2 (D.l _)).z ?_;refine OJ ?_)
  | (refine⟨trivial,?_⟩;gi_at_call 146;refine(FI.2 (fT.l _)).z ?_;refine OJ ?_)
  | (refine⟨trivial,?_⟩;gi_at_call 61;refine(FI.2 (T.l _ u.l)).z ?_;rintro e w2 ⟨g,vv,rfl,E,p,S,b⟩;clear q0 q1 ql;obtain⟨a2,c2,iV,y⟩:∃a2 c2,vv=.slice a2 (ME t).length c2/\OwnS w2 a2 (OY (ME t)):=Ce p;subst iV;have I:=Z (Below.then u.l (AA _) b);have Q:=Z (fO.l.I b);have R:=Z (fQ.l.I b);have P:=Z E;have J:=Z y;clear b E p y S)
  | (refine⟨trivial,?_⟩;gi_at_call 144;refine(FI.2 (rdr _ _ _ _ _ _ _)).z ?_;rintro e f ⟨rfl,d⟩;have aI:=Z (Below.then I.l (AA _) d);have cH:=Z (Q.l.I d);have aD:=Z (R.l.I d);have fJ:=Z (P.l.I d);have X:=Z (J.l.I d);clear d))
 have aF:w.heap.size<=f.heap.size:=aI.l.size;have iR:=aD.l.lt
 have d:∀p∈ME t,p.2.length=64:=λp r=>by
  obtain⟨x,hx,rfl⟩:=DS.1 r;have:=AV (F.l x hx);show(LI x.2).length=64;rw[NH];omega
 have S:Hld f a2 (ME t):=by
  rcases X.l with h0|⟨b,rfl,K⟩
  ·refine .inl (AC ?_)
   have:=CX List.length h0;rw[sp _ d,AR]at this;omega
  exact K.hld d
 have fI:Hid (∀z,Below f.heap.size f z->∀m:Nat,m<N->Calls prog 194 #[iz (.slice a2 (ME t).length c2) (.iface 113 (.slice (Mw g 0) q.length q.length)) (j:Int) (N:Int) n,.int .i64 (m:Int)] z λe l=>e=M3 (TP (MA (H (j+m)) n))/\Below z.heap.size z l):=λz O m hm=>by
  have fZ:j+m<q.length:=ω
  have E:j+m<(SK (ME t) (q.map LI)).length:=by rw[ey];simp;omega
  have hX:strOfNums ((SK (ME t) (q.map LI)).getD (j+m) [])=H (j+m):=by
   rw[iJ.l,<-rq];simp[OI,List.getD,E]
  have i:Below w.heap.size w z:=aI.l.j (O.z aF);rw[<-hX];refine Fw _ _ _ _ _ _ _ z (bh (qk _ _ d fJ.l.len) E) (by simp[IntKind.wrap,IntKind.bits,IntKind.signed];omega) (λG l=>?_) ty v (W.l _ i) (V.l _ i) (by have:=i.size;omega);have b:=O.j (l.z O.size);have:=rV a2 (ME t) c2 g q.length q.length (j+m) (q.map LI) G (S.I b) d (λp r=>by obtain⟨y,l,rfl⟩:=DS.1 r;exact(AV (F.l y l)).1) (by rw[RL];exact gE) (fJ.l.I b) σ gD fZ;rw[show((j:Int)+(m:Int))=((j+m:Nat):Int) by omega];exact this
 obtain⟨G,iD⟩:∃G,Hid (G=Value.iface 113 (.slice (Mw g 0) q.length q.length)):=⟨_,Z rfl⟩;obtain⟨E,iK⟩:∃E,Hid (E=Value.slice a2 (ME t).length c2):=⟨_,Z rfl⟩;rw[<-iD.l,<-iK.l]at fI⊢
 have i:Hid (ScL f (((f.alloc (.cells #[.iface 257 (.agg #[E,G]),.int .i64 (j:Int),.int .i64 (N:Int),.int .i64 n] 218)).alloc (.cells #[.slice none 0 0,.int .i64 0,.int .i64 B] 162)).alloc (.cells #[.int .i64 2,.int .i64 B,.int .i64 0,Mz ⟨#[]⟩] 51)) [] (((f.alloc (.cells #[.iface 257 (.agg #[E,G]),.int .i64 (j:Int),.int .i64 (N:Int),.int .i64 n] 218)).alloc (.cells #[.slice none 0 0,.int .i64 0,.int .i64 B] 162)).alloc (.cells #[.int .i64 2,.int .i64 B,.int .i64 0,Mz ⟨#[]⟩] 51)).heap.size (.iface 257 (.agg #[E,G])) (.int .i64 (j:Int)) (.int .i64 (N:Int)) (.int .i64 n) (.slice none 0 0) [] 0 B 2 B 0 ⟨#[]⟩):=by
  refine⟨((LM _ _ _ _ rfl).alloc _).alloc _,(LM _ _ _ _ σ).alloc _,LM _ _ _ _ σ,DA _ _ _ _,λk hk=>(by cases hk),((LO _ _).alloc σ _).alloc τ _,λr b=>(by cases b),List.nodup_nil⟩
 clear T o D fT A fO fQ u Q R I P J X S d HH iE F iB W V;refine wpIn_label ?_
 gi_wp2
 refine wpIn_loop_ghost (λk A W=>∃(Rs:List Nat) (y:Nc) (p:List Y) (u:Nat) (l I J Q:Int) (R:Y) (gQ gR gS gU gV gW gX gY gZ:Nc),A={ tmps:=#[LF a q.length c L t.length U,.int .i64 (j:Int),.int .i64 (N:Int),.int .i64 first,.int .i64 B,.int .i64 n,Mv w.heap.size 0,undef,undef,Mv (w.heap.size+1) 0,undef,undef,Mv (w.heap.size+1+1) 0,Mv f.heap.size 0,Mv (f.heap.size+1) 0,Mv (f.heap.size+1+1) 0,gQ,undef,undef,.agg #[.slice a q.length c,.slice L t.length U],M0 true,M0 false,M0 false,.int .i64 n,M0 true,M0 false,M0 false,M0 false,Mv w.heap.size 0,.slice a q.length c,.int .i64 (q.length:Int),.int .i64 (j:Int),.int .i64 (N:Int),M0 true,M0 false,M0 false,undef,.agg #[.slice a q.length c,.slice L t.length U],.agg #[.slice (Mw g 0) q.length q.length,E],(.iface 257 (.agg #[E,G])),.int .i64 (j:Int),.int .i64 (N:Int),.int .i64 n,.agg #[.iface 257 (.agg #[E,G]),.int .i64 (j:Int),.int .i64 (N:Int),.int .i64 n],.int .i64 B,.agg #[.slice none 0 0,.int .i64 0,.int .i64 B],.int .i64 B,.agg #[.int .i64 2,.int .i64 B,.int .i64 0,Mz ⟨#[]⟩],gR,gS,gU,gV,gW,gX,gY,gZ,undef,undef,undef,undef,undef,undef,undef,undef,undef,undef,undef,undef,undef,undef,undef,undef,undef,undef,undef,undef,undef,undef,undef,undef,undef,undef],defers:=Rs.map (λr=>({ target:=.collected r,args:=#[] }:Deferred)) }/\k=N-u/\u<=N/\p.length<=u/\Hid (ScL f W Rs W.heap.size (.iface 257 (.agg #[E,G])) (.int .i64 (j:Int)) (.int .i64 (N:Int)) (.int .i64 n) y p (u:Int) l I J Q R)/\Hid (Chn (S:=H) (frm:=j) (n:=n) (size:=N) first bR u [] I J empty (p,(u:Int),l))) N ⟨[],.slice none 0 0,[],0,B,2,B,0,⟨#[]⟩,undef,undef,undef,undef,undef,undef,undef,undef,undef,rfl,ω,AM _,AA _,i,?_⟩ ?_
 ·intro _
  refine⟨AM _,?_⟩;rw[cJ.l];rfl
 rintro k _ W ⟨Rs,y,p,u,l,I,J,Q,R,gQ,gR,gS,gU,gV,gW,gX,gY,gZ,rfl,rfl,jH,i8,S,bZ⟩
 clear i;have iN:W.cell? ⟨f.heap.size+1,1,none⟩=some (.int .i64 (u:Int)):=S.l.fb.y 1;have i9:=S.l.fb.lt
 by_cases fZ:u<N
 ·have eX:(u:Int)<(N:Int):=ω
  have b:W.cell? ⟨f.heap.size,0,none⟩=some (.iface 257 (.agg #[E,G])):=S.l.lb.y 0;have d:W.cell? ⟨f.heap.size,1,none⟩=some (.int .i64 (j:Int)):=S.l.lb.y 1;have i:W.cell? ⟨f.heap.size,2,none⟩=some (.int .i64 (N:Int)):=S.l.lb.y 2;have o:W.cell? ⟨f.heap.size,3,none⟩=some (.int .i64 n):=S.l.lb.y 3;have jK:=S.l.lb.lt
  gi_wp2_with (refine⟨trivial,?_⟩;gi_at_call 147;refine(Li _ _ _ _ _ _ _ _).z ?_;rintro e w4 ⟨rfl,rfl⟩)
  clear iN b d i o;have iQ:f.heap.size+2<W.heap.size:=S.l.bb.lt;obtain⟨WS,b⟩:∃WS,WS=((W.alloc (.cells #[.pointer none,.slice none 0 0] 221)).alloc (.cells #[.iface 257 (.agg #[E,G]),.int .i64 (j:Int),.int .i64 (N:Int),.int .i64 n] 218)).alloc (.cells #[.int .i64 (u:Int)] 3):=⟨_,rfl⟩;have d:Below W.heap.size W WS:=by rw[b];exact((LO _ _).alloc σ _).alloc τ _
  have i5:WS.heap.size=W.heap.size+3:=by rw[b];simp
  have i:ScN f WS Rs W.heap.size (.iface 257 (.agg #[E,G])) (.int .i64 (j:Int)) (.int .i64 (N:Int)) (.int .i64 n) y p (u:Int) l I J Q R empty:=by
   have V:=AU W (.cells #[.pointer none,.slice none 0 0] 221);have T:=AU (W.alloc (.cells #[.pointer none,.slice none 0 0] 221)) (.cells #[.iface 257 (.agg #[E,G]),.int .i64 (j:Int),.int .i64 (N:Int),.int .i64 n] 218);have o:=AU ((W.alloc (.cells #[.pointer none,.slice none 0 0] 221)).alloc (.cells #[.iface 257 (.agg #[E,G]),.int .i64 (j:Int),.int .i64 (N:Int),.int .i64 n] 218)) (.cells #[.int .i64 (u:Int)] 3);simp only[BD]at T o;refine⟨S.l.I d,.inl ⟨AA _,.slice none 0 0,?_,World.ownsRowF_nil _ _ _ _,by simp[Value.ownBlock]⟩,?_,?_,λk e=>(S.l.own.lt k e).2,iQ⟩
   ·rw[b,JL _ _ τ,JL _ _ σ];exact V
   ·rw[b,JL _ _ σ];exact T
   rw[b];exact o
  rw[<-b];have eL:=Z d;have bC:=Z i;clear b d i
  refine wpIn_rangeFunc_ownH rfl ω (gf:=193) (lb:=#[Mv (W.heap.size+1+1) 0,Mv (W.heap.size+1) 0]) rfl trivial (enters_of func193 κ rfl)
   (xE 3 ω (W.heap.size+1) (W.heap.size+1+1) j N u H n E G f WS cM ω bC.l.sl.be fI bC.l.g1 bC.l.g2)
   KpP.t (KpP.b ω ω ω) (AB _ _) (λ_=>rfl)
   (λF X=>InS first bR f Rs W.heap.size (.iface 257 (.agg #[E,G])) (.int .i64 (j:Int)) (.int .i64 (N:Int)) (.int .i64 n) y p u l F X)
   (λcc F X=>InX first bR f Rs W.heap.size (.iface 257 (.agg #[E,G])) (.int .i64 (j:Int)) (.int .i64 (N:Int)) (.int .i64 n) y p u l cc F X)
   (InS.own _ ω) (λcc=>InX.own _ ω ω cc)
   ⟨I,J,Q,R,empty,bC.l,AM _,bZ.l⟩
   (λx b X=>∃P,X.heap[P]?=some (.cells #[.int .i64 (TT H j n x.1).1,.int .i64 (TT H j n x.1).2.1,.int .i64 (TT H j n x.1).2.2.1,Mz (TT H j n x.1).2.2.2] 51 (0,0))/\W.heap.size+2<P/\b={ tmps:=#[LF a q.length c L t.length U,.int .i64 (j:Int),.int .i64 (N:Int),.int .i64 first,.int .i64 B,.int .i64 n,Mv w.heap.size 0,undef,undef,Mv (w.heap.size+1) 0,undef,undef,Mv (w.heap.size+1+1) 0,Mv f.heap.size 0,Mv (f.heap.size+1) 0,Mv (f.heap.size+1+1) 0,Mv W.heap.size 0,.int .i64 (x.1:Int),Mv P 0,.agg #[.slice a q.length c,.slice L t.length U],M0 true,M0 false,M0 false,.int .i64 n,M0 true,M0 false,M0 false,M0 false,Mv w.heap.size 0,.slice a q.length c,.int .i64 (q.length:Int),.int .i64 (j:Int),.int .i64 (N:Int),M0 true,M0 false,M0 false,undef,.agg #[.slice a q.length c,.slice L t.length U],.agg #[.slice (Mw g 0) q.length q.length,E],(.iface 257 (.agg #[E,G])),.int .i64 (j:Int),.int .i64 (N:Int),.int .i64 n,.agg #[.iface 257 (.agg #[E,G]),.int .i64 (j:Int),.int .i64 (N:Int),.int .i64 n],.int .i64 B,.agg #[.slice none 0 0,.int .i64 0,.int .i64 B],.int .i64 B,.agg #[.int .i64 2,.int .i64 B,.int .i64 0,Mz ⟨#[]⟩],Mv (f.heap.size+1) 1,.int .i64 (u:Int),.int .i64 (N:Int),M0 true,.agg #[.iface 257 (.agg #[E,G]),.int .i64 (j:Int),.int .i64 (N:Int),.int .i64 n],Mv (f.heap.size+1) 1,.int .i64 (u:Int),.func (.func 193) #[] #[Mv (W.heap.size+1+1) 0,Mv (W.heap.size+1) 0],.int .i64 (x.1:Int),ue (TT H j n x.1),undef,undef,undef,undef,undef,undef,undef,undef,undef,undef,undef,undef,undef,undef,undef,undef,undef,undef,undef,undef,undef,undef,undef,undef],defers:=[] }) ?hax ?assign ?body ?done ?stop
  case hax =>
   rintro x L s X d T ⟨P,i,O,F⟩ hg b;refine⟨P,(hg.block P (AW.1 i).1 (λe=>?_)).j i,O,F⟩;obtain⟨_,o,D,K⟩:=b P e.symm
   rw[i]at D;cases D;cases K
  case assign =>
   intro lp F x X K i o
   have D:WS.heap.size<=X.heap.size:=by
    obtain⟨I,J,Q,R,op,d,_,_⟩:=i;have:=(AW.1 d.g2).1;omega
   gi_wp2
   have b:Below X.heap.size X (X.alloc (.cells #[.int .i64 (TT H j n x.1).1,.int .i64 (TT H j n x.1).2.1,.int .i64 (TT H j n x.1).2.2.1,Mz (TT H j n x.1).2.2.2] 51)):=LO _ _;refine o _ _ ((yp b).from _) ⟨b.z ω,b.block _ ω,b.block _ ω⟩ (InS.own _ (AA _) _ _ _ none i (kk b) (λr e=>by cases e)) ⟨X.heap.size,AU _ _,ω,?_⟩;rfl
  case body =>
   rintro lp F x _ X jB ⟨rr,iU⟩ ⟨I,J,Q,R,op,d,gG,bJ⟩ ⟨P,i,i7,rfl⟩ jE;have fA:=x.2.1;obtain⟨D,T,K,o,b⟩:∃D T K o,TT H j n x.1=(D,T,K,o):=⟨_,_,_,_,rfl⟩;have jF:=(SA (om x b)).2.2.2.2.2.2;have iI:=Z b;rw[b]at i⊢;simp only at i⊢;have aR:=Z (λV=>bJ.no (x:=x) b eT V);have aX:=Z (λ(V:D=1) eY aM=>bJ.part (x:=x) (by rw[b,V]) eT eY aM);have aW:=Z (λeY aM hk=>bJ.end (x:=x) b eT eY aM hk)
   have eI:Hid (Good u (F++[x])->u<=x.1):=λhg=>by have:=hg.snoc.2;omega
   have gM:(F++[x]).length=F.length+1:=σ
   obtain⟨px,dM⟩:∃px,px=F++[x]:=⟨_,rfl⟩;rw[<-dM]at aR aX aW eI gM⊢;obtain⟨xn,gN⟩:∃xn,x.1=xn:=⟨_,rfl⟩;rw[gN]at aR aX aW eI fA⊢;clear b iI dM gN x bJ
   obtain⟨b,hZ⟩:∃b,IntKind.i64.wrap (first+(xn:Int))=b:=⟨_,rfl⟩
   rw[hZ]at aR aX aW;have b0:X.cell? ⟨f.heap.size+1+1,0,none⟩=some (.int .i64 I):=d.sl.bb.y 0;have b1:X.cell? ⟨f.heap.size+1+1,1,none⟩=some (.int .i64 J):=d.sl.bb.y 1;have b2:X.cell? ⟨f.heap.size+1+1,2,none⟩=some (.int .i64 Q):=d.sl.bb.y 2;have b3:X.cell? ⟨f.heap.size+1+1,3,none⟩=some (Mz R):=d.sl.bb.y 3;have bl:f.heap.size+1+1<X.heap.size:=d.sl.bb.lt;have fr:=(cH.l.I d.sl.be).y 0;have i3:=(cH.l.I d.sl.be).lt;have p0:=SD i 0 (.int .i64 D) rfl;have p1:=SD i 1 (.int .i64 T) rfl;have p2:=SD i 2 (.int .i64 K) rfl;have p3:=SD i 3 (Mz o) rfl;have iL:=(AW.1 i).1;have cA:=Z d;have HP:=Z i;have i6:W.heap.size+2<X.heap.size:=(AW.1 d.g2).1;clear d i iU
   by_cases hm:K=b
   ·subst hm
    have dU:=Z (λz=>yO I J Q R D T K o z)
    cases aM:PD I J D T with
    | false =>
     rw[aM]at dU;have HF:=Z (aR.l (by rw[aM];simp));clear aR aX aW aM
     gi_wp2_with (refine⟨trivial,?_⟩;gi_at_call 148;refine(show CallsIn Fence.wide _ _ _ _ _ _ from FI.2 (dU.l _)).z ?_;rintro e w5 ⟨rfl,aS⟩)
     exact⟨(yp aS).from _,.inl ⟨rfl,⟨I,J,Q,R,cA.l.sl.I aS⟩,HF.l⟩⟩
    | true =>
     rw[aM]at dU;have aK:=Z (λV=>aX.l V rfl (by rw[<-V];exact aM));have aY:=Z (λhk=>aW.l rfl aM hk);clear aR aX aW aM;have eF:¬(P=f.heap.size+1+1):=ω
     have iT:¬(f.heap.size+1+1=P):=ω
     have eV:(Lib.byteCells op.data.toList).length+o.size<=140737488355328:=by
      rw[xL];omega
     have cT:=Jq op o
     have eC:∀(d:Nb) (i:Nat) (v:Nc),KeepsOthers d (d.setCell ⟨f.heap.size+1+1,i,none⟩ v):=λd i v=>KeepsOthers.setCell _ _ _
     have eH:=Z cT;clear cT
     gi_upto_region 14 with (first
      | (refine⟨trivial,?_⟩;gi_at_call 148;refine(show CallsIn Fence.wide _ _ _ _ _ _ from FI.2 (dU.l _)).z ?_;rintro e w5 ⟨rfl,aS⟩;have aO:=cA.l.kept (kk aS) (λr e=>by cases e);have bT:=(aS.block P iL).j HP.l;clear p0 p1 p2 p3 b0 b1 b2 b3;have p0:=SD bT 0 (.int .i64 D) rfl;have p1:=SD bT 1 (.int .i64 T) rfl;have p2:=SD bT 2 (.int .i64 K) rfl;have p3:=SD bT 3 (.string o) rfl;have b0:w5.cell? ⟨f.heap.size+1+1,0,none⟩=some (.int .i64 I):=aO.sl.bb.y 0;have b1:w5.cell? ⟨f.heap.size+1+1,1,none⟩=some (.int .i64 J):=aO.sl.bb.y 1;have b2:w5.cell? ⟨f.heap.size+1+1,2,none⟩=some (.int .i64 Q):=aO.sl.bb.y 2;have b3:w5.cell? ⟨f.heap.size+1+1,3,none⟩=some (.string R):=aO.sl.bb.y 3;have f0:w5.frozen? ⟨f.heap.size+1+1,0,none⟩=false:=aO.sl.bb.A 0;have f1:w5.frozen? ⟨f.heap.size+1+1,1,none⟩=false:=aO.sl.bb.A 1;have f2:w5.frozen? ⟨f.heap.size+1+1,2,none⟩=false:=aO.sl.bb.A 2;have f3:w5.frozen? ⟨f.heap.size+1+1,3,none⟩=false:=aO.sl.bb.A 3;have l5:=aS.size;have eJ:=Z (aO.setWas D T K o);have iH:=Z bT;have fB:=Z aS;clear aO bT aS)
      | (refine⟨trivial,?_⟩;gi_at_call 149;refine(show CallsIn Fence.wide _ _ _ _ _ _ from FI.2 (Ci W.heap.size W.heap.size (Lib.byteCells op.data.toList) o _ eJ.l.bu eV τ)).z ?_;rintro e w9 ⟨rfl,cS,aL,eB⟩;obtain⟨ba,cP⟩:=tV eJ.l.bu;have bW:=tP cP eB aL.size;have fW:=eJ.l.wrote (op':=op++o) aL eB (.inr (by rw[eH.l,Lib.byteCells_append];exact cS));have fX:=(eB P _ ((BF _ _ _ _ eF).j ((BF _ _ _ _ eF).j ((BF _ _ _ _ eF).j ((BF _ _ _ _ eF).j iH.l)))) (by intro e;cases e;omega) (by intro cc fz e;simp at e));have fG:=Z ((yp fB.l).j ((eC _ _ _).j ((eC _ _ _).j ((eC _ _ _).j ((eC _ _ _).j bW)))));have iC:=Z (((((fB.l.z (show f.heap.size<=X.heap.size by omega)).setCell (p:=⟨f.heap.size+1+1,0,none⟩) (by show f.heap.size<=f.heap.size+1+1;omega) (.int .i64 D)).setCell (p:=⟨f.heap.size+1+1,1,none⟩) (by show f.heap.size<=f.heap.size+1+1;omega) (.int .i64 T)).setCell (p:=⟨f.heap.size+1+1,2,none⟩) (by show f.heap.size<=f.heap.size+1+1;omega) (.int .i64 K)).setCell (p:=⟨f.heap.size+1+1,3,none⟩) (by show f.heap.size<=f.heap.size+1+1;omega) (.string o) |>.j (aL.z ω));have dV:=Z fW;have cC:=Z fX;have l9:w5.heap.size<=w9.heap.size:=(by have:=aL.size;simpa using this);clear cS aL eB cP bW fW fX p0 p1 p2 p3 b0 b1 b2 b3 f0 f1 f2 f3))
     have p0:=SD cC.l 0 (.int .i64 D) rfl;have p1:=SD cC.l 1 (.int .i64 T) rfl;have p2:=SD cC.l 2 (.int .i64 K) rfl;have p3:=SD cC.l 3 (Mz o) rfl;have i4:P<w9.heap.size:=ω
     by_cases bV:D=1
     ·have HI:Hid (InS first bR f Rs W.heap.size (.iface 257 (.agg #[E,G])) (.int .i64 (j:Int)) (.int .i64 (N:Int)) (.int .i64 n) y p u l px w9):=⟨D,T,K,o,op++o,dV.l,by rw[BN,gM];omega,by have:=aK.l bV;rw[bV];exact this⟩
      have eU:(D != 1)=false:=by simp[bV]
      clear aK aY
      gi_wp2
      exact⟨fG.l.from _,⟨iC.l,dV.l.g1.j cA.l.g1.symm,dV.l.g2.j cA.l.g2.symm⟩,HI.l⟩
     have eU:(D != 1)=true:=by simp[bV]
     have b7:=Z (aY.l bV);have cN:=dV.l.kept (W':=w9.drew) (row:=none) ⟨rfl,rfl,rfl,AA _,λ_ _ _=>rfl⟩ (λr e=>by cases e);have aZ:=Z cN;have fS:=Z (λz iM hs=>Mo W.heap.size W.heap.size (op++o).data.toList z iM hs);have gK:=Df (op++o);rw[gK]at fS;clear gK cN aK aY bV
     gi_upto_region 15 with fail
     gi_region_with (first
      | (refine⟨trivial,?_⟩;gi_at_call 151;refine(show CallsIn Fence.wide _ _ _ _ _ _ from FI.2 (fS.l _ aZ.l.bu τ)).z ?_;rintro e iA ⟨rfl,aT,aP,aQ⟩;obtain⟨ba,cP⟩:=tV aZ.l.bu;have bW:=tP cP aQ aP.size;have iF:=Z (fG.l.j (⟨bW.size,bW.same⟩:KeepsOthers w9 iA));have cL:=aZ.l.wrote (op':=op++o) aP aQ aT;have aH:=aQ P _ (show w9.drew.heap[P]?=_ from cC.l) (by intro e;cases e;omega) (by intro cc fz e;simp at e);have r0:=SD aH 0 (.int .i64 D) rfl;have r1:=SD aH 1 (.int .i64 T) rfl;have r2:=SD aH 2 (.int .i64 K) rfl;have r3:=SD aH 3 (.string o) rfl;have jJ:w9.heap.size<=iA.heap.size:=aP.size;have aJ:=Z cL;have iG:=Z aH;clear aT aP aQ cP bW cL aH)
      | (refine⟨trivial,?_⟩;gi_at_call 150;refine(show CallsIn Fence.wide _ _ _ _ _ _ from FI.2 (zP f.heap.size (f.heap.size+1) y p (u:Int) l D T K o (op++o) xn _ aJ.l.sl.fb aJ.l.sl.own ω ω (aJ.l.sl.own_ne ω) ω ω)).z ?_;rintro e jL ⟨rfl,gL⟩;have fU:=Z gL;clear gL))
     all_goals
      gi_wp2
      obtain⟨y2,eO⟩:=aJ.l.sl.take fU.l;refine⟨(iF.l.j (aJ.l.sl.takeKeeps fU.l)).from _,.inr ⟨rfl,xn,y2,(if D=2 then p++[op++o] else p),T,D,T,K,o,?_,fA,λhg=>⟨eI.l hg,?_,?_⟩⟩⟩
      ·rw[show((xn+1:Nat):Int)=(xn:Int)+1 by omega]
       exact eO
      ·split
       ·simp
       omega
      ·rw[show((xn+1:Nat):Int)=(xn:Int)+1 by omega]
       exact b7.l hg
   have i:(K == b)=false:=by simp[hm]
   have d:(K != b)=true:=by simp[hm]
   have HF:=Z (aR.l (λh=>hm h.1));clear aR aX aW
   gi_wp2
   refine⟨trivial,?_⟩
   gi_wp2
   exact⟨KeepsFrom.refl _ _,.inl ⟨rfl,⟨I,J,Q,R,cA.l.sl⟩,HF.l⟩⟩
  case done =>
   rintro D F X hD ⟨dZ,i⟩ ⟨I,J,Q,R,op,d,gG,bJ⟩ bG;have HF:=Z (bJ.done dZ i);have b:=Z (d.sl.push bG ω ω);clear bJ i d gG bG S bC eL bZ;have zl:=b.l.fb.lt
   obtain⟨i,o,dR⟩:∃i o,y=Value.slice i p.length o:=by
    rcases NU b.l.own with ⟨d,K⟩|⟨T,P,d,_⟩
    ·exact⟨none,0,by rw[d,K]⟩
    exact⟨_,P,d⟩
   subst dR;have z0:X.cell? ⟨f.heap.size+1,0,none⟩=some (Value.slice i p.length o):=b.l.fb.y 0;have z1:X.cell? ⟨f.heap.size+1,1,none⟩=some (.int .i64 (u:Int)):=b.l.fb.y 1;have z2:X.cell? ⟨f.heap.size+1,2,none⟩=some (.int .i64 l):=b.l.fb.y 2;have d:=aD.l.I b.l.be;obtain⟨y0,y1,y2⟩:=d.k3;obtain⟨x0,x1,x2⟩:=d.z3;have xl:=d.lt;have cZ:¬(w.heap.size+1+1=f.heap.size+1):=ω
   have aU:¬(f.heap.size+1=w.heap.size+1+1):=ω
   clear d
   gi_wp2
   have P:=b.l.fin (w:=w) aD.l ω aI.l;refine pe f.heap.size (ScF1 w f (w.heap.size+1+1) (Value.slice i p.length o) p (u:Int) l) (λX r d K h3=>ScF1.put aF X r d K h3) (λX hX=>?_) (D::Rs) _ b.l.nd P.2 P.1;obtain⟨dN,dH,aL⟩:=hX;obtain⟨e0,V,T⟩:=dN.k3;refine⟨.agg #[Value.slice i p.length o,.int .i64 (u:Int),.int .i64 l],by simp[results,results96,go_sem,e0,V,T],?_⟩;rw[<-HF.l];exact⟨_,rfl,ru dH aF,aL⟩
  case stop =>
   rintro D cc F X hD dZ hx bG;rcases hx with ⟨rfl,⟨I,J,Q,R,hl⟩,cV⟩|⟨rfl,x,y',ents',l',I,J,Q,R,hl,fA,cV⟩
   ·have HF:=Z (cV dZ)
    have b:=Z (hl.push bG ω ω);clear cV hl bG S bC eL bZ;have zl:=b.l.fb.lt
    obtain⟨i,o,dR⟩:∃i o,y=Value.slice i p.length o:=by
     rcases NU b.l.own with ⟨d,K⟩|⟨T,P,d,_⟩
     ·exact⟨none,0,by rw[d,K]⟩
     exact⟨_,P,d⟩
    subst dR;have z0:X.cell? ⟨f.heap.size+1,0,none⟩=some (Value.slice i p.length o):=b.l.fb.y 0;have z1:X.cell? ⟨f.heap.size+1,1,none⟩=some (.int .i64 (u:Int)):=b.l.fb.y 1;have z2:X.cell? ⟨f.heap.size+1,2,none⟩=some (.int .i64 l):=b.l.fb.y 2;have d:=aD.l.I b.l.be;obtain⟨y0,y1,y2⟩:=d.k3;obtain⟨x0,x1,x2⟩:=d.z3;have xl:=d.lt;have cZ:¬(w.heap.size+1+1=f.heap.size+1):=ω
    have aU:¬(f.heap.size+1=w.heap.size+1+1):=ω
    clear d
    gi_wp2
    have P:=b.l.fin (w:=w) aD.l ω aI.l;refine pe f.heap.size (ScF1 w f (w.heap.size+1+1) (Value.slice i p.length o) p (u:Int) l) (λX r d K h3=>ScF1.put aF X r d K h3) (λX hX=>?_) (D::Rs) _ b.l.nd P.2 P.1;obtain⟨dN,dH,aL⟩:=hX;obtain⟨e0,V,T⟩:=dN.k3;refine⟨.agg #[Value.slice i p.length o,.int .i64 (u:Int),.int .i64 l],by simp[results,results96,go_sem,e0,V,T],?_⟩;rw[<-HF.l];exact⟨_,rfl,ru dH aF,aL⟩
   obtain⟨o,i,K⟩:=cV dZ
   have b:=Z (hl.push bG ω ω);have d:=Z K;clear cV hl bG K S bC eL bZ
   gi_wp2
   exact⟨N-(x+1),ω,D::Rs,y',ents',x+1,l',I,J,Q,R,_,_,_,_,_,_,_,_,_,rfl,rfl,ω,ω,b,d⟩
 have HF:=Z (bZ.l.done (Good.nil u) (.inl τ))
 have b:=S;have eX:¬((u:Int)<(N:Int)):=ω
 have zl:=b.l.fb.lt
 obtain⟨i,o,dR⟩:∃i o,y=Value.slice i p.length o:=by
  rcases NU b.l.own with ⟨d,K⟩|⟨T,P,d,_⟩
  ·exact⟨none,0,by rw[d,K]⟩
  exact⟨_,P,d⟩
 subst dR;have z0:W.cell? ⟨f.heap.size+1,0,none⟩=some (Value.slice i p.length o):=b.l.fb.y 0;have z1:W.cell? ⟨f.heap.size+1,1,none⟩=some (.int .i64 (u:Int)):=b.l.fb.y 1;have z2:W.cell? ⟨f.heap.size+1,2,none⟩=some (.int .i64 l):=b.l.fb.y 2;have d:=aD.l.I b.l.be;obtain⟨y0,y1,y2⟩:=d.k3;obtain⟨x0,x1,x2⟩:=d.z3;have xl:=d.lt;have cZ:¬(w.heap.size+1+1=f.heap.size+1):=ω
 have aU:¬(f.heap.size+1=w.heap.size+1+1):=ω
 clear d
 gi_wp2
 have P:=b.l.fin (w:=w) aD.l ω aI.l;refine pe f.heap.size (ScF1 w f (w.heap.size+1+1) (Value.slice i p.length o) p (u:Int) l) (λX r d K h3=>ScF1.put aF X r d K h3) (λX hX=>?_) Rs _ b.l.nd P.2 P.1;obtain⟨dN,dH,aL⟩:=hX;obtain⟨e0,V,T⟩:=dN.k3;refine⟨.agg #[Value.slice i p.length o,.int .i64 (u:Int),.int .i64 l],by simp[results,results96,go_sem,e0,V,T],?_⟩;rw[<-HF.l];exact⟨_,rfl,ru dH aF,aL⟩
end
section
open Tryz
open Go.RowKit
variable {s:Y}{ts:List Y}
theorem Ek(a:M6)(f:List Y)(c:Nat)(j:M6)(g:List (Int×Y))(k:Nat)(d b first C n:Int)(w:Nb)(h:Strs w a f)(H:Wrs w j g)(y:f.length<=1048576)(D:g.length<=1048576)(I:∀s∈f,s.size<=1048576)(E:∀x∈g,x.2.size<=1048576)(u:-9223372036854775808<=d/\d<=9223372036854775807)(v:¬XS f g d b n):Calls prog 96 #[LF a f.length c j g.length k,.int .i64 d,.int .i64 b,.int .i64 first,.int .i64 C,.int .i64 n] w λe i=>au w i e ([],0,0):=by
 have t:∀i l m,Below w.heap.size w (((w.alloc i).alloc l).alloc m):=λi l m=>((LO _ _).alloc σ _).alloc τ _
 have B:=Z (λ(m:Nb) (x:Below w.heap.size w m)=>NF a f c j g k m (h.I x) (H.I x) y D I E);have A:=Z (λm=>oD f.length d b y u.1 u.2 m)
 cases hok:LE f g
 focus
  have o:decide (1<=n/\n<=8)=decide (1<=n/\n<=8):=rfl;have q:decide (0<=d/\0<=b/\b<=(f.length:Int)-d)=decide (0<=d/\0<=b/\b<=(f.length:Int)-d):=rfl
 rotate_left
 focus
  by_cases p:1<=n/\n<=8
  focus
   have o:decide (1<=n/\n<=8)=true:=AL p;have q:decide (0<=d/\0<=b/\b<=(f.length:Int)-d)=false:=AI (λi=>v ⟨hok,p,i.1,i.2.1,ω,i.2.2⟩)
  rotate_left
  focus
   have o:decide (1<=n/\n<=8)=false:=AI p;have q:decide (0<=d/\0<=b/\b<=(f.length:Int)-d)=decide (0<=d/\0<=b/\b<=(f.length:Int)-d):=rfl
  rotate_left
 rotate_left 2
 all_goals
  clear v;go_enter func96,ntmps96;go_wp2;refine wp_scope_straight ?_
  go_wp2_with (first|(go_at_call 57;refine(B.l _ (t _ _ _)).z ?_;rw[hok];rintro e P ⟨rfl,l⟩;have r:=(((LM w #[.slice a f.length c,.slice j g.length k] 26 w.heap.size rfl).alloc (.cells #[.int .i64 first] 3)).alloc (.cells #[.slice none 0 0,.int .i64 0,.int .i64 0] 162)).I l;have i:=(LM ((w.alloc (.cells #[.slice a f.length c,.slice j g.length k] 26)).alloc (.cells #[.int .i64 first] 3)) #[.slice none 0 0,.int .i64 0,.int .i64 0] 162 (w.heap.size+1+1) σ).I l;have z:=Z ((t (.cells #[.slice a f.length c,.slice j g.length k] 26) (.cells #[.int .i64 first] 3) (.cells #[.slice none 0 0,.int .i64 0,.int .i64 0] 162)).j (l.z ξ));have N:=r.y 0;have O:=r.lt;have b0:=i.y 0;have F:=i.y 1;have G:=i.y 2;have J:=i.A 0;have K:=i.A 1;have L:=i.A 2;have M:=i.lt;clear l r i)|(go_at_call 53;refine(SZ _ _).z ?_;rw[o];refine OJ ?_)|(go_at_call 146;refine(A.l _).z ?_;rw[q];refine OJ ?_))
  try simp only[Exit.noGoto]
  refine AJ (v:=.agg #[.slice none 0 0,.int .i64 0,.int .i64 0]) (by simp[results,results96,go_sem,b0,F,G]) rfl ?_;exact⟨.slice none 0 0,rfl,DA _ _ _ _,((z.l.setCell (by show w.heap.size<=w.heap.size+1+1;omega) _).setCell (by show w.heap.size<=w.heap.size+1+1;omega) _).setCell (by show w.heap.size<=w.heap.size+1+1;omega) _⟩
theorem xU(a:M6)(f:List Y)(c:Nat)(j:M6)(g:List (Int×Y))(l:Nat)(d b first i n:Int)(w:Nb)(h:Strs w a f)(p:Wrs w j g)(q:f.length<=1048576)(m:g.length<=1048576)(r:∀s∈f,s.size<=1048576)(o:∀x∈g,x.2.size<=1048576)(y:-9223372036854775808<=d/\d<=9223372036854775807)(u:-9223372036854775808<=first/\first<=9223372036854775807)
  (t:TypeId)(v:Nc)(hv:w.cell? ⟨1,0,none⟩=some (.iface t v))(x:w.cell? ⟨0,0,none⟩=some (.iface 200 (.agg #[Mv 3 91])))(z:1<w.heap.size):Calls prog 96 #[LF a f.length c j g.length l,.int .i64 d,.int .i64 b,.int .i64 first,.int .i64 i,.int .i64 n] w λe k=>au w k e (TQ f g d b first i n):=by
 by_cases k:XS f g d b n
 ·exact Hj a f c j g l d b first i n w h p q m r o u t v hv x z k
 have e:TQ f g d b first i n=([],0,0):=by unfold TQ;rw[AG k]
 rw[e]
 exact Ek a f c j g l d b first i n w h p q m r o y k
theorem nP{w:Nb}{a n m:Nat}{f:M6}{c:List OpT}(h:w.ownsRow a 130 3 (.slice f n m) c.length (OO c)):n=c.length/\OwnS w f (OO c)/\∀g,blk f c.length=some g->a<=g/\g<w.heap.size:=by
 rcases NU h with ⟨b,d⟩|⟨g,i,b,d,j,e⟩
 ·injection b with b j e
  rw[d];exact⟨ω,.inl (by rw[AC d];rfl),λg k=>by simp[blk]at k⟩
 injection b with b l o
 subst b
 exact⟨l,.inr ⟨g,rfl,e⟩,λp k=>by
  unfold blk at k
  split at k
  ·cases k
  simp at k;subst k;exact⟨d,e.lt⟩⟩
theorem Mb(W S L T H F R U O:Int)(a:M6)(t:List Pr)(c:Nat)(J:M6)(b:List Ch)(c2:Nat)(w:Nb)(h:Prs w a t)(hc:t.length<=c)(hl:t.length<=1048576)(hs:∀x∈t,x.1.size<=1048576/\x.2.size<=1048576)(h2:Chs w J b)(bC:b.length<=1048576)(K:∀x∈b,x.1.size<=1048576/\x.2.1.size<=1048576):Calls prog 65 #[NK W S L T H F R U O a t.length c,.slice J b.length c2] w λx j=>ee w j x (QE W S L T H F R U O t b):=by
 have k:=Z (λj e=>kn W S L T H F R U O a t c j e hc hl hs);have p:=Z (λj e=>db J b c2 j e bC K);have I:=Z (λj e d=>pX a t c J b c2 j e hl hs d bC K);unfold YL MH at I;have cH:=qf t b;have bR:=Z (nL t b (λx=>x.1.size<=1048576/\x.2.size<=1048576) hs K);obtain⟨D,B⟩:∃D,Hid (D=QE W S L T H F R U O t b):=⟨_,Z rfl⟩;rw[<-B.l];have i:=B.l;unfold QE at i;clear B;obtain⟨o,bQ⟩:∃o,Hid (o=PQ t b):=⟨_,Z rfl⟩;obtain⟨P,b7⟩:∃P,Hid (P=PO t b):=⟨_,Z rfl⟩;rw[<-bQ.l]at cH bR;rw[<-bQ.l,<-b7.l]at I i;have HH:=Z h;have aS:=Z h2;have cB:=Z K;clear h h2 hs K;unfold NK at k⊢;have g:=Z i;clear i;go_enter func65,ntmps65;go_upto_region 1 with fail;generalize d:w.alloc _=v1;obtain⟨i,m,n⟩:=LY d;clear d;generalize d:v1.alloc _=v2;obtain⟨l,q,f⟩:=LY d;clear d;rw[m]at f;have d:StB w v2 (sJ W S L T H F R U O (.slice a t.length c)) (λ_=>True):=⟨i.j (l.z i.size),(n.I l).q,f.q,LQ (λ_=>trivial)⟩
 have r:w.heap.size+1<v2.heap.size:=f.q.lt;clear i l n f m q;refine BE ?_;refine AS rfl 33 _ rfl w.heap.size 0 rfl _ _ d.r1.range underlying33 rfl QI ?_;simp only[PS];go_wp2_with fail;refine(k.l _ (HH.l.I d.e)).z ?_;rintro x v3 ⟨rfl,f⟩;replace d:=d.I f;clear f r k
 cases hok:OB W S L T H F R U O t
 focus
  obtain rfl:D=LX 1:=by rw[g.l,AG (by rw[hok];simp)]
  go_upto_region 2 with fail;refine d.noR 1 _ _ rfl γ rfl rfl rfl rfl (λy z A=>?_)
 rotate_left
 focus
  go_wp2_with fail;refine(p.l _ (aS.l.I d.e)).z ?_;rintro x v4 ⟨rfl,f⟩;replace d:=d.I f;clear f p
  cases hokb:PA b
  focus
   obtain rfl:D=LX 1:=by rw[g.l,AG (by rw[hokb];simp)]
   go_upto_region 2 with fail;refine d.noR 1 _ _ rfl γ rfl rfl rfl rfl (λy z A=>?_)
  rotate_left
  focus
   have i:=g.l;rw[AE (by rw[hok,hokb];rfl)]at i;obtain⟨hW,hS,cJ,hT,hH,hF,hU,hO,_⟩:=UD hok;have hQ:=QM hS;clear hok hokb g;obtain⟨n,rfl⟩:∃n:Nat,W=(n:Int):=⟨W.toNat,ω⟩;have f:(n:Int).toNat=n:=ω
   rw[f]at i;obtain⟨m,g⟩:∃m,m=56-n:=⟨_,rfl⟩;rw[<-g]at i;have bW:n+m=56:=ω
   clear f g;have HF:=Z (λj e=>uz J b c2 j e bC cB.l);have cL:=ZY b;have M:=Z (λj=>uo (LT b) (n:Int) j ω);have bY:=jh (LT b).size (n:Int) ω ω;have q:=xj (LT b) L (F+U) n m bW ω ω cJ ω;have p:=Z (λf g j e k=>sj (n:Int) S L T H F R U O f o g j e k ω bR.l);have X:=Z (λf g j=>uJ (n:Int) S L T H F R U O f o.length g j hU.1 ω);have G:=Z (λf g j=>nc (n:Int) S L T H F R U O f o.length g j hH.1 hH.2 hF.1 hF.2 hU.1 ω);have E:=Z (λk g v r j hW f l=>uG k g v r (2+H*hv S+U) (F+U) L n m (LT b) j hW f ω l bW ω ω (by have:0<=H*hv S:=Int.mul_nonneg hH.1 ω;omega) (by rcases(show H=0\/H=1 by omega) with e|e<;>subst e<;>omega) ω ω);unfold NK at p X G;obtain⟨Q,HQ⟩:∃Q,Hid (Q=hv S):=⟨_,Z rfl⟩
   obtain⟨N,V⟩:∃N,Hid (N=OR (LT b).size (n:Int)):=⟨_,Z rfl⟩;obtain⟨bo,k⟩:∃bo,bo=LT b:=⟨_,rfl⟩;obtain⟨u,hcut⟩:∃u,u=PG (LT b) L (F+U) n m:=⟨_,rfl⟩;have l:(u.length:Int)=N:=by rw[hcut,V.l];exact q ω
   rw[<-hcut]at E i;rw[<-k]at HF M E cL bY;rw[<-k]at V;rw[<-V.l]at bY M;rw[<-HQ.l]at hQ hU p X G E i;rw[<-k,<-V.l]at i;clear q hcut k;obtain⟨q,k⟩:∃q,q=2+H*Q:=⟨_,rfl⟩
   have cW:2<=q/\q<=101:=by
    rcases(show H=0\/H=1 by omega) with e|e
    ·subst e;omega
    subst e;omega
   rw[<-k]at G E i;clear k;obtain⟨r,cA⟩:∃r,Hid (r=MJ (MD o) (n:Int)):=⟨_,Z rfl⟩;rw[<-cA.l]at p i;have B:=Z i;have aZ:=Z l;clear i l;have cZ:IntKind.i64.wrap (U+N)=U+N:=by simp[IntKind.wrap,IntKind.bits,IntKind.signed];omega
   have dH:IntKind.i64.wrap (O+N)=O+N:=by simp[IntKind.wrap,IntKind.bits,IntKind.signed];omega
   have c9:=d.r1.y 9;have l:=d.r1.lt;go_wp2_with fail;clear c9 l;refine(I.l _ (HH.l.I d.e) (aS.l.I d.e)).z ?_;rintro x v5 ⟨v,C,rfl,bU,k,hg,f⟩;have l4:=d.r2.lt;have i:=LS (lo:=v4.heap.size) k SM hg;replace d:=d.I f;clear f I k;go_upto_region 4 with fail;generalize k:v5.alloc _=v6;obtain⟨f,bJ,b5⟩:=LY k;clear k;have I:=b5.q;obtain⟨X5,l⟩:∃k,k=v5.heap.size:=⟨_,rfl⟩;rw[<-l]at I⊢;have l5:w.heap.size+1<X5:=by rw[l];exact d.r2.lt
   replace d:=d.I f;replace i:=i.I f;clear f b5 bJ l;generalize Value.tuple _=T0;generalize Value.agg _=A0
   try generalize Value.agg _=A9
   by_cases hC:P=0
   rotate_left
   focus
    obtain rfl:D=LX 2:=by rw[B.l,AG hC]
    have cV:(P == 0)=false:=by simp[hC]
    go_upto_region 5 with fail;refine d.noR 2 _ _ rfl γ rfl rfl rfl rfl (λy z A=>?_)
   rotate_left
   focus
    have cU:=Z hC;subst hC;have f:=I.y 0;have cC:=I.lt;have c9:=d.r1.y 9;have f9:=d.r1.A 9;have l:=d.r1.lt;go_upto_region 7 with fail;clear f cC c9 f9 l;replace d:=d.set 9 σ (.slice v o.length C);replace i:=i.J (QC (BY v6 (some w.heap.size)) 9 (.slice v o.length C)) (λg e=>by cases e;omega);generalize f:World.setCell _ _ _=v7 at d i⊢;clear f I;go_wp2_with fail;refine(HF.l _ (aS.l.I d.e)).z ?_;rintro x v8 ⟨rfl,f⟩;replace d:=d.I f;replace i:=i.I f;clear f HF;have f:=d.r1.y 0;have l:=d.r1.lt;go_wp2_with fail;clear f l;refine(M.l _).z ?_;rintro x v9 ⟨rfl,f⟩;replace d:=d.I f;replace i:=i.I f;clear f M;go_upto_region 9 with fail;refine BE ?_;refine AS rfl 33 _ rfl w.heap.size 0 rfl _ _ d.r1.range underlying33 rfl QI ?_;simp only[PS];go_wp2_with fail
    refine(p.l _ _ _ i.q.prs bU).z ?_;rintro x va ⟨rfl,f⟩;replace d:=d.I f;replace i:=i.I f;clear f p
    by_cases M:r<=Q-1
    rotate_left
    focus
     obtain rfl:D=LX 3:=by rw[B.l,AE trivial,AG M]
     rw[AI M];go_upto_region 10 with fail;refine d.noR 3 _ _ rfl γ rfl rfl rfl rfl (λy z A=>?_)
    rotate_left
    focus
     rw[AL M];go_upto_region 11 with fail;refine BE ?_;refine LU rfl (.int .i64 N) γ ?_;simp only[PS];refine AS rfl 33 _ rfl w.heap.size 0 rfl _ _ d.r1.range underlying33 rfl QI ?_;simp only[PS];go_wp2_with fail;refine(X.l _ _ _).z ?_;rintro x vb ⟨rfl,f⟩;replace d:=d.I f;replace i:=i.I f;clear f X;have cT:=d.r2.lt;have cQ:=i.top
     have cS:∀g,blk v o.length=some g->g<vb.heap.size:=λg k=>ZK i.q k
     by_cases hp:N<=Q-U
     rotate_left
     focus
      obtain rfl:D=LX 4:=by rw[B.l,AE trivial,AE M,AG hp]
      have cO:Q-U<N:=ω
      go_upto_region 12 with fail;refine d.noR 4 _ _ rfl γ rfl rfl rfl rfl (λy z A=>?_)
     rotate_left
     focus
      have cO:¬(Q-U<N):=ω
      obtain rfl:D=⟨0,(n:Int),S,L,T,H,F,R,U+N,O+N,o,MP (q+U) u⟩:=by rw[B.l,AE trivial,AE M,AE hp]
      go_upto_region 13 with fail;refine BE ?_;refine AS rfl 33 _ rfl w.heap.size 0 rfl _ _ d.r1.range underlying33 rfl QI ?_;simp only[PS];go_wp2_with fail;refine(G.l _ _ _).z ?_;rintro x vc ⟨g,rfl,p,f⟩;replace d:=d.I f;replace i:=i.I f;have lb:=f.size;clear f G;go_wp2_with fail;refine(E.l _ _ _ _ _ p lb (by have:=aZ.l;simp;omega)).z ?_;rintro x vd ⟨⟨x5,rfl⟩,v',p,f,-⟩;replace d:=d.low f cT;replace i:=i.low f cQ;clear f E
      obtain⟨G,yn,I,rfl⟩:∃a n c,v'=.slice a n c:=by
       rcases NU p.own with ⟨e,_⟩|⟨g,f,e,_⟩<;>exact⟨_,_,_,e⟩
      rw[DW]at p;obtain⟨bZ,X,bG⟩:=nP p.own;rw[QW]at bZ;subst bZ;have f:=d.r1.y 7;have E:=d.r1.y 8;have f7:=d.r1.A 7;have f8:=d.r1.A 8;have l:=d.r1.lt;go_upto_region 17 with fail;clear f f7 E f8 l;replace d:=(d.set 7 σ (.int .i64 (U+N))).set 8 σ (.int .i64 (O+N));replace p:=(p.set w.heap.size 7 ω (.int .i64 (U+N))).set w.heap.size 8 ω (.int .i64 (O+N));replace i:=(i.J (QC (BY vd (some w.heap.size)) 7 (.int .i64 (U+N))) (λg e=>by cases e;omega)).J (QC (BY _ (some w.heap.size)) 8 (.int .i64 (O+N))) (λg e=>by cases e;omega);generalize f:World.setCell (World.setCell _ _ _) _ _=E at d p i⊢;clear f X;have dD:=AB E.heap.size E;refine VS (6) (S:=λj=>Row j w.heap.size (sJ (n:Int) S L T H F R (U+N) (O+N) (.slice v o.length C))/\j.cell? ⟨g,0,none⟩=some (.slice G u.length I)) κ (⟨d.r1.I dD.drew,(p.I dD.drew).row.y 0⟩) (λf=>?_)
      refine OZ 0 (.agg (sK (n:Int) S L T H F R (U+N) (O+N) (.slice v o.length C))) rfl (BO ⟨ρ,λw p=>by obtain⟨z0,z1⟩:=p;exact LJ 33 _ rfl _ 0 rfl _ _ z0.range underlying33 rfl QI⟩) f (NN 1 (Mv g 0) rfl f (NN 2 (Mv g 0) rfl f (OZ 3 (Mv g 0) rfl (BO ⟨ρ,λw p=>by obtain⟨z0,z1⟩:=p;have l:=DM _ _ z1;go_simp⟩) f (NN 4 (.slice G u.length I) rfl f (NN 5 (.agg (dK 0 (n:Int) S L T H F R (U+N) (O+N) (.slice v o.length C) (.slice G u.length I))) rfl f ?_)))));simp only[PS];refine RT (rs:=[6]) κ σ ?_;refine AllReadyT.last rfl (λKq cI=>?_);have S8:=d.I (AB E.heap.size E).drew;refine LH rfl 99 _ _ rfl (w.heap.size+1) 0 (dK 0 (n:Int) S L T H F R (U+N) (O+N) (.slice v o.length C) (.slice G u.length I)) rfl rfl (S8.r2.there rfl) UB κ ?_
      refine cI.l _ _ trivial (λ_=>?_)
      try simp only[PS]
      refine UY κ ?_ _;have dd:=(AB E.heap.size E).drew;have cP:=QW (q+U) u;obtain⟨_,X,bH⟩:=nP (NC p.own dd);have aM:=oq p.own
      have bG:=λg k=>(bH g k).1
      obtain⟨z,j⟩:=S8.fin ⟨0,(n:Int),S,L,T,H,F,R,U+N,O+N,o,MP (q+U) u⟩ v C G I bU ⟨(i.I dd).q,X,ZJ (N:=vb.heap.size) cS (λg k=>bG g k)⟩ (λg k=>by have:=hg g k;omega) (λg k=>by have:=bG g k;omega);have A:=Z j;clear j;simp only[UV,QW]at z A;generalize j:World.setCells _ _ _ _=y at z A⊢;clear j d
      try go_wp2
      refine VO 4 results65 (a:=v) (c:=C) (b:=G) (e:=I) _ ?_ (by simp only[UV,QW];exact z) ?_ A.l (by rw[cP]at aM⊢;exact aM)<;>rfl
  rotate_left 3
 rotate_left 4
 all_goals
  try simp only[PS]
  clear d
  try go_wp2
  refine VO 4 results65 _ ?_ z ?_ A.l<;>rfl
theorem Dv{P:List (List (Y×Y))}(k:Nat)(a:k<P.length)(b:MU (P.getD k [])=false):QR P=false:=by
 unfold QR;have:P.all MU=false:=GE.2 ⟨P.getD k [],by simp[List.getD,a],by rw[b];simp⟩;rw[this,IQ]
theorem Hv{P:List (List (Y×Y))}(h:1<=P.length/\P.length<=200)(c:∀k,k<P.length->MU (P.getD k [])=true):QR P=true:=by
 unfold QR;rw[AL h,IJ]
 refine EH.2 λd b=>?_
 obtain⟨k,a,rfl⟩:=EN b;have:=c k a;simpa[List.getD,a] using this
theorem Ds(k:Nat)(a:k<ts.length)(b:¬(ts.getD k empty).size=64):RV ts=false:=by
 unfold RV;have:(ts.all λs=>decide (s.size=64))=false:=GE.2 ⟨ts.getD k empty,by simp[List.getD,a],by simpa using b⟩;rw[this,IQ]
theorem Hf(h:ts.length<=2000)(c:∀k,k<ts.length->(ts.getD k empty).size=64):RV ts=true:=by
 unfold RV;rw[AL h,IJ]
 refine EH.2 λs b=>?_
 obtain⟨k,a,rfl⟩:=EN b;have:=c k a;simpa[List.getD,a] using this
theorem Lt{x:Wo}(h:decide (1<=x.w/\x.w<=8)=false):NI x=false:=by unfold NI;rw[h];rfl
theorem Bh{x:Wo}(h:LE x.ss x.ws=false):NI x=false:=by unfold NI;rw[h];simp
theorem C0{x:Wo}(h:QU x=false):NI x=false:=by unfold NI;rw[h];simp
theorem vW{x:Wo}(h:QR x.P=false):NI x=false:=by unfold NI;rw[h];simp
theorem mD{x:Wo}(h:RV x.ts=false):NI x=false:=by unfold NI;rw[h];simp
theorem Mk{x:Wo}(a:decide (1<=x.w/\x.w<=8)=true)(b:LE x.ss x.ws=true)(c:QU x=true)(d:QR x.P=true)(e:RV x.ts=true):NI x=true:=by unfold NI;rw[a,b,c,d,e];rfl
theorem Lo{x:Wo}(a:x.up=true):QU x=(OB x.W x.S x.L x.T x.H x.F x.R x.U x.O x.rs && decide (x.W=x.w/\x.S=(x.ss.length:Int))):=by unfold QU;rw[AE a]
theorem Is{x:Wo}(a:x.up=false):QU x=QZ x:=by unfold QU;rw[AG (by rw[a];simp)]
theorem yt(x:Wo)(q:Wp)(w:Nb)(h:x.at w q)(f:x.le 1048576):Calls prog 10 #[MB x q] w λe a=>e=M3 (M0 (NI x))/\Below w.heap.size w a:=by
 have cA:=f.l4;have cB:=f.l5;have b7:=f.l1;obtain⟨C,l⟩:∃d,decide (1<=x.w/\x.w<=8)=d:=⟨_,rfl⟩;obtain⟨D,A⟩:∃d,LE x.ss x.ws=d:=⟨_,rfl⟩;obtain⟨u,B⟩:∃d,decide ((1:Int)<=(x.P.length:Int)/\(x.P.length:Int)<=200)=d:=⟨_,rfl⟩;obtain⟨U,K⟩:∃d,OB x.W x.S x.L x.T x.H x.F x.R x.U x.O x.rs=d:=⟨_,rfl⟩;obtain⟨T,J⟩:∃d,QZ x=d:=⟨_,rfl⟩;obtain⟨F,j⟩:∃d,decide (x.ts.length<=2000)=d:=⟨_,rfl⟩;obtain⟨G,n⟩:∃d,QU x=d:=⟨_,rfl⟩;have d:=Z (RO x.w);have H:=Z (λa b c=>NG q.a x.ss q.c q.a' x.ws q.c' a b c f.l1 f.l2 f.s1 f.s2);have N:=Z (λa=>cr (x.P.length:Int) 1 200 u B a);have v:=Z (λa=>Eb x q a f.l3);have y:=Z (λa k=>km x.W x.S x.L x.T x.H x.F x.R x.U x.O q.s x.rs q.cs a k f.l3 f.s3);unfold NK at v y;rw[l]at d;rw[A]at H;rw[K]at y;rw[J]at v;obtain⟨E,g⟩:∃E,Hid (E=NI x):=⟨_,Z rfl⟩;rw[<-g.l];have I:=Z f;have m:=Z h;clear f h
 unfold MB;go_enter func10,ntmps10;go_upto_region 1 with fail;generalize a:w.alloc _=R;obtain⟨c,i,b⟩:=LY a;have r:Row R w.heap.size (wL x q):=b.q;clear a i b;generalize Value.agg _=A0;go_cut [27] from 5 to 26 (λL M=>L=M0 (!(C && D && u && F))/\Below R.heap.size R M)
 case first =>
  have o:=r.y 0;have b:=r.lt;go_wp2_with fail;refine(d.l _).z ?_;refine OJ ?_
  cases C with
  | false=>go_wp2_with fail;go_meet;exact⟨rfl,AB _ _⟩
  | true =>
  have p:=r.y 1;have t:=r.y 2;go_wp2_with fail;refine(H.l _ (m.l.h1.I c) (m.l.h2.I c)).z ?_;rintro e S ⟨rfl,a⟩;clear o p t b
  cases D with
  | false=>go_wp2_with fail;go_meet;exact⟨rfl,a⟩
  | true =>
  have i:=(r.I a).y 14;have b:=(r.I a).lt;go_wp2_with fail;refine(N.l _).z ?_;refine OJ ?_
  cases u with
  | false=>go_wp2_with fail;go_meet;exact⟨rfl,a⟩
  | true =>
  have z:=(r.I a).y 15
  cases F with
  | false =>
   have o:(2000:Int)<(x.ts.length:Int):=by have:=JE j;omega
   go_wp2_with fail;go_meet;exact⟨rfl,a⟩
  | true =>
   have o:¬(2000:Int)<(x.ts.length:Int):=by have:=AV j;omega
   go_wp2_with fail;go_meet;exact⟨by rw[AI (show ¬(2000:Int)<(x.ts.length:Int) by omega)];rfl,a⟩
 case rest =>
 obtain⟨rfl,a⟩:=hcut
 rename World=>S
 replace r:=r.I a;replace c:=c.j (a.z c.size);clear a d H N
 cases hall:(C && D && u && F) with
 | false =>
  obtain rfl:E=false:=by
   rw[g.l]
   cases C with
   | false=>exact Lt l
   | true =>
   cases D with
   | false=>exact Bh A
   | true =>
   cases u with
   | false=>exact vW (by unfold QR;rw[AI (λk=>JE B ⟨ω,ω⟩)];rfl)
   | true =>
   cases F with
   | false=>exact mD (by unfold RV;rw[j];rfl)
   | true=>cases hall
  go_wp2;go_ret;exact⟨rfl,c⟩
 | true =>
  simp only[AX]at hall;obtain⟨⟨⟨rfl,rfl⟩,rfl⟩,rfl⟩:=hall;have hP:1<=x.P.length/\x.P.length<=200:=by have:=AV B;omega
  have bW:=AV j;have X:=Z l;have bE:=Z A;clear l A B j;go_upto_region 3 with fail;go_cut [64] from 28 to 63 (λL M=>L=M0 (!G)/\Below S.heap.size S M)
  case first =>
   obtain⟨o,p,t,j,L,M,N,O,P,Q,c10,B,c12,H,i,z,b⟩:=c16 r
   cases hup:x.up with
   | false =>
    rw[hup]at j;have d:=Z (show G=T by rw[<-n,Is hup];exact J);clear hup;go_wp2_with fail;clear o p t j L M N O P Q c10 B c12 H i z b;refine(v.l _).z ?_;rintro e A ⟨rfl,a⟩
    cases T with
    | false=>go_wp2_with fail;go_meet;exact⟨by rw[d.l];rfl,a⟩
    | true=>go_wp2_with fail;go_meet;exact⟨by rw[d.l];rfl,a⟩
   | true =>
    rw[hup]at j;have d:=Z (show G=(U && decide (x.W=x.w/\x.S=(x.ss.length:Int))) by rw[<-n,Lo hup,K]);go_wp2_with fail;clear o p t j L M N O P Q c10 B c12 H i z b;refine(y.l _ (m.l.h3.I c)).z ?_;rintro e A ⟨rfl,a⟩;replace r:=r.I a;obtain⟨o,p,t,j,L,M,N,O,P,Q,c10,B,c12,H,i,z,b⟩:=c16 r;rw[hup]at j;clear hup
    cases U with
    | false=>go_wp2_with fail;go_meet;exact⟨by rw[d.l];rfl,a⟩
    | true =>
    by_cases W:x.W=x.w
    ·by_cases V:x.S=(x.ss.length:Int)
     ·have l:=Z (AH W V)
      go_wp2_with fail;go_meet;exact⟨by rw[d.l,AL l.l];rfl,a⟩
     have l:=Z V
     go_wp2_with fail;go_meet;exact⟨by rw[d.l,AI (λk=>l.l k.2)];rfl,a⟩
    have l:=Z W
    go_wp2_with fail;go_meet;exact⟨by rw[d.l,AI (λk=>l.l k.1)];rfl,a⟩
  case rest =>
  obtain⟨rfl,a⟩:=hcut
  rename World=>A
  replace r:=r.I a;replace c:=c.j (a.z c.size);clear a v y K J
  cases G with
  | false =>
   obtain rfl:E=false:=by rw[g.l];exact C0 n
   go_wp2;go_ret;exact⟨rfl,c⟩
  | true =>
   have K:=Z n;clear n;have i:=r.y 14;have b:=r.lt;go_wp2_with fail;clear i b;go_loopw [3] (λi wr=>∃k:Nat,k<=x.P.length/\i=.int .i64 (k:Int)/\Hid (∀j,j<k->MU (x.P.getD j [])=true)/\Hid (Below A.heap.size A wr)) (λi _=>x.P.length-(intOf i).toNat)
   case atStart=>exact⟨0,AM _,rfl,λj a=>absurd a ω,AB _ _⟩
   case round =>
    obtain⟨k,hk,rfl,H,t⟩:=hrel;have l:=c.j (t.l.z c.size);replace r:=r.I t.l;have O:=r.y 14;have ql:=r.lt
    by_cases B:k<x.P.length
    ·have M:(k:Int)<(x.P.length:Int):=ω
     obtain⟨b,o,p,N,J,P,L,y⟩:=(m.l.h4.I l).at B;obtain⟨d,v⟩:∃d,Hid (d=x.P.getD k []):=⟨_,Z rfl⟩;rw[<-v.l]at L y;have z:d∈x.P:=by rw[v.l];simp[List.getD,B]
     have n:=Z (nk p d N wr y.l (I.l.s4 d z).1 (I.l.s4 d z).2);clear z y r;rw[J]at O;clear J
     cases hst:MU d with
     | false =>
      obtain rfl:E=false:=by rw[g.l];exact vW (Dv k B (by rw[<-v.l];exact hst))
      rw[hst]at n;go_wp2_with (go_at_call 43;refine n.l.z ?_;rintro e J ⟨rfl,y⟩);go_ret;exact⟨rfl,l.j (y.z l.size)⟩
     | true =>
      rw[hst]at n;have z:=Z hst;clear hst;go_wp2_with (go_at_call 43;refine n.l.z ?_;rintro e J ⟨rfl,y⟩);go_roundw
      case rel =>
       refine⟨_,_,_,_,_,_,_,_,_,_,_,_,_,_,_,_,?_,rfl⟩
       exact⟨k+1,ω,ν,λj a=>by
        by_cases e:j=k
        ·subst e;rw[<-v.l];exact z.l
        exact H.l j ω,t.l.j (y.z t.l.size)⟩
      case measure=>simp[intOf];omega
    have M:¬(k:Int)<(x.P.length:Int):=ω
    have J:=Z (Hv hP (λj a=>H.l j ω));have P:=r.y 15;go_wp2;go_loopw [4] (λi b=>∃k:Nat,k<=x.ts.length/\i=.int .i64 (k:Int)/\Hid (∀j,j<k->(x.ts.getD j empty).size=64)/\b=wr) (λi _=>x.ts.length-(intOf i).toNat)
    case atStart=>exact⟨0,AM _,rfl,λj a=>absurd a ω,by first|rfl|trivial⟩
    case round =>
     obtain⟨d,Q,rfl,p,N⟩:=hrel;subst N
     by_cases n:d<x.ts.length
     ·have z:(d:Int)<(x.ts.length:Int):=ω
      obtain⟨b,o,s,L,W,i⟩:=(m.l.h5.I l).at n;rw[L]at P;have V:=I.l.s5 s (by rw[i.l];simp[List.getD,n])
      by_cases v:s.size=64
      ·have y:(s.size:Int)=64:=ω
       go_wp2;go_roundw
       case rel=>exact⟨d+1,ω,ν,λj a=>by
        by_cases e:j=d
        ·subst e;rw[<-i.l];exact v
        exact p.l j ω,by first|rfl|trivial⟩
       case measure=>simp[intOf];omega
      have y:¬(s.size:Int)=64:=ω
      obtain rfl:E=false:=by rw[g.l];exact mD (Ds d n (by rw[<-i.l];exact v))
      go_wp2;go_ret;exact⟨rfl,l⟩
     have z:¬(d:Int)<(x.ts.length:Int):=ω
     obtain rfl:E=true:=by rw[g.l];exact Mk X.l bE.l K.l J.l (Hf ω (λj a=>p.l j ω))
     go_wp2;go_ret;exact⟨rfl,l⟩
def RW(n:Int)(ts:List Y)(s:Y):Bool:=(MA s n).isSome && !(ts.any λt=>decide (s=t))
def UX(n:Int)(ts:List Y):List Y->Y
 | []=>empty
 | s::r=>if RW n ts s=true then s else UX n ts r
def TJ(x:Wo):Y:=if NI x=true then UX x.w x.ts x.ss else empty
theorem cn{n:Int}{r:List Y}(h:RW n ts s=false):UX n ts (s::r)=UX n ts r:=by rw[UX,AG (by rw[h];simp)]
theorem im{n:Int}{r:List Y}(h:RW n ts s=true):UX n ts (s::r)=s:=by rw[UX,AE h]
theorem vN(h:∀j,j<ts.length->¬s=ts.getD j empty):(ts.any λt=>decide (s=t))=false:=by
 refine List.any_eq_false.2 λt b=>?_
 obtain⟨k,a,rfl⟩:=EN b;have:=h k a;simpa[List.getD,a] using this
theorem nA(j:Nat)(a:j<ts.length)(h:s=ts.getD j empty):(ts.any λt=>decide (s=t))=true:=by
 refine List.any_eq_true.2 ⟨ts.getD j empty,by simp[List.getD,a],by simpa using h⟩
theorem nB{t:Y}(h:¬s=t):(s.toList == t.toList)=false:=by
 rw[EO];intro a;rw[DF,DF]at a;exact h (EP (Array.toList_inj.1 a))
theorem xS(a:M6)(ts:List Y)(c:Nat)(s:Y)(w:Nb)(h:Strs w a ts)(u:ts.length<=1048576):Calls prog 81 #[.slice a ts.length c,Mz s] w λe b=>(∃r:Int,e=M3 (.int .i64 r)/\(ts.any λt=>decide (s=t))=decide (0<=r))/\b=w:=by
 go_enter func81,ntmps81;go_wp2;go_loopw [5,8] (λ_ i wr=>∃k:Nat,k<=ts.length/\i=.int .i64 (k:Int)/\Hid (∀j,j<k->¬s=ts.getD j empty)/\wr=w) (λ_ i _=>ts.length-(intOf i).toNat)
 case atStart=>exact⟨0,AM _,rfl,λj g=>absurd g ω,by first|rfl|trivial⟩
 case round =>
  obtain⟨k,q,rfl,i,rfl⟩:=hrel
  by_cases m:k<ts.length
  ·have n:(k:Int)<(ts.length:Int):=ω
   obtain⟨b,o,t,rfl,p,l⟩:=h.at m
   by_cases f:s=t
   ·have d:=nA k m (f.j l.l)
    go_wp2;go_ret
    exact⟨⟨(k:Int),rfl,by first|(rw[d,AL ω])|omega|(simp[d];done)⟩,by first|rfl|trivial⟩
   have d:=nB f
   go_wp2;go_roundw
   case rel=>exact⟨k+1,ω,ν,λj g=>by
    by_cases e:j=k
    ·subst e;rw[<-l.l];exact f
    exact i.l j ω,by first|rfl|trivial⟩
   case measure=>simp[intOf];omega
  have n:¬(k:Int)<(ts.length:Int):=ω
  have d:=vN (ts:=ts) (s:=s) (λj g=>i.l j ω);go_wp2;go_ret
  exact⟨⟨-1,rfl,by first|(rw[d,AI ω])|omega|(simp[d];done)⟩,by first|rfl|trivial⟩
theorem yK(a:M6)(ts:List Y)(c:Nat)(s:Y)(w:Nb)(h:Strs w a ts)(f:ts.length<=1048576):Calls prog 44 #[.slice a ts.length c,Mz s] w λe b=>e=M3 (M0 (ts.any λt=>decide (s=t)))/\b=w:=by
 obtain⟨B,d⟩:∃B,Hid (B=(ts.any λt=>decide (s=t))):=⟨_,Z rfl⟩;have b:=Z (xS a ts c s w h f);rw[<-d.l]at b⊢;go_enter func44,ntmps44;go_wp2_with (go_at_call 81;refine b.l.z ?_;rintro e i ⟨⟨r,rfl,g⟩,rfl⟩);go_ret;exact⟨by rw[g];rfl,rfl⟩
theorem Fo(x:Wo)(q:Wp)(w:Nb)(h:x.at w q)(U:x.rs.length<=q.cs)(O:x.le 1048576)(X:TypeId)(v:Nc)(hv:w.cell? ⟨1,0,none⟩=some (.iface X v))(h0:w.cell? ⟨0,0,none⟩=some (.iface 200 (.agg #[Mv 3 91])))(hg:1<w.heap.size):Calls prog 11 #[MB x q] w λe a=>e=M3 (Mz (TJ x))/\Below w.heap.size w a:=by
 have j:=Z (λa k=>xy x q a k U O);have CR:=Z (λs p (b:Below w.heap.size w p)=>mt s x.w p X v ((b.cell (p:=⟨1,0,none⟩) hg).j hv) ((b.cell (p:=⟨0,0,none⟩) (by show 0<_;omega)).j h0) (by have:=b.size;omega));have Q:=Z (λs p k=>yK q.t x.ts q.ct s p k O.l5);have a:Below w.heap.size w w:=AB _ _
 cases hok:NI x with
 | false =>
  have e:TJ x=empty:=by unfold TJ;rw[AG (by rw[hok];simp)]
  rw[e];rw[hok]at j;unfold MB at j⊢;clear e;go_enter func11,ntmps11;go_wp2_with fail;obtain⟨f,c⟩:∃l,l=(w.alloc (.cells (wA x q) 36)):=⟨_,rfl⟩;have bZ:f.heap.size=w.heap.size+1:=by rw[c];simp
  have b:Below w.heap.size w f:=by rw[c];exact(AB _ _).alloc (by exact AA _) _
  have g:Row f (w.heap.size) (wL x q):=by rw[c];exact(jv w (wA x q) 36 (w.heap.size) σ)
  have d:Dep f (w.heap.size) (w.heap.size+1) (λW=>Row W (w.heap.size) (wL x q)):=OU g (AA _) ω ω;clear g;rw[<-c];clear c;have c:=a.j (b.z a.size);clear a;have a:=c;clear c;clear b;refine(j.l _ (h.I a)).z ?_;rintro e u ⟨rfl,b⟩;have bY:f.heap.size<=u.heap.size:=b.size;have c:=d.I b;clear d;have d:=c;clear c;have c:=a.j (b.z a.size);clear a;have a:=c;clear c;clear b;go_wp2;go_ret;exact⟨rfl,a⟩
 | true =>
  have cE:0<x.ss.length:=by
   have c:LE x.ss x.ws=true:=by
    unfold NI at hok;simp only[AX]at hok;exact hok.2.1
   have:=(LK c).1;omega
  obtain⟨n,i⟩:∃n,Hid (n=TJ x):=⟨_,Z rfl⟩;have HF:Hid (UX x.w x.ts x.ss=n):=by show _=_;rw[i.l];unfold TJ;rw[AE hok]
  rw[<-i.l];rw[hok]at j;have cJ:=O.l1;obtain⟨qa,H,A,C,J,E,I,D,K,F⟩:=q;obtain⟨b0,G,cL,S,_,_⟩:=h.h1.at cE;simp only at S;subst S;unfold MB at j⊢;simp only at j Q U⊢;go_enter func11,ntmps11;go_wp2_with fail;obtain⟨f,c⟩:∃l,l=(w.alloc (.cells #[.int .i64 x.w,.slice (Mw b0 G) x.ss.length H,.slice A x.ws.length C,M0 x.up,.int .i64 x.W,.int .i64 x.S,.int .i64 x.L,.int .i64 x.T,.int .i64 x.H,.int .i64 x.F,.int .i64 x.R,.int .i64 x.U,.int .i64 x.O,.slice J x.rs.length E,.slice I x.P.length D,.slice K x.ts.length F] 36)):=⟨_,rfl⟩;have bZ:f.heap.size=w.heap.size+1:=by rw[c];simp
  have b:Below w.heap.size w f:=by rw[c];exact(AB _ _).alloc (by exact AA _) _
  have g:Row f (w.heap.size) [.int .i64 x.w,.slice (Mw b0 G) x.ss.length H,.slice A x.ws.length C,M0 x.up,.int .i64 x.W,.int .i64 x.S,.int .i64 x.L,.int .i64 x.T,.int .i64 x.H,.int .i64 x.F,.int .i64 x.R,.int .i64 x.U,.int .i64 x.O,.slice J x.rs.length E,.slice I x.P.length D,.slice K x.ts.length F]:=by rw[c];exact(jv w #[.int .i64 x.w,.slice (Mw b0 G) x.ss.length H,.slice A x.ws.length C,M0 x.up,.int .i64 x.W,.int .i64 x.S,.int .i64 x.L,.int .i64 x.T,.int .i64 x.H,.int .i64 x.F,.int .i64 x.R,.int .i64 x.U,.int .i64 x.O,.slice J x.rs.length E,.slice I x.P.length D,.slice K x.ts.length F] 36 (w.heap.size) σ)
  have d:Dep f (w.heap.size) (w.heap.size+1) (λW=>Row W (w.heap.size) [.int .i64 x.w,.slice (Mw b0 G) x.ss.length H,.slice A x.ws.length C,M0 x.up,.int .i64 x.W,.int .i64 x.S,.int .i64 x.L,.int .i64 x.T,.int .i64 x.H,.int .i64 x.F,.int .i64 x.R,.int .i64 x.U,.int .i64 x.O,.slice J x.rs.length E,.slice I x.P.length D,.slice K x.ts.length F]):=OU g (AA _) ω ω;clear g;rw[<-c];clear c;have c:=a.j (b.z a.size);clear a;have a:=c;clear c;clear b;refine(j.l _ (h.I a)).z ?_;rintro e u ⟨rfl,b⟩;have bY:f.heap.size<=u.heap.size:=b.size;have c:=d.I b;clear d;have d:=c;clear c;have c:=a.j (b.z a.size);clear a;have a:=c;clear c;clear b;obtain⟨r,t,y,z,B,L,M,N,P,R,b,c,g,l,m,o⟩:=d.q.k16;have T:=d.q.lt;go_wp2;clear r t y z B L M N P R b c g l m o T;have m:=Z d;have R:=Z a
  clear d a i;go_loopw [4,5,6,14] (λ_ _ _ i wr=>∃k:Nat,k<=x.ss.length/\i=.int .i64 (k:Int)/\Hid (UX x.w x.ts (x.ss.drop k)=n)/\Hid (Below u.heap.size u wr)) (λ_ _ _ i _=>x.ss.length-(intOf i).toNat)
  case atStart=>exact⟨0,AM _,rfl,by show _=_;rw[FD];exact HF.l,AB _ _⟩
  case round =>
   obtain⟨k,hk,rfl,y,a⟩:=hrel;have z:=R.l.j (a.l.z R.l.size)
   by_cases T:k<x.ss.length
   ·have cB:(k:Int)<(x.ss.length:Int):=ω
    obtain⟨b,o,s,V,cH,W⟩:=(h.h1.I z).at T;simp only at V
    cases V
    have L:Hid (x.ss.drop k=s::x.ss.drop (k+1)):=by show _=_;rw[YI x.ss k empty T,<-W.l]
    have q0:=(m.l.I a.l).q.y 0;have cI:=(m.l.I a.l).q.lt;have g:=Z z;clear z;have i:=Z (CR.l s wr g.l)
    cases hR:MA s x.w with
    | none =>
     have r:RW x.w x.ts s=false:=by unfold RW;rw[hR];rfl
     rw[hR]at i;unfold TP OE at i;go_wp2_with (go_at_call 13;refine i.l.z ?_;rintro e l ⟨rfl,d⟩;have c:=Z d;clear d);go_roundw
     case rel=>exact⟨k+1,ω,ν,by show _=_;rw[<-y.l,L.l,cn r],a.l.j ((c.l.z a.l.size).j ((LD l _).z (AK a.l.size c.l.size)))⟩
     case measure=>simp[intOf];omega
    | some pg =>
     rw[hR]at i;obtain⟨pk,pl,pm,pp⟩:=pg;unfold TP OE at i;simp only at i;obtain⟨B,N⟩:∃B,(x.ts.any λt=>decide (s=t))=B:=⟨_,rfl⟩;have M:=Z (λp k=>Q.l s p k);rw[N]at M
     cases B with
     | true =>
      have r:RW x.w x.ts s=false:=by unfold RW;rw[hR,N];rfl
      go_wp2_with (first|(go_at_call 13;refine i.l.z ?_;rintro e l ⟨rfl,d⟩;have cF:=((m.l.I a.l).I d).q.y 15;have cC:=((m.l.I a.l).I d).q.lt;have c:=Z d;clear d)|(go_at_call 44;refine(M.l _ (h.h5.I (g.l.j ((c.l.z g.l.size).j ((LD l _).z (AK g.l.size c.l.size)))))).z ?_;rintro e P ⟨rfl,p⟩;rw[p];clear p P))
      go_roundw
      case rel=>exact⟨k+1,ω,ν,by show _=_;rw[<-y.l,L.l,cn r],a.l.j ((c.l.z a.l.size).j ((LD l _).z (AK a.l.size c.l.size)))⟩
      case measure=>simp[intOf];omega
     | false =>
      have r:RW x.w x.ts s=true:=by unfold RW;rw[hR,N];rfl
      have t:n=s:=by rw[<-y.l,L.l,im r]
      go_wp2_with (first|(go_at_call 13;refine i.l.z ?_;rintro e l ⟨rfl,d⟩;have cF:=((m.l.I a.l).I d).q.y 15;have cC:=((m.l.I a.l).I d).q.lt;have c:=Z d;clear d)|(go_at_call 44;refine(M.l _ (h.h5.I (g.l.j ((c.l.z g.l.size).j ((LD l _).z (AK g.l.size c.l.size)))))).z ?_;rintro e P ⟨rfl,p⟩;rw[p];clear p P))
      go_ret
      exact⟨by first|rfl|(rw[t];rfl),g.l.j ((c.l.z g.l.size).j ((LD l _).z (AK g.l.size c.l.size)))⟩
   have cB:¬(k:Int)<(x.ss.length:Int):=ω
   have t:n=empty:=by rw[<-y.l,ED ω];rfl
   go_wp2;go_ret
   exact⟨by first|rfl|(rw[t];rfl),z⟩
theorem Lf(x:Wo)(q:Wp)(w:Nb)(h:x.at w q)(E:x.le 1048576):Calls prog 12 #[MB x q] w λe a=>e=M3 (Mz (TJ x))/\Below w.heap.size w a:=by
 have u:=Z (λa k=>yt x q a k E);have CR:=Z (λs wx (hs:s.size<=1048576)=>ma s x.w wx hs);have a:Below w.heap.size w w:=AB _ _;have cZ:=E.l1;have dL:=E.l5;unfold MB at u⊢
 cases hok:NI x with
 | false =>
  have e:TJ x=empty:=by unfold TJ;rw[AG (by rw[hok];simp)]
  rw[e];rw[hok]at u;clear e;go_enter func12,ntmps12;go_wp2_with fail;obtain⟨f,c⟩:∃j,j=(w.alloc (.cells (wA x q) 36)):=⟨_,rfl⟩;have bY:f.heap.size=w.heap.size+1:=by rw[c];simp
  have b:Below w.heap.size w f:=by rw[c];exact(AB _ _).alloc (by exact AA _) _
  have g:Row f (w.heap.size) (wL x q):=by rw[c];exact(jv w (wA x q) 36 (w.heap.size) σ)
  have d:Dep f (w.heap.size) (w.heap.size+1) (λW=>Row W (w.heap.size) (wL x q)):=OU g (AA _) ω ω;clear g;rw[<-c];clear c;have c:=a.j (b.z a.size);clear a;have a:=c;clear c;clear b;refine(u.l _ (h.I a)).z ?_;rintro e v ⟨rfl,b⟩;have bW:f.heap.size<=v.heap.size:=b.size;have c:=d.I b;clear d;have d:=c;clear c;have c:=a.j (b.z a.size);clear a;have a:=c;clear c;clear b;go_wp2;go_ret;exact⟨rfl,a⟩
 | true =>
  obtain⟨r,i⟩:∃r,Hid (r=TJ x):=⟨_,Z rfl⟩;have HF:Hid (UX x.w x.ts x.ss=r):=by show _=_;rw[i.l];unfold TJ;rw[AE hok]
  rw[<-i.l];rw[hok]at u;go_enter func12,ntmps12;go_wp2_with fail;obtain⟨f,c⟩:∃j,j=(w.alloc (.cells (wA x q) 36)):=⟨_,rfl⟩;have bY:f.heap.size=w.heap.size+1:=by rw[c];simp
  have b:Below w.heap.size w f:=by rw[c];exact(AB _ _).alloc (by exact AA _) _
  have g:Row f (w.heap.size) (wL x q):=by rw[c];exact(jv w (wA x q) 36 (w.heap.size) σ)
  have d:Dep f (w.heap.size) (w.heap.size+1) (λW=>Row W (w.heap.size) (wL x q)):=OU g (AA _) ω ω;clear g;rw[<-c];clear c;have c:=a.j (b.z a.size);clear a;have a:=c;clear c;clear b;refine(u.l _ (h.I a)).z ?_;rintro e v ⟨rfl,b⟩;have bW:f.heap.size<=v.heap.size:=b.size;have c:=d.I b;clear d;have d:=c;clear c;have c:=a.j (b.z a.size);clear a;have a:=c;clear c;clear b;obtain⟨o,p,t,y,z,A,B,C,D,F,b,c,g,l,m,n⟩:=d.q.k16;have G:=d.q.lt;go_wp2;clear o p t y z A B C D F b c g l m n G;have g:=Z d;have O:=Z a;clear d a i;go_loopw [3,4,5,6,7] (λi _ _ _ _ wr=>∃k:Nat,k<=x.ss.length/\i=.int .i64 (k:Int)/\Hid (UX x.w x.ts (x.ss.drop k)=r)/\Hid (Below v.heap.size v wr)) (λi _ _ _ _ _=>x.ss.length-(intOf i).toNat)
  case atStart=>exact⟨0,AM _,rfl,by show _=_;rw[FD];exact HF.l,AB _ _⟩
  case round =>
   obtain⟨k,hk,rfl,z,a⟩:=hrel;have D:=O.l.j (a.l.z O.l.size);have N:=(g.l.I a.l).q.y 1;have cW:=(g.l.I a.l).q.lt
   by_cases H:k<x.ss.length
   ·have cP:(k:Int)<(x.ss.length:Int):=ω
    obtain⟨b,o,s,c,n,Q⟩:=(h.h1.I D).at H;rw[c]at N;clear c;have cQ:=E.s1 s (by rw[Q.l];simp[List.getD,H]);have F:Hid (x.ss.drop k=s::x.ss.drop (k+1)):=by show _=_;rw[YI x.ss k empty H,<-Q.l]
    have t:=(g.l.I a.l).q.y 0;have S:=Z D;clear D;have A:=Z (CR.l s wr cQ);obtain⟨R,I⟩:∃R,MA s x.w=R:=⟨_,rfl⟩;rw[I]at A
    obtain⟨J,K,L,M,B,hV,G⟩:∃J K L M B,TP R=.tuple #[OE J K L M,M0 B]/\B=R.isSome:=by
     cases R with
     | none=>exact⟨_,_,_,_,_,rfl,rfl⟩
     | some y=>obtain⟨k,l,m,p⟩:=y;exact⟨_,_,_,_,_,rfl,rfl⟩
    rw[hV]at A;unfold OE at A;go_wp2_with (go_at_call 45;refine A.l.z ?_;rintro e W ⟨rfl,c⟩;have l:=Z c;clear c);obtain⟨X,c⟩:∃j,j=W.alloc (.cells #[.int .i64 J,.int .i64 K,.int .i64 L,Mz M] 51):=⟨_,rfl⟩;rw[<-c];have d:Hid (Below wr.heap.size wr X):=by rw[c];exact l.l.j ((LD W _).z l.l.size)
    clear c l t N n;have cT:=((g.l.I a.l).I d.l).q.y 15;have N:=((g.l.I a.l).I d.l).q.y 1;have dH:=((g.l.I a.l).I d.l).q.lt;have y:=S.l.j (d.l.z S.l.size);go_loopw [6,7] (λc j l=>∃(n:Nat) (C:Bool),n<=x.ts.length/\j=.int .i64 (n:Int)/\c=M0 C/\Hid ((C=true/\R.isSome=true/\∀i,i<n->¬s=x.ts.getD i empty)\/(C=false/\RW x.w x.ts s=false))/\Hid (l=X)) (λ_ j _=>x.ts.length-(intOf j).toNat)
    case atStart =>
     refine⟨0,B,AM _,rfl,by first|rfl|(rw[G]),?_,by first|rfl|trivial⟩
     cases B with
     | true=>exact .inl ⟨rfl,G.symm,λi V=>absurd V ω⟩
     | false=>exact .inr ⟨rfl,by unfold RW;rw[I,<-G];rfl⟩
    case round =>
     obtain⟨n,C,hn,rfl,rfl,m,cJ⟩:=hrel;have cS:=cJ.l;subst cS
     by_cases l:n<x.ts.length/\C=true
     ·obtain⟨T,rfl⟩:=l
      have U:(n:Int)<(x.ts.length:Int):=ω
      obtain⟨bt,ot,t,c,cV,p⟩:=(h.h5.I y).at T;rw[c]at cT;clear c;rcases m.l with ⟨_,cM,cN⟩|⟨cL,_⟩
      rotate_left
      ·cases cL
      by_cases c:t=s
      ·have P:RW x.w x.ts s=false:=by unfold RW;rw[nA n T (by rw[<-p.l];exact c.symm)];simp
       have cI:=Z P;clear P;go_wp2;go_roundw
       case rel=>exact⟨n+1,false,ω,ν,by first|rfl|simp[c],.inr ⟨rfl,cI.l⟩,by first|rfl|trivial⟩
       case measure=>simp[intOf];omega
      have cU:=nB c
      have P:Hid (∀i,i<n+1->¬s=x.ts.getD i empty):=λi V=>by
       by_cases e:i=n
       ·subst e;rw[<-p.l];exactλe=>c e.symm
       exact cN i ω
      go_wp2;go_roundw
      case rel=>exact⟨n+1,true,ω,ν,by first|rfl|simp[c],.inl ⟨rfl,cM,P.l⟩,by first|rfl|trivial⟩
      case measure=>simp[intOf];omega
     have p:Hid (RW x.w x.ts s=C):=by
      rcases m.l with ⟨rfl,c,t⟩|⟨rfl,c⟩
      ·have P:¬n<x.ts.length:=λi=>l ⟨i,rfl⟩
       show _=_;unfold RW;rw[I,c,vN (λj i=>t j ω)];rfl
      exact c
     clear m
     have j:∀(P:Prop),(¬n<x.ts.length->P)->(n<x.ts.length->C=false->P)->P:=λP i m=>by
      by_cases c:n<x.ts.length
      ·cases C with
       | true=>exact absurd ⟨c,rfl⟩ l
       | false=>exact m c rfl
      exact i c
     refine j _ (λc=>?_) (λc t=>?_)
     ·have U:¬(n:Int)<(x.ts.length:Int):=ω
      clear l j
      cases C with
      | true =>
       have i:r=s:=by rw[<-z.l,F.l,im p.l]
       go_wp2;go_ret
       exact⟨by first|rfl|(rw[i];rfl),y⟩
      | false =>
       go_wp2;go_roundw
       case rel=>exact⟨k+1,ω,ν,by show _=_;rw[<-z.l,F.l,cn p.l],a.l.j (d.l.z a.l.size)⟩
       case measure=>simp[intOf];omega
     have U:(n:Int)<(x.ts.length:Int):=ω
     subst t;clear l j;go_wp2;go_roundw
     case rel=>exact⟨k+1,ω,ν,by show _=_;rw[<-z.l,F.l,cn p.l],a.l.j (d.l.z a.l.size)⟩
     case measure=>simp[intOf];omega
   have cP:¬(k:Int)<(x.ss.length:Int):=ω
   have i:r=empty:=by rw[<-z.l,ED ω];rfl
   go_wp2;go_ret
   exact⟨by first|rfl|(rw[i];rfl),D⟩
