import Derived.Test.YteflhojcomcfaaaGreatDoorPrFbI
import Derived.Test.YteflhojcomcfaaaGreatDoorPrFbS
import Derived.Test.YteflhojcomcfaaaGreatDoorPrG37
set_option maxHeartbeats 16000000
set_option maxRecDepth 8000
set_option linter.all false
namespace Go.Proofs.YteflhojcomcfaaaGreatDoor
open Tryz
open Go.RowKit
theorem vN{T e:TypeId}{B b:Nat}{bs:List Ra}{w c:Q9}(h:Lib.IsBuilder T e B b bs w)(f:Q3 w c):Lib.IsBuilder T e B b bs c:=by
 have d:∀p,Lib.BuilderAt T e B b p bs w->Lib.BuilderAt T e B b p bs c:=λp g=>by
  obtain⟨i,v,a,j,k⟩:=g
  have g:b<w.heap.size:=by
   rcases FV b w.heap.size with h|h
   .exact h
   rw[EF h]at a;cases a
  exact⟨i,v,by rw[f.block b g];exact a,MK j f,k⟩
 rcases h with h|h
 .exact .inl (d _ h)
 exact .inr (d _ h)
theorem Ql(f s:Q4):Lib.byteCells f.data.toList++Lib.strCells s=Lib.byteCells (f++s).data.toList:=by
 rw[Lib.strCells_eq,<-Lib.byteCells_append]
 congr 1
theorem Nx(k:Q4)(w:Q9)(m:k.size<=255):Calls prog 343 #[.agg #[Ow k]] w λe a=>e=Q2 (Ow (strOfNums [1]++(strOfNums [(k.size:Int)]++k)))/\Q3 w a:=by
 have g:∀o,Q3 w (w.alloc o):=λo=>LH _ _
 have i:∀o a,Q3 w ((w.alloc o).alloc a):=λo a=>(g o).alloc j _
 have o:∀(x:Q9) (b:Nat),x.cell? (Ki b 0)=some (.int .u8 1)->(convert 22 9 (Y (Hw b 0) 1 1)).run prog x=.ok (Ow (strOfNums [1])) x:=λx b h=>yO x b 1 h
 have r:¬9223372036854775807<1+(1+k.size):=d
 have t:(strOfNums [1]).size=1:=by rw[CY];rfl
 have u:(strOfNums [(k.size:Int)]++k).size=1+k.size:=by rw[AP,CY];rfl
 go_enter func343,ntmps343;go_wp2_with fail;go_region_law (refine LM f 345 #[Ow k] l (nN k _ m) ?_;rintro e n ⟨rfl,a⟩;refine⟨_,z,?_⟩;have h:=a.size;simp only[BG,JD]at h;have p:w.heap.size<n.heap.size:=d;have q:=Nat.lt_of_succ_le h;obtain⟨s,_⟩:=pI a;have c:=LE a;clear a)
 all_goals
  go_wp2;go_ret;refine⟨z,?_⟩
  first
   | exact bs (i _ _).drew c.j
   | exact(bs (g _).drew c.j).alloc (bs (g _).drew c.j).size _
theorem Mx(j:Nat)(v a:Ra)(w:Q9):Sem.run prog (method (j+1) 343 (.agg #[v,a]) "loop.example/kilnstone/impl.form") w=.ok (347,.agg #[v,a]) w:=h
theorem Im(j:Nat)(v:Ra)(w:Q9):Sem.run prog (method (j+1) 341 (.agg #[v]) "loop.example/kilnstone/impl.form") w=.ok (343,.agg #[v]) w:=h
theorem nT(a:Q5)(g:List (Q4×Q4×Bool))(c:Nat)(w:Q9)(h:Chs w a g)(V:g.length<=1048576)(X:∀f∈g,f.1.size<=1048576/\f.2.1.size<=1048576):Calls prog 191 #[Y a g.length c] w λe b=>e=Q2 (Ow (MN g))/\Q3 w b:=by
 unfold MN
 cases hok:PZ g
 focus
  simp only[FD,JA]
 rotate_left
 focus
  simp only[IV];obtain⟨hn,b⟩:=dr hok;have I:=LE b;clear b;obtain⟨F,G⟩:=nHz (VJ g);rw[<-G.j]
 rotate_left
 all_goals
  go_enter func191,ntmps191;go_wp2_with (go_at_call 189;refine(ke a g c _ h V X).J ?_;rw[hok];rintro e E ⟨rfl,q⟩)
 .go_ret
  exact⟨z,q⟩
 go_loopw [5,11] (λ_ i wr=>∃k:Nat,k<=g.length/\i=Z k/\Lib.IsBuilder 56 5 E.heap.size E.heap.size (Lib.byteCells (VJ (g.take k)).data.toList) wr/\Q3 E wr) (λ_ i _=>g.length-(intOf i).toNat)
 case atStart =>
  exact⟨0,AL,z,by rw[FZ];exact Lib.fresh_isBuilder _ _ _,LH _ _⟩
 case round =>
  obtain⟨k,hk,rfl,u,n⟩:=hrel
  by_cases y:k<g.length
  .obtain⟨b,o,i,m,B,rfl,bB,bC,bE,H⟩:=(h.I (q.E (n.J q.size))).at y
   have W:Hid ((i,m,B)∈g):=by show _∈_;rw[H.j];simp[List.getD,y]
   have l:=I.j _ W.j;have M:i.size<=255:=by simp[QK,QP,PA]at l;omega
   have U:m.size<=255:=by simp[QK,QP,PA]at l;omega
   have Q:=LE (qU _ l);have P:=LE (ym (g.take k) (λf p=>I.j f (DR p)));have R:=LE (I6 g k _ _ y H.j)
   have J:(Lib.byteCells (VJ (g.take k)).data.toList).length+(strOfNums (OM (i,m,B))).size<=140737488355328:=by
    rw[Lib.byteCells_length];have p:(VJ (g.take k)).data.toList.length=(VJ (g.take k)).size:=z;have f:=P.j;have r:=Q.j;rw[AZ]at f;omega
   have aW:(k:Int)<(g.length:Int):=d
   have A:=n.size;have O:=LE n;have p:=LE u;clear u n l
   cases B
   focus
    have S:=λf w=>Mx f (Ow i) (Ow m) w
    go_wp2_with (first|(go_at_call 250;refine(ye i m _).J ?_;rintro e j ⟨rfl,r⟩)|(go_at_call 347;refine(Lp i m _ M U).J ?_;rw[Gx];rintro e x ⟨rfl,s⟩;have l:=bs (bs ((@D wr.heap.size wr).alloc C _) r) s;have K:=LE l;have v:=LE (vN p.j l);have T:=l.size;clear r s l)|(go_at_call 15;refine(qS _ _ _ _ _ v.j J d).J ?_;rintro e N ⟨rfl,t,L⟩))
   rotate_left
   focus
    have S:=λf w=>Im f (Ow i) w
    go_wp2_with (first|(go_at_call 250;refine(zy i m _).J ?_;rintro e j ⟨rfl,r⟩)|(go_at_call 343;refine(Nx i _ M).J ?_;rw[Ji i m];rintro e x ⟨rfl,s⟩;have l:=bs (bs ((@D wr.heap.size wr).alloc C _) r) s;have K:=LE l;have v:=LE (vN p.j l);have T:=l.size;clear r s l)|(go_at_call 15;refine(qS _ _ _ _ _ v.j J d).J ?_;rintro e N ⟨rfl,t,L⟩))
   rotate_left
   all_goals
    refine⟨⟨k+1,d,ν,?_,O.j.E ((K.j.J A).E L)⟩,by simp[intOf];omega⟩;rw[R.j,<-Ql];exact .inr t
  have b:k=g.length:=d
  subst b;have A:=n.size;have p:=LE u;clear u;rw[DG,<-G.j]at p;go_wp2_with (go_at_call 18;refine(Hc _ _ _ _ p.j A).J ?_;rintro e N ⟨rfl,t⟩);go_ret;refine⟨?_,q.E ((n.E t).J q.size)⟩;have e:(⟨F.data.toList.toArray⟩:Q4)=F:=σ
  first|rw[<-e];rfl|(simp;rfl)
def MY(a:List (List Ch))(n:Int):Int:=(a.map λb=>QB (MN b).size n).sum
theorem mG(l:Nat)(n:Int):0<=QB l n/\QB l n<=(l:Int)+1:=by
 unfold QB RK
 split
 .split
  .omega
  have h:=KX (l-1) (56-n).toNat
  obtain⟨q,a⟩:=u ((l-1) / (56-n).toNat);rw[<-a]at h⊢;omega
 omega
theorem iw(b:List Ch):(MN b).size<=2460:=by
 unfold MN
 split
 .rename_i h
  obtain⟨c,a⟩:=dr h;have:=ym b a;omega
 simp
theorem Hd(n:Int):MY [] n=0:=rfl
theorem zd(a:List (List Ch))(b:List Ch)(n:Int):MY (a++[b]) n=MY a n+QB (MN b).size n:=by simp[MY]
theorem jt(a:List (List Ch))(n:Int):0<=MY a n/\MY a n<=2461*(a.length:Int):=by
 induction a with
 | nil=>exact⟨Int.le_refl _,by simp[MY]⟩
 | cons b r f =>
  have e:MY (b::r) n=QB (MN b).size n+MY r n:=by simp[MY]
  have c:=mG (MN b).size n;have d:=iw b;rw[e,BN];omega
theorem ib{α:Type}(l:List α)(k:Nat)(d:α)(h:k<l.length):l.take (k+1)=l.take k++[l.getD k d]:=by
 rw[BJ h];simp[List.getD,h]
theorem xf(a:Q5)(l:List Pr)(c:Nat)(n:Int)(w:Q9)(h:Prs w a l)(S:l.length<=1048576)(J:∀x∈l,x.1.size<=1048576/\x.2.size<=1048576):Calls prog 164 #[.agg #[Y a l.length c],Z n] w λe b=>e=Q2 (Z (MY (NC l) n))/\Q3 w b:=by
 have b:Q3 w (w.alloc (.cells #[Y a l.length c] 42)):=LH _ _;have hv:=wO a l c (w.alloc (.cells #[Y a l.length c] 42)) (h.I b) S J;have g:=LE hv;have k:=LE b;clear hv b;obtain⟨f,i⟩:=u (NC l);have N:=gi l
 have M:Hid (∀b∈f,b.length<=1048576/\∀x∈b,x.1.size<=1048576/\x.2.1.size<=1048576):=by
  intro b m;rw[i]at m;obtain⟨q,o⟩:=tg m;exact⟨d,λx p=>J _ (o x p)⟩
 rw[<-i]at g N⊢;clear i;go_enter func164,ntmps164;go_wp2_with (go_at_call 234;refine g.j.J ?_;rintro e T ⟨v,rfl,i,m⟩);obtain⟨va,vc,rfl,o⟩:=i.bts;have K:=LE o;have E:=LE (k.j.E (m.J k.j.size));clear i m o g k;go_loopw [5,7] (λy i wr=>∃k:Nat,k<=f.length/\i=Z (k:Int)/\y=Z (MY (f.take k) n)/\Q3 T wr) (λ_ i _=>f.length-(intOf i).toNat)
 case atStart=>exact⟨0,AL,z,z,AB⟩
 case round =>
  obtain⟨k,hk,rfl,rfl,o⟩:=hrel
  by_cases y:k<f.length
  .obtain⟨g,p,O,rfl,D,R,x⟩:=(K.j.I o).at y
   have U:(k:Int)<(f.length:Int):=d
   have X:(0:Int)<=(k:Int):=d
   have s:=M.j (f.getD k []) (by simp[List.getD,y]);have i:=LE (zd (f.take k) (f.getD k []) n);rw[<-ib f k [] y]at i;have P:=jt (f.take k) n;have V:(f.take k).length<=5:=by rw[AZ];omega
   have A:=mG (MN (f.getD k [])).size n;have G:=iw (f.getD k []);obtain⟨b,m⟩:=u (f.getD k []);rw[<-m]at R x s i A G;obtain⟨r,I⟩:=u (MY (f.take k) n);rw[<-I]at i P⊢;have B:=LE (λW (Q:Chs W p b)=>jz p b O W Q s.1 s.2);have t:=LE (λW=>Cf (MN b) n W d);have L:=LE x;have C:=LE o;obtain⟨q,H⟩:=u (QB (MN b).size n);rw[<-H]at t A i;obtain⟨j,F⟩:=u (MN b);rw[<-F]at B t A G;have W:IntKind.i64.wrap (r+q)=r+q:=by simp[IntKind.wrap,IntKind.bits,IntKind.signed];omega
   clear m I H F s x o
   go_wp2_with (first|(go_at_call 176;refine(B.j _ L.j).J ?_;rintro e x ⟨rfl,m⟩)|(go_at_call 235;refine(t.j _).J ?_;rintro e F ⟨rfl,s⟩))
   refine⟨⟨k+1,d,ν,?_,?_⟩,by simp[intOf];omega⟩
   .rw[i.j]
   exact C.j.E ((m.E (s.J m.size)).J C.j.size)
  have g:k=f.length:=d
  subst g;go_wp2;go_ret;exact⟨σ,E.j.E (o.J E.j.size)⟩
theorem Gr(a:Q5)(l:List Pr)(c:Nat)(n:Int)(w:Q9)(h:Prs w a l)(O:l.length<=c)(T:l.length<=1048576)(J:∀x∈l,x.1.size<=1048576/\x.2.size<=1048576):Calls prog 212 #[.agg #[Y a l.length c],Z n] w λe b=>e=Q2 (Z (MY (NC l) n))/\Q3 w b:=by
 have b:Q3 w (w.alloc (.cells #[Y a l.length c] 42)):=LH _ _;have hv:=wE a l c (w.alloc (.cells #[Y a l.length c] 42)) (h.I b) O T J;have g:=LE hv;have k:=LE b;clear hv b;obtain⟨f,i⟩:=u (NC l);have N:=gi l
 have M:Hid (∀b∈f,b.length<=1048576/\∀x∈b,x.1.size<=1048576/\x.2.1.size<=1048576):=by
  intro b m;rw[i]at m;obtain⟨q,o⟩:=tg m;exact⟨d,λx p=>J _ (o x p)⟩
 rw[<-i]at g N⊢;clear i;go_enter func212,ntmps212;go_wp2_with (go_at_call 215;refine g.j.J ?_;rintro e U ⟨v,rfl,i,m⟩;obtain⟨va,vc,rfl,o⟩:=i.bts);have K:=LE o;have E:=LE (k.j.E (m.J k.j.size));clear i m o g k;go_loopw [5,11] (λy i wr=>∃k:Nat,k<=f.length/\i=Z (k:Int)/\y=Z (MY (f.take k) n)/\Q3 U wr) (λ_ i _=>f.length-(intOf i).toNat)
 case atStart=>exact⟨0,AL,z,z,AB⟩
 case round =>
  obtain⟨k,hk,rfl,rfl,o⟩:=hrel
  by_cases y:k<f.length
  .obtain⟨g,p,P,rfl,hg,S,x⟩:=(K.j.I o).at y
   have V:(k:Int)<(f.length:Int):=d
   have j:(0:Int)<=(k:Int):=d
   have s:=M.j (f.getD k []) (by simp[List.getD,y]);have i:=LE (zd (f.take k) (f.getD k []) n);rw[<-ib f k [] y]at i;have Q:=jt (f.take k) n;have X:(f.take k).length<=5:=by rw[AZ];omega
   have A:=mG (MN (f.getD k [])).size n;have G:=iw (f.getD k []);obtain⟨b,m⟩:=u (f.getD k []);rw[<-m]at S x s i A G;obtain⟨r,I⟩:=u (MY (f.take k) n);rw[<-I]at i Q⊢;have B:=LE (λW (R:Chs W p b)=>nT p b P W R s.1 s.2);have t:=LE (λW=>nJ (MN b) n W d);have L:=LE x;have C:=LE o;obtain⟨q,H⟩:=u (QB (MN b).size n);rw[<-H]at t A i;obtain⟨D,F⟩:=u (MN b);rw[<-F]at B t A G;have W:IntKind.i64.wrap (r+q)=r+q:=by simp[IntKind.wrap,IntKind.bits,IntKind.signed];omega
   clear m I H F s x o
   go_wp2_with (first|(go_at_call 191;refine(B.j _ L.j).J ?_;rintro e x ⟨rfl,m⟩)|(go_at_call 192;refine(t.j _).J ?_;rintro e F ⟨rfl,s⟩))
   refine⟨⟨k+1,d,ν,?_,?_⟩,by simp[intOf];omega⟩
   .rw[i.j]
   exact C.j.E ((m.E (s.J m.size)).J C.j.size)
  have g:k=f.length:=d
  subst g;go_wp2;go_ret;exact⟨σ,E.j.E (o.J E.j.size)⟩
def VO(T H F R:Int):Bool:=decide (0<=T/\T<=1000000000) && decide (0<=R/\R<=60000) && decide (0<=H/\H<=1) && decide (1<=F/\F<=999999000)
def OW(W S L T H F R U O:Int)(a:List Pr):Bool:=decide (1<=W/\W<=8) && decide (8<=S/\S<=200) && decide (1<=L/\L<=60000) && VO T H F R && decide (0<=U/\U<=hv S) && decide (0<=O/\O<=U) && MH a && decide (MY (NC a) W<=hv S-1)
theorem jy(n c a:Int)(b:Bool)(h:decide (c<=n/\n<=a)=b)(w:Q9):Calls prog 112 #[Z n,Z c,Z a] w λe d=>e=Q2 (Q1 b)/\d=w:=by
 subst h
 by_cases d:c<=n<;>by_cases e:n<=a<;>(go_enter func112,ntmps112;go_wp2;go_ret;simp[d,e])
theorem QS{S:Int}(h:8<=S/\S<=200):3<=hv S/\hv S<=99:=by unfold hv;rw[G h];omega
theorem eh{S:Int}(h:¬(8<=S/\S<=200)):hv S=0:=by unfold hv;rw[A h]
theorem wM(W S L T H F R U O:Int)(a:List Pr)(h:¬(1<=W/\W<=8)\/¬(8<=S/\S<=200)\/¬(1<=L/\L<=60000)\/VO T H F R=false\/¬(0<=U/\U<=hv S)\/¬(0<=O/\O<=U)\/MH a=false\/¬(MY (NC a) W<=hv S-1)):OW W S L T H F R U O a=false:=by
 unfold OW;rcases h with h|h|h|h|h|h|h|h<;>simp[h]
theorem me(T H F R:Int)(h:¬(0<=T/\T<=1000000000)\/¬(0<=R/\R<=60000)\/¬(0<=H/\H<=1)\/¬(1<=F/\F<=999999000)):VO T H F R=false:=by
 unfold VO;rcases h with h|h|h|h<;>simp[h]
theorem sk(W S L T H F R U O:Int)(a:Q5)(f:List Pr)(c:Nat)(w:Q9)(h:Prs w a f)(X:f.length<=1048576)(d:∀b∈f,b.1.size<=1048576/\b.2.size<=1048576):Calls prog 113 #[NA W S L T H F R U O a f.length c] w λe g=>e=Q2 (Q1 (OW W S L T H F R U O f))/\Q3 w g:=by
 unfold NA
 have j:∀o,Q3 w (w.alloc o):=λo=>LH _ _
 have q:∀o p,Q3 w ((w.alloc o).alloc p):=λo p=>(LH _ _).alloc σ _
 have J:=LE (λo p=>lk a f c ((w.alloc o).alloc p) (h.I (q o p)) X d);have I:=LE (λm (h2:Q3 w m)=>xf a f c W m (h.I h2) X d);obtain⟨E,s⟩:=nHz (OW W S L T H F R U O f);rw[<-s.j];obtain⟨Q,b⟩:=nMz (hv S);have i:=LE b;have k:=wM W S L T H F R U O f;rw[<-s.j,<-b]at k;have g:=LE k;clear k b
 by_cases t:1<=W/\W<=8
 rotate_left
 focus
  have p:decide (1<=W/\W<=8)=false:=AH t;have b:E=false:=g.j (.inl (t))
 rotate_left
 focus
  have p:decide (1<=W/\W<=8)=true:=AM t
  by_cases o:8<=S/\S<=200
  rotate_left
  focus
   have d2:decide (8<=S/\S<=200)=false:=AH o;have P:Q=0:=by rw[i.j];exact eh o
   subst P;have b:E=false:=g.j (.inr (.inl (o)))
  rotate_left
  focus
   have d2:decide (8<=S/\S<=200)=true:=AM o;have aL:3<=Q/\Q<=99:=by rw[i.j];exact QS o
   have P:¬Q=0:=ω
   by_cases v:1<=L/\L<=60000
   rotate_left
   focus
    have d3:decide (1<=L/\L<=60000)=false:=AH v;have b:E=false:=g.j (.inr (.inr (.inl (v))))
   rotate_left
   focus
    have d3:decide (1<=L/\L<=60000)=true:=AM v
    by_cases y:0<=T/\T<=1000000000
    rotate_left
    focus
     have d4:decide (0<=T/\T<=1000000000)=false:=AH y;have b:E=false:=g.j (.inr (.inr (.inr (.inl (me T H F R (.inl (y)))))))
    rotate_left
    focus
     have d4:decide (0<=T/\T<=1000000000)=true:=AM y
     by_cases A:0<=H/\H<=1
     rotate_left
     focus
      have d5:decide (0<=H/\H<=1)=false:=AH A;have b:E=false:=g.j (.inr (.inr (.inr (.inl (me T H F R (.inr (.inr (.inl (A)))))))))
     rotate_left
     focus
      have d5:decide (0<=H/\H<=1)=true:=AM A
      by_cases B:1<=F/\F<=999999000
      rotate_left
      focus
       have d6:decide (1<=F/\F<=999999000)=false:=AH B;have b:E=false:=g.j (.inr (.inr (.inr (.inl (me T H F R (.inr (.inr (.inr (B)))))))))
      rotate_left
      focus
       have d6:decide (1<=F/\F<=999999000)=true:=AM B
       by_cases C:0<=R/\R<=60000
       rotate_left
       focus
        have d7:decide (0<=R/\R<=60000)=false:=AH C;have b:E=false:=g.j (.inr (.inr (.inr (.inl (me T H F R (.inr (.inl (C))))))))
       rotate_left
       focus
        have d7:decide (0<=R/\R<=60000)=true:=AM C
        by_cases r:0<=U/\U<=Q
        rotate_left
        focus
         have d8:decide (0<=U/\U<=Q)=false:=AH r;have b:E=false:=g.j (.inr (.inr (.inr (.inr (.inl (r))))))
        rotate_left
        focus
         have d8:decide (0<=U/\U<=Q)=true:=AM r
         by_cases D:0<=O/\O<=U
         rotate_left
         focus
          have d9:decide (0<=O/\O<=U)=false:=AH D;have b:E=false:=g.j (.inr (.inr (.inr (.inr (.inr (.inl (D)))))))
         rotate_left
         focus
          have d9:decide (0<=O/\O<=U)=true:=AM D
          cases dS:MH f with
          | false =>
           have b:E=false:=g.j (.inr (.inr (.inr (.inr (.inr (.inr (.inl (dS))))))));subst b;go_enter func113,ntmps113
           go_wp2_with (first|(go_at_call 47;refine(ZA _ _).J ?_;rw[<-i.j];refine OF ?_)|(go_at_call 43;refine(RZ _ _).J ?_;rw[p];refine OF ?_)|(go_at_call 112;refine(jy _ _ _ _ (by assumption) _).J ?_;refine OF ?_)|(go_at_call 106;refine(J.j _ _).J ?_;rw[dS];rintro e m ⟨rfl,k⟩))
           go_ret;exact⟨z,(q _ _).E (k.J ξ)⟩
          | true =>
           have hR:=jt (NC f) W;have aK:=gi f;obtain⟨G,N⟩:=nHz (MY (NC f) W);rw[<-N.j]at hR I g
           have b:E=decide (G<=Q-1):=by
            rw[s.j,N.j,i.j];rw[i.j]at r;unfold OW VO;simp[t,o,v,y,A,B,C,r,D,dS]
           have aM:IntKind.i64.wrap (Q-1)=Q-1:=by simp[IntKind.wrap,IntKind.bits,IntKind.signed];omega
           clear g s
           by_cases V:G<=Q-1
           .have M:decide (G<=Q-1)=true:=AM V
            rw[M]at b;subst b;go_enter func113,ntmps113
            go_wp2_with (first|(go_at_call 47;refine(ZA _ _).J ?_;rw[<-i.j];refine OF ?_)|(go_at_call 43;refine(RZ _ _).J ?_;rw[p];refine OF ?_)|(go_at_call 112;refine(jy _ _ _ _ (by assumption) _).J ?_;refine OF ?_)|(go_at_call 106;refine(J.j _ _).J ?_;rw[dS];rintro e m ⟨rfl,k⟩;have u:m.cell? (Ki w.heap.size 0)=some (Z W):=OG k l;have x:m.cell? (Ki w.heap.size 9)=some (Y a f.length c):=OG k l;have n:=LE ((q _ _).E (k.J ξ)))|(go_at_call 164;refine(I.j _ n.j).J ?_;rintro e w3 ⟨rfl,K⟩))
            go_ret;exact⟨z,n.j.E (K.J n.j.size)⟩
           have M:decide (G<=Q-1)=false:=AH V
           rw[M]at b;subst b;go_enter func113,ntmps113
           go_wp2_with (first|(go_at_call 47;refine(ZA _ _).J ?_;rw[<-i.j];refine OF ?_)|(go_at_call 43;refine(RZ _ _).J ?_;rw[p];refine OF ?_)|(go_at_call 112;refine(jy _ _ _ _ (by assumption) _).J ?_;refine OF ?_)|(go_at_call 106;refine(J.j _ _).J ?_;rw[dS];rintro e m ⟨rfl,k⟩;have u:m.cell? (Ki w.heap.size 0)=some (Z W):=OG k l;have x:m.cell? (Ki w.heap.size 9)=some (Y a f.length c):=OG k l;have n:=LE ((q _ _).E (k.J ξ)))|(go_at_call 164;refine(I.j _ n.j).J ?_;rintro e w3 ⟨rfl,K⟩))
           go_ret;exact⟨z,n.j.E (K.J n.j.size)⟩
    all_goals
     subst b;go_enter func113,ntmps113
     go_wp2_with (first|(go_at_call 47;refine(ZA _ _).J ?_;rw[<-i.j];refine OF ?_)|(go_at_call 43;refine(RZ _ _).J ?_;rw[p];refine OF ?_)|(go_at_call 112;refine(jy _ _ _ _ (by assumption) _).J ?_;refine OF ?_))
     go_ret;exact⟨z,q _ _⟩
 all_goals
  subst b;go_enter func113,ntmps113
  go_wp2_with (first|(go_at_call 47;refine(ZA _ _).J ?_;rw[<-i.j];refine OF ?_)|(go_at_call 43;refine(RZ _ _).J ?_;rw[p];refine OF ?_)|(go_at_call 112;refine(jy _ _ _ _ (by assumption) _).J ?_;refine OF ?_))
  go_ret;exact⟨z,j _⟩
