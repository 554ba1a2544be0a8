import Derived.Test.YtkdedmclofhndaaGreatDoorPrAq
import Derived.Test.YtkdedmclofhndaaGreatDoorPrFbI
import Derived.Test.YtkdedmclofhndaaGreatDoorPrG37
import Derived.Test.YtkdedmclofhndaaGreatDoorPrFbS
import Derived.Deep.Cut
import Derived.Deep.CutRange
set_option maxHeartbeats 16000000
set_option maxRecDepth 8000
set_option linter.all false
namespace Go.Proofs.YtkdedmclofhndaaGreatDoor
open Tryz
open Go.RowKit
theorem sI{T e:TypeId}{B b:Nat}{bs:List qD}{w c:xV}(h:Lib.IsBuilder T e B b bs w)(f:yX w c):Lib.IsBuilder T e B b bs c:=by
 have d:∀p,Lib.BuilderAt T e B b p bs w->Lib.BuilderAt T e B b p bs c:=λp g=>by
  obtain⟨i,v,a,j,k⟩:=g
  have g:b<w.heap.size:=by
   rcases FX b w.heap.size with h|h
   ·exact h
   rw[EG h]at a;cases a
  exact⟨i,v,by rw[f.block b g];exact a,LZ j f,k⟩
 rcases h with h|h
 ·exact .inl (d _ h)
 exact .inr (d _ h)
theorem Od(f s:yZ):Lib.byteCells f.data.toList++Lib.strCells s=Lib.byteCells (f++s).data.toList:=by
 rw[Lib.strCells_eq,<-Lib.byteCells_append]
 congr 1
theorem Lz(k:yZ)(w:xV)(i:k.size<=255):Calls prog 344 #[.agg #[yQ k]] w λe a=>e=yT (yQ (strOfNums [1]++(strOfNums [(k.size:Int)]++k)))/\yX w a:=by
 have d:∀o,yX w (w.alloc o):=λo=>LG _ _
 have g:∀o a,yX w ((w.alloc o).alloc a):=λo a=>(d o).alloc σ _
 have j:∀(x:xV) (b:Nat),x.cell? (yA b 0)=some (.int .u8 1)->(convert 24 9 (yI (zY b 0) 1 1)).run prog x=.ok (yQ (strOfNums [1])) x:=λx b h=>vR x b 1 h
 have n:¬9223372036854775807<1+(1+k.size):=ω
 have p:(strOfNums [1]).size=1:=by rw[CY];rfl
 have q:(strOfNums [(k.size:Int)]++k).size=1+k.size:=by rw[BW,CY];rfl
 go_enter func344,ntmps344;go_wp2_with fail;go_region_law (refine LI ρ 346 #[yQ k] γ (vx k _ i) ?_;rintro e h ⟨rfl,a⟩;refine⟨_,rfl,?_⟩;have f:=a.size;simp only[BE,JD]at f;have l:w.heap.size<h.heap.size:=ω;have m:=Nat.lt_of_succ_le f;obtain⟨o,_⟩:=zj a;have c:=Y a;clear a)
 all_goals
  go_wp2;go_ret;refine⟨rfl,?_⟩
  first
   | exact bs (g _ _).drew c.j
   | exact(bs (d _).drew c.j).alloc (bs (d _).drew c.j).size _
theorem K0(j:Nat)(v a:qD)(w:xV):Sem.run prog (method (j+1) 343 (.agg #[v,a]) "loop.example/kilnstone/impl.form") w=.ok (348,.agg #[v,a]) w:=κ
theorem Gf(j:Nat)(v:qD)(w:xV):Sem.run prog (method (j+1) 341 (.agg #[v]) "loop.example/kilnstone/impl.form") w=.ok (344,.agg #[v]) w:=κ
theorem wu(a:xA)(d:List (yZ×yZ×Bool))(c:Nat)(w:xV)(h:Chs w a d)(N:d.length<=1048576)(P:∀x∈d,x.1.size<=1048576/\x.2.1.size<=1048576):Calls prog 203 #[yI a d.length c] w λe b=>e=yT (yQ (MA d))/\yX w b:=by
 unfold MA
 cases hok:OM d
 focus
  simp only[FA,JA]
 rotate_left
 focus
  simp only[IU];obtain⟨f,b⟩:=XW hok;have B:=Y b;clear b;obtain⟨F,b⟩:∃F,Hid (F=ST d):=⟨_,Y rfl⟩;rw[<-b.j]
 rotate_left
 all_goals
  go_enter func203,ntmps203;go_wp2_with (go_at_call 201;refine(de a d c _ h N P).J ?_;rw[hok];rintro e z ⟨rfl,n⟩)
 ·go_ret
  exact⟨rfl,n⟩
 go_loopw [5,11] (λ_ i wr=>∃k:Nat,k<=d.length/\i=Z k/\Lib.IsBuilder 55 5 z.heap.size z.heap.size (Lib.byteCells (ST (d.take k)).data.toList) wr/\yX z wr) (λ_ i _=>d.length-(intOf i).toNat)
 case atStart =>
  exact⟨0,AL _,rfl,by rw[FV];exact Lib.fresh_isBuilder _ _ _,LG _ _⟩
 case round =>
  obtain⟨k,W,rfl,s,l⟩:=hrel
  by_cases u:k<d.length
  ·obtain⟨b,o,f,i,y,rfl,T,U,V,A⟩:=(h.I (n.E (l.J n.size))).at u
   have O:Hid ((f,i,y)∈d):=by show _∈_;rw[A.j];simp[List.getD,u]
   have g:=B.j _ O.j;have E:f.size<=255:=by simp[OX,PC,OB]at g;omega
   have M:i.size<=255:=by simp[OX,PC,OB]at g;omega
   have I:=Y (nR _ g);have H:=Y (sw (d.take k) (λx j=>B.j x (DM j)));have J:=Y (Gz d k _ _ u A.j)
   have x:(Lib.byteCells (ST (d.take k)).data.toList).length+(strOfNums (NN (f,i,y))).size<=140737488355328:=by
    rw[Lib.byteCells_length];have m:(ST (d.take k)).data.toList.length=(ST (d.take k)).size:=rfl;have j:=H.j;have p:=I.j;rw[AX]at j;omega
   have S:(k:Int)<(d.length:Int):=ω
   have v:=l.size;have F:=Y l;have m:=Y s;clear s l g
   cases y
   focus
    have K:=λj w=>K0 j (yQ f) (yQ i) w
    go_wp2_with (first|(go_at_call 252;refine(sg f i _).J ?_;rintro e Q ⟨rfl,p⟩)|(go_at_call 348;refine(Js f i _ E M).J ?_;rw[Es];rintro e R ⟨rfl,q⟩;have g:=bs (bs ((AB wr.heap.size wr).alloc (AA _) _) p) q;have C:=Y g;have t:=Y (sI m.j g);have L:=g.size;clear p q g)|(go_at_call 14;refine(nP _ _ _ _ _ t.j x ω).J ?_;rintro e G ⟨rfl,r,D⟩))
   rotate_left
   focus
    have K:=λj w=>Gf j (yQ f) w
    go_wp2_with (first|(go_at_call 252;refine(ud f i _).J ?_;rintro e Q ⟨rfl,p⟩)|(go_at_call 344;refine(Lz f _ E).J ?_;rw[Hj f i];rintro e R ⟨rfl,q⟩;have g:=bs (bs ((AB wr.heap.size wr).alloc (AA _) _) p) q;have C:=Y g;have t:=Y (sI m.j g);have L:=g.size;clear p q g)|(go_at_call 14;refine(nP _ _ _ _ _ t.j x ω).J ?_;rintro e G ⟨rfl,r,D⟩))
   rotate_left
   all_goals
    refine⟨⟨k+1,ω,ν,?_,F.j.E ((C.j.J v).E D)⟩,by simp[intOf];omega⟩;rw[J.j,<-Od];exact .inr r
  have f:k=d.length:=ω
  subst f;have v:=l.size;have m:=Y s;clear s;rw[DF,<-b.j]at m;go_wp2_with (go_at_call 17;refine(E5 _ _ _ _ m.j v).J ?_;rintro e G ⟨rfl,r⟩);go_ret;refine⟨?_,n.E ((l.E r).J n.size)⟩;have e:(⟨F.data.toList.toArray⟩:yZ)=F:=σ
  first|rw[<-e];rfl|(simp;rfl)
def MG(a:List (List Ch))(n:Int):Int:=(a.map λb=>OO (MA b).size n).sum
theorem uo(l:Nat)(n:Int):0<=OO l n/\OO l n<=(l:Int)+1:=by
 unfold OO PX
 split
 ·split
  ·omega
  have h:=KX (l-1) (56-n).toNat
  obtain⟨q,a⟩:∃q,q=(l-1) / (56-n).toNat:=⟨_,rfl⟩;rw[<-a]at h⊢;omega
 omega
theorem ac(b:List Ch):(MA b).size<=2460:=by
 unfold MA
 split
 ·rename_i h
  obtain⟨c,a⟩:=XW h;have:=sw b a;omega
 simp
theorem E6(n:Int):MG [] n=0:=rfl
theorem tn(a:List (List Ch))(b:List Ch)(n:Int):MG (a++[b]) n=MG a n+OO (MA b).size n:=by simp[MG]
theorem bw(a:List (List Ch))(n:Int):0<=MG a n/\MG a n<=2461*(a.length:Int):=by
 induction a with
 | nil=>exact⟨Int.le_refl _,by simp[MG]⟩
 | cons b r f =>
  have e:MG (b::r) n=OO (MA b).size n+MG r n:=by simp[MG]
  have c:=uo (MA b).size n;have d:=ac b;rw[e,BJ];omega
theorem ZR{α:Type}(l:List α)(k:Nat)(d:α)(h:k<l.length):l.take (k+1)=l.take k++[l.getD k d]:=by
 rw[BH h];simp[List.getD,h]
theorem rc(a:xA)(f:List Pr)(c:Nat)(n:Int)(w:xV)(h:Prs w a f)(O:f.length<=1048576)(F:∀x∈f,x.1.size<=1048576/\x.2.size<=1048576):Calls prog 127 #[.agg #[yI a f.length c],Z n] w λe b=>e=yT (Z (MG (MK f) n))/\yX w b:=by
 have b:yX w (w.alloc (.cells #[yI a f.length c] 37)):=LG _ _;have hv:=tJ a f c (w.alloc (.cells #[yI a f.length c] 37)) (h.I b) O F;have g:=Y hv;have k:=Y b;clear hv b;obtain⟨d,i⟩:∃d,d=MK f:=⟨_,rfl⟩;have J:=ZC f
 have I:Hid (∀b∈d,b.length<=1048576/\∀x∈b,x.1.size<=1048576/\x.2.1.size<=1048576):=by
  intro b j;rw[i]at j;obtain⟨o,l⟩:=mg j;exact⟨ω,λx m=>F _ (l x m)⟩
 rw[<-i]at g J⊢;clear i;go_enter func127,ntmps127;go_wp2_with (go_at_call 181;refine g.j.J ?_;rintro e P ⟨v,rfl,i,j⟩);obtain⟨X,vc,rfl,l⟩:=i.bts;have G:=Y l;have z:=Y (k.j.E (j.J k.j.size));clear i j l g k;go_loopw [5,7] (λy i wr=>∃k:Nat,k<=d.length/\i=Z (k:Int)/\y=Z (MG (d.take k) n)/\yX P wr) (λ_ i _=>d.length-(intOf i).toNat)
 case atStart=>exact⟨0,AL _,rfl,rfl,AB _ _⟩
 case round =>
  obtain⟨k,V,rfl,rfl,l⟩:=hrel
  by_cases t:k<d.length
  ·obtain⟨g,p,K,rfl,U,N,s⟩:=(G.j.I l).at t
   have Q:(k:Int)<(d.length:Int):=ω
   have S:(0:Int)<=(k:Int):=ω
   have m:=I.j (d.getD k []) (by simp[List.getD,t]);have i:=Y (tn (d.take k) (d.getD k []) n);rw[<-ZR d k [] t]at i;have L:=bw (d.take k) n;have R:(d.take k).length<=5:=by rw[AX];omega
   have u:=uo (MA (d.getD k [])).size n;have C:=ac (d.getD k []);obtain⟨b,j⟩:∃b,b=d.getD k []:=⟨_,rfl⟩;rw[<-j]at N s m i u C;obtain⟨r,E⟩:∃r,r=MG (d.take k) n:=⟨_,rfl⟩;rw[<-E]at i L⊢;have x:=Y (λW (M:Chs W p b)=>cw p b K W M m.1 m.2);have o:=Y (λW=>zT (MA b) n W ω);have H:=Y s;have y:=Y l;obtain⟨q,D⟩:∃q,q=OO (MA b).size n:=⟨_,rfl⟩;rw[<-D]at o u i;obtain⟨B,A⟩:∃B,B=MA b:=⟨_,rfl⟩;rw[<-A]at x o u C;have T:IntKind.i64.wrap (r+q)=r+q:=by simp[IntKind.wrap,IntKind.bits,IntKind.signed];omega
   clear j E D A m s l
   go_wp2_with (first|(go_at_call 139;refine(x.j _ H.j).J ?_;rintro e s ⟨rfl,j⟩)|(go_at_call 182;refine(o.j _).J ?_;rintro e A ⟨rfl,m⟩))
   refine⟨⟨k+1,ω,ν,?_,?_⟩,by simp[intOf];omega⟩
   ·rw[i.j]
   exact y.j.E ((j.E (m.J j.size)).J y.j.size)
  have g:k=d.length:=ω
  subst g;go_wp2;go_ret;exact⟨σ,z.j.E (l.J z.j.size)⟩
theorem Ek(a:xA)(f:List Pr)(c:Nat)(n:Int)(w:xV)(h:Prs w a f)(K:f.length<=c)(P:f.length<=1048576)(F:∀x∈f,x.1.size<=1048576/\x.2.size<=1048576):Calls prog 224 #[.agg #[yI a f.length c],Z n] w λe b=>e=yT (Z (MG (MK f) n))/\yX w b:=by
 have b:yX w (w.alloc (.cells #[yI a f.length c] 37)):=LG _ _;have hv:=s6 a f c (w.alloc (.cells #[yI a f.length c] 37)) (h.I b) K P F;have g:=Y hv;have k:=Y b;clear hv b;obtain⟨d,i⟩:∃d,d=MK f:=⟨_,rfl⟩;have J:=ZC f
 have I:Hid (∀b∈d,b.length<=1048576/\∀x∈b,x.1.size<=1048576/\x.2.1.size<=1048576):=by
  intro b j;rw[i]at j;obtain⟨o,l⟩:=mg j;exact⟨ω,λx m=>F _ (l x m)⟩
 rw[<-i]at g J⊢;clear i;go_enter func224,ntmps224;go_wp2_with (go_at_call 227;refine g.j.J ?_;rintro e Q ⟨v,rfl,i,j⟩;obtain⟨va,vc,rfl,l⟩:=i.bts);have G:=Y l;have z:=Y (k.j.E (j.J k.j.size));clear i j l g k;go_loopw [5,11] (λy i wr=>∃k:Nat,k<=d.length/\i=Z (k:Int)/\y=Z (MG (d.take k) n)/\yX Q wr) (λ_ i _=>d.length-(intOf i).toNat)
 case atStart=>exact⟨0,AL _,rfl,rfl,AB _ _⟩
 case round =>
  obtain⟨k,X,rfl,rfl,l⟩:=hrel
  by_cases t:k<d.length
  ·obtain⟨g,p,L,rfl,V,O,s⟩:=(G.j.I l).at t
   have R:(k:Int)<(d.length:Int):=ω
   have T:(0:Int)<=(k:Int):=ω
   have m:=I.j (d.getD k []) (by simp[List.getD,t]);have i:=Y (tn (d.take k) (d.getD k []) n);rw[<-ZR d k [] t]at i;have M:=bw (d.take k) n;have S:(d.take k).length<=5:=by rw[AX];omega
   have u:=uo (MA (d.getD k [])).size n;have C:=ac (d.getD k []);obtain⟨b,j⟩:∃b,b=d.getD k []:=⟨_,rfl⟩;rw[<-j]at O s m i u C;obtain⟨r,E⟩:∃r,r=MG (d.take k) n:=⟨_,rfl⟩;rw[<-E]at i M⊢;have x:=Y (λW (N:Chs W p b)=>wu p b L W N m.1 m.2);have o:=Y (λW=>vq (MA b) n W ω);have H:=Y s;have y:=Y l;obtain⟨q,D⟩:∃q,q=OO (MA b).size n:=⟨_,rfl⟩;rw[<-D]at o u i;obtain⟨B,A⟩:∃B,B=MA b:=⟨_,rfl⟩;rw[<-A]at x o u C;have U:IntKind.i64.wrap (r+q)=r+q:=by simp[IntKind.wrap,IntKind.bits,IntKind.signed];omega
   clear j E D A m s l
   go_wp2_with (first|(go_at_call 203;refine(x.j _ H.j).J ?_;rintro e s ⟨rfl,j⟩)|(go_at_call 204;refine(o.j _).J ?_;rintro e A ⟨rfl,m⟩))
   refine⟨⟨k+1,ω,ν,?_,?_⟩,by simp[intOf];omega⟩
   ·rw[i.j]
   exact y.j.E ((j.E (m.J j.size)).J y.j.size)
  have g:k=d.length:=ω
  subst g;go_wp2;go_ret;exact⟨σ,z.j.E (l.J z.j.size)⟩
def SY(T H F R:Int):Bool:=decide (0<=T/\T<=1000000000) && decide (0<=R/\R<=60000) && decide (0<=H/\H<=1) && decide (1<=F/\F<=999999000)
def NX(W S L T H F R U O:Int)(a:List Pr):Bool:=decide (1<=W/\W<=8) && decide (8<=S/\S<=200) && decide (1<=L/\L<=60000) && SY T H F R && decide (0<=U/\U<=hv S) && decide (0<=O/\O<=U) && LX a && decide (MG (MK a) W<=hv S-1)
theorem cr(n c a:Int)(b:Bool)(h:decide (c<=n/\n<=a)=b)(w:xV):Calls prog 88 #[Z n,Z c,Z a] w λe d=>e=yT (yR b)/\d=w:=by
 subst h
 by_cases d:c<=n<;>by_cases e:n<=a<;>(go_enter func88,ntmps88;go_wp2;go_ret;simp[d,e])
theorem PG{S:Int}(h:8<=S/\S<=200):3<=hv S/\hv S<=99:=by unfold hv;rw[AI h];omega
theorem YH{S:Int}(h:¬(8<=S/\S<=200)):hv S=0:=by unfold hv;rw[AF h]
theorem tH(W S L T H F R U O:Int)(a:List Pr)(h:¬(1<=W/\W<=8)\/¬(8<=S/\S<=200)\/¬(1<=L/\L<=60000)\/SY T H F R=false\/¬(0<=U/\U<=hv S)\/¬(0<=O/\O<=U)\/LX a=false\/¬(MG (MK a) W<=hv S-1)):NX W S L T H F R U O a=false:=by
 unfold NX;rcases h with h|h|h|h|h|h|h|h<;>simp[h]
theorem fj(T H F R:Int)(h:¬(0<=T/\T<=1000000000)\/¬(0<=R/\R<=60000)\/¬(0<=H/\H<=1)\/¬(1<=F/\F<=999999000)):SY T H F R=false:=by
 unfold SY;rcases h with h|h|h|h<;>simp[h]
theorem ky(W S L T H F R U O:Int)(a:xA)(d:List Pr)(c:Nat)(w:xV)(h:Prs w a d)(J:d.length<=1048576)(K:∀x∈d,x.1.size<=1048576/\x.2.size<=1048576):Calls prog 89 #[MI W S L T H F R U O a d.length c] w λe b=>e=yT (yR (NX W S L T H F R U O d))/\yX w b:=by
 unfold MI
 have M:∀o,yX w (w.alloc o):=λo=>LG _ _
 have n:∀o p,yX w ((w.alloc o).alloc p):=λo p=>(LG _ _).alloc σ _
 have z:=Y (λo p=>ew a d c ((w.alloc o).alloc p) (h.I (n o p)) J K);have y:=Y (λj (h2:yX w j)=>rc a d c W j (h.I h2) J K);obtain⟨E,p⟩:∃E,Hid (E=NX W S L T H F R U O d):=⟨_,Y rfl⟩;rw[<-p.j];obtain⟨Q,b⟩:∃Q,Q=hv S:=⟨_,rfl⟩;have g:=Y b;have i:=tH W S L T H F R U O d;rw[<-p.j,<-b]at i;have f:=Y i;clear i b
 by_cases q:1<=W/\W<=8
 rotate_left
 focus
  have m:decide (1<=W/\W<=8)=false:=AH q;have b:E=false:=f.j (.inl (q))
 rotate_left
 focus
  have m:decide (1<=W/\W<=8)=true:=AM q
  by_cases l:8<=S/\S<=200
  rotate_left
  focus
   have V:decide (8<=S/\S<=200)=false:=AH l;have D:Q=0:=by rw[g.j];exact YH l
   subst D;have b:E=false:=f.j (.inr (.inl (l)))
  rotate_left
  focus
   have V:decide (8<=S/\S<=200)=true:=AM l;have aL:3<=Q/\Q<=99:=by rw[g.j];exact PG l
   have D:¬Q=0:=ω
   by_cases r:1<=L/\L<=60000
   rotate_left
   focus
    have X:decide (1<=L/\L<=60000)=false:=AH r;have b:E=false:=f.j (.inr (.inr (.inl (r))))
   rotate_left
   focus
    have X:decide (1<=L/\L<=60000)=true:=AM r
    by_cases s:0<=T/\T<=1000000000
    rotate_left
    focus
     have d4:decide (0<=T/\T<=1000000000)=false:=AH s;have b:E=false:=f.j (.inr (.inr (.inr (.inl (fj T H F R (.inl (s)))))))
    rotate_left
    focus
     have d4:decide (0<=T/\T<=1000000000)=true:=AM s
     by_cases t:0<=H/\H<=1
     rotate_left
     focus
      have d5:decide (0<=H/\H<=1)=false:=AH t;have b:E=false:=f.j (.inr (.inr (.inr (.inl (fj T H F R (.inr (.inr (.inl (t)))))))))
     rotate_left
     focus
      have d5:decide (0<=H/\H<=1)=true:=AM t
      by_cases u:1<=F/\F<=999999000
      rotate_left
      focus
       have d6:decide (1<=F/\F<=999999000)=false:=AH u;have b:E=false:=f.j (.inr (.inr (.inr (.inl (fj T H F R (.inr (.inr (.inr (u)))))))))
      rotate_left
      focus
       have d6:decide (1<=F/\F<=999999000)=true:=AM u
       by_cases v:0<=R/\R<=60000
       rotate_left
       focus
        have d7:decide (0<=R/\R<=60000)=false:=AH v;have b:E=false:=f.j (.inr (.inr (.inr (.inl (fj T H F R (.inr (.inl (v))))))))
       rotate_left
       focus
        have d7:decide (0<=R/\R<=60000)=true:=AM v
        by_cases o:0<=U/\U<=Q
        rotate_left
        focus
         have d8:decide (0<=U/\U<=Q)=false:=AH o;have b:E=false:=f.j (.inr (.inr (.inr (.inr (.inl (o))))))
        rotate_left
        focus
         have d8:decide (0<=U/\U<=Q)=true:=AM o
         by_cases x:0<=O/\O<=U
         rotate_left
         focus
          have d9:decide (0<=O/\O<=U)=false:=AH x;have b:E=false:=f.j (.inr (.inr (.inr (.inr (.inr (.inl (x)))))))
         rotate_left
         focus
          have d9:decide (0<=O/\O<=U)=true:=AM x
          cases dS:LX d with
          | false =>
           have b:E=false:=f.j (.inr (.inr (.inr (.inr (.inr (.inr (.inl (dS))))))));subst b;go_enter func89,ntmps89
           go_wp2_with (first|(go_at_call 29;refine(VU _ _).J ?_;rw[<-g.j];refine NE ?_)|(go_at_call 24;refine(QH _ _).J ?_;rw[m];refine NE ?_)|(go_at_call 88;refine(cr _ _ _ _ (by assumption) _).J ?_;refine NE ?_)|(go_at_call 82;refine(z.j _ _).J ?_;rw[dS];rintro e j ⟨rfl,i⟩))
           go_ret;exact⟨rfl,(n _ _).E (i.J ξ)⟩
          | true =>
           have hR:=bw (MK d) W;have aK:=ZC d;obtain⟨G,C⟩:∃G,Hid (G=MG (MK d) W):=⟨_,Y rfl⟩;rw[<-C.j]at hR y f
           have b:E=decide (G<=Q-1):=by
            rw[p.j,C.j,g.j];rw[g.j]at o;unfold NX SY;simp[q,l,r,s,t,u,v,o,x,dS]
           have aM:IntKind.i64.wrap (Q-1)=Q-1:=by simp[IntKind.wrap,IntKind.bits,IntKind.signed];omega
           clear f p
           by_cases I:G<=Q-1
           ·have B:decide (G<=Q-1)=true:=AM I
            rw[B]at b;subst b;go_enter func89,ntmps89
            go_wp2_with (first|(go_at_call 29;refine(VU _ _).J ?_;rw[<-g.j];refine NE ?_)|(go_at_call 24;refine(QH _ _).J ?_;rw[m];refine NE ?_)|(go_at_call 88;refine(cr _ _ _ _ (by assumption) _).J ?_;refine NE ?_)|(go_at_call 82;refine(z.j _ _).J ?_;rw[dS];rintro e j ⟨rfl,i⟩;have N:j.cell? (yA w.heap.size 0)=some (Z W):=NF i γ;have P:j.cell? (yA w.heap.size 9)=some (yI a d.length c):=NF i γ;have k:=Y ((n _ _).E (i.J ξ)))|(go_at_call 127;refine(y.j _ k.j).J ?_;rintro e w3 ⟨rfl,A⟩))
            go_ret;exact⟨rfl,k.j.E (A.J k.j.size)⟩
           have B:decide (G<=Q-1)=false:=AH I
           rw[B]at b;subst b;go_enter func89,ntmps89
           go_wp2_with (first|(go_at_call 29;refine(VU _ _).J ?_;rw[<-g.j];refine NE ?_)|(go_at_call 24;refine(QH _ _).J ?_;rw[m];refine NE ?_)|(go_at_call 88;refine(cr _ _ _ _ (by assumption) _).J ?_;refine NE ?_)|(go_at_call 82;refine(z.j _ _).J ?_;rw[dS];rintro e j ⟨rfl,i⟩;have N:j.cell? (yA w.heap.size 0)=some (Z W):=NF i γ;have P:j.cell? (yA w.heap.size 9)=some (yI a d.length c):=NF i γ;have k:=Y ((n _ _).E (i.J ξ)))|(go_at_call 127;refine(y.j _ k.j).J ?_;rintro e w3 ⟨rfl,A⟩))
           go_ret;exact⟨rfl,k.j.E (A.J k.j.size)⟩
    all_goals
     subst b;go_enter func89,ntmps89
     go_wp2_with (first|(go_at_call 29;refine(VU _ _).J ?_;rw[<-g.j];refine NE ?_)|(go_at_call 24;refine(QH _ _).J ?_;rw[m];refine NE ?_)|(go_at_call 88;refine(cr _ _ _ _ (by assumption) _).J ?_;refine NE ?_))
     go_ret;exact⟨rfl,n _ _⟩
 all_goals
  subst b;go_enter func89,ntmps89
  go_wp2_with (first|(go_at_call 29;refine(VU _ _).J ?_;rw[<-g.j];refine NE ?_)|(go_at_call 24;refine(QH _ _).J ?_;rw[m];refine NE ?_)|(go_at_call 88;refine(cr _ _ _ _ (by assumption) _).J ?_;refine NE ?_))
  go_ret;exact⟨rfl,M _⟩
theorem rf(n:Int)(w:xV):Calls prog 249 #[Z n] w λe a=>e=yT (yR (decide (0<=n/\n<=1)))/\a=w:=by
 go_enter func249,ntmps249
 by_cases a:n=0
 ·subst a;go_wp2;go_ret;simp
 by_cases b:n=1
 ·subst b;go_wp2;go_ret;simp
 have c:decide (0<=n/\n<=1)=false:=τ
 rw[c];go_wp2;go_ret;simp[a,b]
theorem oJ(n:Int)(w:xV):Calls prog 250 #[Z n] w λe a=>e=yT (yR (decide (1<=n/\n<=999999000)))/\a=w:=by
 go_enter func250,ntmps250
 by_cases a:1<=n<;>by_cases b:n<=999999000<;>(go_wp2;go_ret;simp[a,b])
theorem sm(T H F R:Int)(w:xV):Calls prog 199 #[.agg #[Z T,Z H,Z F,Z R]] w λe a=>e=yT (yR (SY T H F R))/\yX w a:=by
 have e:∀o,yX w (w.alloc o):=λo=>LG _ _
 obtain⟨E,b⟩:∃E,Hid (E=SY T H F R):=⟨_,Y rfl⟩;rw[<-b.j];unfold SY at b
 by_cases h:0<=T
 rotate_left
 focus
  have a:E=false:=by rw[b.j];simp;omega
 rotate_left
 focus
  by_cases i:T<=1000000000
  rotate_left
  focus
   have a:E=false:=by rw[b.j];simp;omega
  rotate_left
  focus
   by_cases j:0<=R
   rotate_left
   focus
    have a:E=false:=by rw[b.j];simp;omega
   rotate_left
   focus
    by_cases k:R<=60000
    rotate_left
    focus
     have a:E=false:=by rw[b.j];simp;omega
    rotate_left
    focus
     by_cases f:0<=H/\H<=1
     case neg =>
      have c:decide (0<=H/\H<=1)=false:=AH f;have a:E=false:=by rw[b.j,c];simp
      subst a;go_enter func199,ntmps199
      go_wp2_with (first|(go_at_call 249;refine(rf _ _).J ?_;rw[c];refine NE ?_))
      go_ret;exact⟨rfl,e _⟩
     have c:decide (0<=H/\H<=1)=true:=AM f
     by_cases g:1<=F/\F<=999999000
     case neg =>
      have d:decide (1<=F/\F<=999999000)=false:=AH g;have a:E=false:=by rw[b.j,d];simp
      subst a;go_enter func199,ntmps199
      go_wp2_with (first|(go_at_call 249;refine(rf _ _).J ?_;rw[c];refine NE ?_)|(go_at_call 250;refine(oJ _ _).J ?_;rw[d];refine NE ?_))
      go_ret;exact⟨rfl,e _⟩
     have d:decide (1<=F/\F<=999999000)=true:=AM g;have a:E=true:=by rw[b.j,c,d];simp;omega
     subst a;go_enter func199,ntmps199
     go_wp2_with (first|(go_at_call 249;refine(rf _ _).J ?_;rw[c];refine NE ?_)|(go_at_call 250;refine(oJ _ _).J ?_;rw[d];refine NE ?_))
     go_ret;exact⟨rfl,e _⟩
 all_goals
  subst a;go_enter func199,ntmps199;go_wp2;go_ret;exact⟨rfl,e _⟩
theorem zx(n Q:Int)(h:Q=hv n)(w:xV):Calls prog 78 #[Z n] w λe a=>e=yT (Z Q)/\a=w:=by rw[h];exact aa n w
theorem tq(W S L T H F R U O:Int)(a:xA)(b:List Pr)(c:Nat)(w:xV)(h:Prs w a b)(r:b.length<=c)(s:b.length<=1048576)(t:∀x∈b,x.1.size<=1048576/\x.2.size<=1048576):Calls prog 169 #[MI W S L T H F R U O a b.length c] w λe d=>e=yT (yR (decide (MG (MK b) W<=hv S-1)))/\yX w d:=by
 unfold MI;obtain⟨f,g⟩:∃f,f=w.alloc (.cells (sK W S L T H F R U O (yI a b.length c)) 39):=⟨_,rfl⟩;have u:f.cell? (yA w.heap.size 0)=some (Z W):=by rw[g];go_simp
 have v:f.cell? (yA w.heap.size 1)=some (Z S):=by rw[g];go_simp
 have x:f.cell? (yA w.heap.size 9)=some (yI a b.length c):=by rw[g];go_simp
 have j:yX w f:=by rw[g];exact LG _ _
 have k:w.heap.size<f.heap.size:=by rw[g];simp
 have l:Hid (∀d,yX f d->d.cell? (yA w.heap.size 0)=some (Z W)/\d.cell? (yA w.heap.size 1)=some (Z S)/\d.cell? (yA w.heap.size 9)=some (yI a b.length c)/\yX f d):=λd i=>⟨(i.cell (p:=(yA w.heap.size 0)) k).E u,(i.cell (p:=(yA w.heap.size 1)) k).E v,(i.cell (p:=(yA w.heap.size 9)) k).E x,i⟩
 have n:=Y (Ek a b c W f.drew (h.I j.drew) r s t);have q:=bw (MK b) W;have y:=ZC b;have p:0<=hv S/\hv S<=99:=by by_cases h:8<=S/\S<=200;have:=PG h;omega;rw[YH h];omega
 obtain⟨G,o⟩:∃G,Hid (G=MG (MK b) W):=⟨_,Y rfl⟩;obtain⟨Q,i⟩:∃Q,Hid (Q=hv S):=⟨_,Y rfl⟩;rw[<-o.j]at q n⊢;rw[<-i.j]at p⊢;have z:IntKind.i64.wrap (Q-1)=Q-1:=by simp[IntKind.wrap,IntKind.bits,IntKind.signed];omega
 have m:=Y j;clear j;go_enter func169,ntmps169;go_wp2_with fail;rw[<-g];clear g
 go_region_held3 (λd=>d.cell? (yA w.heap.size 0)=some (Z W)/\d.cell? (yA w.heap.size 1)=some (Z S)/\d.cell? (yA w.heap.size 9)=some (yI a b.length c)/\yX f d)
  (first|assumption|exact l.j _ ((AB _ _).drew)|exact l.j _ ((AB _ _).drew.E d))
  (first|(go_at_call 224;refine n.j.J ?_;rintro e g ⟨rfl,d⟩)|(go_at_call 78;refine(aa _ _).J ?_;rw[<-i.j];rintro e j ⟨rfl,rfl⟩))
 all_goals
  go_wp2;go_ret;exact⟨rfl,m.j.E (((AB _ _).drew.E d).J m.j.size)⟩
theorem kz(W S L T H F R U O:Int)(a:xA)(f:List Pr)(c:Nat)(w:xV)(h:Prs w a f)(Z:f.length<=c)(P:f.length<=1048576)(I:∀x∈f,x.1.size<=1048576/\x.2.size<=1048576):Calls prog 148 #[MI W S L T H F R U O a f.length c] w λe b=>e=yT (yR (NX W S L T H F R U O f))/\yX w b:=by
 unfold MI;have X:=Y (λw2 (G:yX w w2)=>ei a f c w2 (h.I G) P I);have B:=Y (λw2 (G:yX w w2)=>tq W S L T H F R U O a f c w2 (h.I G) Z P I);unfold MI at B;clear h I;obtain⟨E,A⟩:∃E,Hid (E=NX W S L T H F R U O f):=⟨_,Y rfl⟩;rw[<-A.j];obtain⟨Q,b⟩:∃Q,Q=hv S:=⟨_,rfl⟩;have v:=Y b;have d:=tH W S L T H F R U O f;rw[<-A.j,<-b]at d;rw[<-b]at B;have g:=Y d;clear d b;go_enter func148,ntmps148;go_upto_region 1 with fail;generalize d:w.alloc _=v1;obtain⟨b,j,i⟩:=LK d;have r:=i.q;clear d j i;obtain⟨j,k,l,m,n,o,p,q,s,t,u⟩:=c10 r
 by_cases C:1<=W/\W<=8
 case neg =>
  have x:=AH C;obtain rfl:E=false:=g.j (.inl C);go_wp2_with (go_at_call 36;refine(RH _ _).J ?_;rw[x];refine NE ?_);go_ret;exact⟨rfl,b⟩
 have x:=AM C
 by_cases y:8<=S/\S<=200
 case neg =>
  have z:=AH y;obtain rfl:E=false:=g.j (.inr (.inl y))
  go_wp2_with (first|(go_at_call 36;refine(RH _ _).J ?_;rw[x];refine NE ?_)|(go_at_call 35;refine(mq _ _).J ?_;rw[z];refine NE ?_))
  go_ret;exact⟨rfl,b⟩
 have z:=AM y;have aJ:3<=Q/\Q<=99:=by rw[v.j];exact PG y
 go_upto_region 3 with (first|(go_at_call 36;refine(RH _ _).J ?_;rw[x];refine NE ?_)|(go_at_call 35;refine(mq _ _).J ?_;rw[z];refine NE ?_))
 by_cases M:1<=L
 case neg =>
  obtain rfl:E=false:=g.j (.inr (.inr (.inl (λi=>M i.1))));go_wp2;go_ret;exact⟨rfl,b⟩
 by_cases J:L<=60000
 case neg =>
  obtain rfl:E=false:=g.j (.inr (.inr (.inl (λi=>J i.2))));go_wp2;go_ret;exact⟨rfl,b⟩
 go_wp2_with fail;clear j k l m n o p q s t u;refine(sm T H F R _).J ?_;rintro e v2 ⟨rfl,d⟩;replace r:=r.I d;replace b:=b.E (d.J b.size);clear d;obtain⟨j,k,l,m,n,o,p,q,s,t,u⟩:=c10 r
 cases d4:SY T H F R with
 | false =>
  obtain rfl:E=false:=g.j (.inr (.inr (.inr (.inl d4))));go_wp2_with fail;go_ret;exact⟨rfl,b⟩
 | true =>
  have V:=Y d4;clear d4;go_upto_region 7 with fail;go_cut [28] from 29 to 39 (λd D=>d=yR (decide (¬(0<=U/\U<=Q)))/\yX v2 D)
  case first =>
   by_cases D:0<=U
   case neg =>
    go_quiet ((go_at_call 78;exact Calls.quiet_of_same (zx _ _ v.j _)));go_wp2_with fail;go_meet;exact⟨by rw[show decide (¬(0<=U/\U<=Q))=true by simp only[BG];omega],below_drewN (AB _ _) nq⟩
   by_cases d:U<=Q
   case neg =>
    go_quiet ((go_at_call 78;exact Calls.quiet_of_same (zx _ _ v.j _)));go_wp2_with fail;go_meet;exact⟨by rw[show decide (¬(0<=U/\U<=Q))=true by simp only[BG];omega],below_drewN (AB _ _) nq⟩
   go_quiet ((go_at_call 78;exact Calls.quiet_of_same (zx _ _ v.j _)));go_wp2_with fail;go_meet
   exact⟨by rw[show decide (¬(0<=U/\U<=Q))=false by simp only[JK];omega,show decide (Q<U)=false by simp only[JK];omega];simp;try omega,below_drewN (AB _ _) nq⟩
  case rest =>
  clear j k l m n o p q s t u;obtain⟨rfl,d⟩:=hcut
  rename World=>v3
  replace r:=r.I d;replace b:=b.E (d.J b.size);clear d;obtain⟨j,k,l,m,n,o,p,q,s,t,u⟩:=c10 r
  by_cases D:0<=U/\U<=Q
  case neg =>
   obtain rfl:E=false:=g.j (.inr (.inr (.inr (.inr (.inl D)))));rw[show decide (¬(0<=U/\U<=Q))=true by simp only[BG];omega];go_wp2_with fail;go_ret;exact⟨rfl,b⟩
  rw[show decide (¬(0<=U/\U<=Q))=false by simp only[JK];omega]
  by_cases N:0<=O
  case neg =>
   obtain rfl:E=false:=g.j (.inr (.inr (.inr (.inr (.inr (.inl (λi=>N i.1)))))));go_wp2_with fail;go_ret;exact⟨rfl,b⟩
  by_cases K:O<=U
  case neg =>
   obtain rfl:E=false:=g.j (.inr (.inr (.inr (.inr (.inr (.inl (λi=>K i.2)))))));go_wp2_with fail;go_ret;exact⟨rfl,b⟩
  go_wp2_with fail;clear j k l m n o p q s t u;have i:=X.j _ b;refine i.J ?_;rintro e v4 ⟨rfl,d⟩;replace r:=r.I d;replace b:=b.E (d.J b.size);clear d i;obtain⟨j,k,l,m,n,o,p,q,s,t,u⟩:=c10 r
  cases d7:LX f with
  | false =>
   obtain rfl:E=false:=g.j (.inr (.inr (.inr (.inr (.inr (.inr (.inl d7)))))));go_wp2_with fail;go_ret;exact⟨rfl,b⟩
  | true =>
   have i:=Y d7;clear d7;go_wp2_with fail;refine(B.j _ b).J ?_;rintro e v5 ⟨rfl,d⟩;replace b:=b.E (d.J b.size);clear d
   have d:E=decide (MG (MK f) W<=Q-1):=by
    rw[A.j];unfold NX;rw[x,z,V.j,i.j,AM (⟨M,J⟩:1<=L/\L<=60000),AM (⟨N,K⟩:0<=O/\O<=U),<-v.j,AM D];simp
   subst d;clear j k l m n o p q s t u;go_wp2_with fail;go_ret;exact⟨rfl,b⟩
