import Derived.Test.YtjdmogljfdffeaaGreatDoorPrAq
import Derived.Test.YtjdmogljfdffeaaGreatDoorPrFbI
import Derived.Test.YtjdmogljfdffeaaGreatDoorPrG36
import Derived.Test.YtjdmogljfdffeaaGreatDoorPrFbS
import Derived.Test.YtjdmogljfdffeaaGreatDoorPrG38
import Derived.Deep.Cut
import Derived.Deep.CutRange
import Derived.Deep.AppendSrc
import Derived.Test.YtjdmogljfdffeaaGreatDoorPrCutI
set_option maxHeartbeats 16000000
set_option maxRecDepth 8000
set_option linter.all false
namespace Go.Proofs.YtjdmogljfdffeaaGreatDoor
open _root_.ByteArray(empty)
open Tryz
open Go.RowKit
variable {S:Int}{cs:List Value}{c e g:Nat}{a b:Option Addr}{P:Program}{w w':World}
theorem pT{T e:TypeId}{B b:Nat}{bs:List Value}(h:Lib.IsBuilder T e B b bs w)(i:Below w.heap.size w w'):Lib.IsBuilder T e B b bs w':=by
 have f:∀p,Lib.BuilderAt T e B b p bs w->Lib.BuilderAt T e B b p bs w':=λp j=>by
  obtain⟨k,v,d,l,m⟩:=j
  have j:b<w.heap.size:=by
   rcases FY b w.heap.size with h|h
   ·exact h
   rw[DP h]at d;cases d
  exact⟨k,v,by rw[i.block b j];exact d,LR l i,m⟩
 rcases h with h|h
 ·exact .inl (f _ h)
 exact .inr (f _ h)
theorem Ji(f s:ByteArray):Lib.byteCells f.data.toList++Lib.strCells s=Lib.byteCells (f++s).data.toList:=by
 rw[Lib.strCells_eq,<-Lib.byteCells_append]
 congr 1
theorem Hb(k:ByteArray)(w:World)(l:k.size<=255):Calls prog 225 #[.agg #[.string k]] w λe w'=>e=.returned (.string (strOfNums [1]++(strOfNums [(k.size:Int)]++k)))/\Below w.heap.size w w':=by
 have i:∀o,Below w.heap.size w (w.alloc o):=λo=>KW _ _
 have j:∀o d,Below w.heap.size w ((w.alloc o).alloc d):=λo d=>(i o).alloc σ _
 have n:∀(x:World) (b:Nat),x.cell? ⟨b,0,none⟩=some (.int .u8 1)->(convert 22 9 (.slice (some ⟨b,0,none⟩) 1 1)).run prog x=.ok (.string (strOfNums [1])) x:=λx b h=>tB x b 1 h
 have q:¬9223372036854775807<1+(1+k.size):=ω
 have s:(strOfNums [1]).size=1:=by rw[BU];rfl
 have t:(strOfNums [(k.size:Int)]++k).size=1+k.size:=by rw[BK,BU];rfl
 go_enter func225,ntmps225;go_wp2_with fail;go_region_law (refine LC ρ 230 #[.string k] γ (vg k _ l) ?_;rintro e m ⟨rfl,d⟩;refine⟨_,rfl,?_⟩;have h:=d.size;simp only[BB,IS]at h;have o:w.heap.size<m.heap.size:=ω;have p:=Nat.lt_of_succ_le h;obtain⟨r,_⟩:=ym d;have f:=Z d;clear d)
 all_goals
  go_wp2;go_ret;refine⟨rfl,?_⟩
  first
   | exact bs (j _ _).drew f.l
   | exact(bs (i _).drew f.l).alloc (bs (i _).drew f.l).size _
theorem Gg(j:Nat)(v d:Value)(w:World):Sem.run prog (method (j+1) 170 (.agg #[v,d]) "loop.example/kilnstone/impl.form") w=.ok (234,.agg #[v,d]) w:=κ
theorem Bw(j:Nat)(v:Value)(w:World):Sem.run prog (method (j+1) 168 (.agg #[v]) "loop.example/kilnstone/impl.form") w=.ok (225,.agg #[v]) w:=κ
theorem vm(a:Option Addr)(d:List (ByteArray×ByteArray×Bool))(c:Nat)(w:World)(h:Chs w a d)(T:d.length<=1048576)(W:∀x∈d,x.1.size<=1048576/\x.2.1.size<=1048576):Calls prog 31 #[.slice a d.length c] w λe w'=>e=.returned (.string (KZ d))/\Below w.heap.size w w':=by
 unfold KZ
 cases hok:NL d
 focus
  simp only[EW,IJ]
 rotate_left
 focus
  simp only[GZ];obtain⟨hn,f⟩:=WO hok;have C:=Z f;clear f;obtain⟨F,A⟩:∃F,Hid (F=QY d):=⟨_,Z rfl⟩;rw[<-A.l]
 rotate_left
 all_goals
  go_enter func31,ntmps31;go_wp2_with (go_at_call 29;refine(dk a d c _ h T W).A ?_;rw[hok];rintro e u ⟨rfl,p⟩)
 ·go_ret
  exact⟨rfl,p⟩
 go_loopw [5,11] (λ_ i wr=>∃k:Nat,k<=d.length/\i=.int .i64 k/\Lib.IsBuilder 123 5 u.heap.size u.heap.size (Lib.byteCells (QY (d.take k)).data.toList) wr/\Below u.heap.size u wr) (λ_ i _=>d.length-(intOf i).toNat)
 case atStart =>
  exact⟨0,AO _,rfl,by rw[FQ];exact Lib.fresh_isBuilder _ _ _,KW _ _⟩
 case round =>
  obtain⟨k,hk,rfl,t,m⟩:=hrel
  by_cases y:k<d.length
  ·obtain⟨b,o,f,l,z,rfl,bE,bG,bH,B⟩:=(h.z (p.j (m.A p.size))).at y
   have U:Hid ((f,l,z)∈d):=by show _∈_;rw[B.l];simp[List.getD,y]
   have i:=C.l _ U.l;have H:f.size<=255:=by simp[NZ,OU,NY]at i;omega
   have R:l.size<=255:=by simp[NZ,OU,NY]at i;omega
   have M:=Z (mD _ i);have L:=Z (sd (d.take k) (λx j=>C.l x (DM j)));have N:=Z (Cg d k _ _ y B.l)
   have D:(Lib.byteCells (QY (d.take k)).data.toList).length+(strOfNums (MQ (f,l,z))).size<=140737488355328:=by
    rw[Lib.byteCells_length];have n:(QY (d.take k)).data.toList.length=(QY (d.take k)).size:=rfl;have j:=L.l;have q:=M.l;rw[BF]at j;omega
   have aW:(k:Int)<(d.length:Int):=ω
   have x:=m.size;have K:=Z m;have n:=Z t;clear t m i
   cases z
   focus
    have O:=λj w=>Gg j (.string f) (.string l) w
    go_wp2_with (first|(go_at_call 76;refine(rm f l _).A ?_;rintro e X ⟨rfl,q⟩)|(go_at_call 234;refine(Er f l _ H R).A ?_;rw[Aa];rintro e w5 ⟨rfl,r⟩;have i:=bs (bs ((AC wr.heap.size wr).alloc (Y _) _) q) r;have E:=Z i;have v:=Z (pT n.l i);have Q:=i.size;clear q r i)|(go_at_call 75;refine(ce _ _ _ _ _ v.l D ω).A ?_;rintro e I ⟨rfl,s,G⟩))
   rotate_left
   focus
    have O:=λj w=>Bw j (.string f) w
    go_wp2_with (first|(go_at_call 76;refine(tk f l _).A ?_;rintro e X ⟨rfl,q⟩)|(go_at_call 225;refine(Hb f _ H).A ?_;rw[Cr f l];rintro e w5 ⟨rfl,r⟩;have i:=bs (bs ((AC wr.heap.size wr).alloc (Y _) _) q) r;have E:=Z i;have v:=Z (pT n.l i);have Q:=i.size;clear q r i)|(go_at_call 75;refine(ce _ _ _ _ _ v.l D ω).A ?_;rintro e I ⟨rfl,s,G⟩))
   rotate_left
   all_goals
    refine⟨⟨k+1,ω,ν,?_,K.l.j ((E.l.A x).j G)⟩,by simp[intOf];omega⟩;rw[N.l,<-Ji];exact .inr s
  have f:k=d.length:=ω
  subst f;have x:=m.size;have n:=Z t;clear t;rw[DA,<-A.l]at n;go_wp2_with (go_at_call 77;refine(Al _ _ _ _ n.l x).A ?_;rintro e I ⟨rfl,s⟩);go_ret;refine⟨?_,p.j ((m.j s).A p.size)⟩;have e:(⟨F.data.toList.toArray⟩:ByteArray)=F:=σ
  first|rw[<-e];rfl|(simp;rfl)
def LT(d:List (List Ch))(n:Int):Int:=(d.map λb=>MY (KZ b).size n).sum
theorem tx(l:Nat)(n:Int):0<=MY l n/\MY l n<=(l:Int)+1:=by
 unfold MY NA
 split
 ·split
  ·omega
  have h:=KJ (l-1) (56-n).toNat
  obtain⟨q,d⟩:∃q,q=(l-1) / (56-n).toNat:=⟨_,rfl⟩;rw[<-d]at h⊢;omega
 omega
theorem an(b:List Ch):(KZ b).size<=2460:=by
 unfold KZ
 split
 ·rename_i h
  obtain⟨f,d⟩:=WO h;have:=sd b d;omega
 simp
theorem ky(n:Int):LT [] n=0:=rfl
theorem dy(d:List (List Ch))(b:List Ch)(n:Int):LT (d++[b]) n=LT d n+MY (KZ b).size n:=by simp[LT]
theorem ZP(d:List (List Ch))(n:Int):0<=LT d n/\LT d n<=2461*(d.length:Int):=by
 induction d with
 | nil=>exact⟨Int.le_refl _,by simp[LT]⟩
 | cons b r i =>
  have e:LT (b::r) n=MY (KZ b).size n+LT r n:=by simp[LT]
  have f:=tx (KZ b).size n;have h:=an b;rw[e,CA];omega
theorem ZY{α:Type}(l:List α)(k:Nat)(d:α)(h:k<l.length):l.take (k+1)=l.take k++[l.getD k d]:=by
 rw[AX h];simp[List.getD,h]
theorem qk(a:Option Addr)(f:List Pr)(c:Nat)(n:Int)(w:World)(h:Prs w a f)(R:f.length<=1048576)(F:∀x∈f,x.1.size<=1048576/\x.2.size<=1048576):Calls prog 23 #[.agg #[.slice a f.length c],.int .i64 n] w λe w'=>e=.returned (.int .i64 (LT (LI f) n))/\Below w.heap.size w w':=by
 have d:Below w.heap.size w (w.alloc (.cells #[.slice a f.length c] 31)):=KW _ _;have hv:=qM a f c (w.alloc (.cells #[.slice a f.length c] 31)) (h.z d) R F;have i:=Z hv;have l:=Z d;clear hv d;obtain⟨d,k⟩:∃d,d=LI f:=⟨_,rfl⟩;have L:=ZI f
 have K:Hid (∀b∈d,b.length<=1048576/\∀x∈b,x.1.size<=1048576/\x.2.1.size<=1048576):=by
  intro b j;rw[k]at j;obtain⟨p,m⟩:=mb j;exact⟨ω,λx o=>F _ (m x o)⟩
 rw[<-k]at i L⊢;clear k;go_enter func23,ntmps23;go_wp2_with (go_at_call 65;refine i.l.A ?_;rintro e G ⟨v,rfl,j,k⟩);obtain⟨va,vc,rfl,m⟩:=j.bts;have H:=Z m;have z:=Z (l.l.j (k.A l.l.size));clear j k m i l;go_loopw [5,7] (λy i wr=>∃k:Nat,k<=d.length/\i=.int .i64 (k:Int)/\y=.int .i64 (LT (d.take k) n)/\Below G.heap.size G wr) (λ_ i _=>d.length-(intOf i).toNat)
 case atStart=>exact⟨0,AO _,rfl,rfl,AC _ _⟩
 case round =>
  obtain⟨k,hk,rfl,rfl,l⟩:=hrel
  by_cases t:k<d.length
  ·obtain⟨g,p,M,rfl,hg,Q,s⟩:=(H.l.z l).at t
   have T:(k:Int)<(d.length:Int):=ω
   have X:(0:Int)<=(k:Int):=ω
   have m:=K.l (d.getD k []) (by simp[List.getD,t]);have i:=Z (dy (d.take k) (d.getD k []) n);rw[<-ZY d k [] t]at i;have N:=ZP (d.take k) n;have U:(d.take k).length<=5:=by rw[BF];omega
   have u:=tx (KZ (d.getD k [])).size n;have C:=an (d.getD k []);obtain⟨b,j⟩:∃b,b=d.getD k []:=⟨_,rfl⟩;rw[<-j]at Q s m i u C;obtain⟨r,E⟩:∃r,r=LT (d.take k) n:=⟨_,rfl⟩;rw[<-E]at i N⊢;have x:=Z (λW (O:Chs W p b)=>dh p b M W O m.1 m.2);have o:=Z (λW=>wC (KZ b) n W ω);have I:=Z s;have y:=Z l;obtain⟨q,D⟩:∃q,q=MY (KZ b).size n:=⟨_,rfl⟩;rw[<-D]at o u i;obtain⟨B,A⟩:∃B,B=KZ b:=⟨_,rfl⟩;rw[<-A]at x o u C;have W:IntKind.i64.wrap (r+q)=r+q:=by simp[IntKind.wrap,IntKind.bits,IntKind.signed];omega
   clear j E D A m s l
   go_wp2_with (first|(go_at_call 25;refine(x.l _ I.l).A ?_;rintro e s ⟨rfl,j⟩)|(go_at_call 66;refine(o.l _).A ?_;rintro e A ⟨rfl,m⟩))
   refine⟨⟨k+1,ω,ν,?_,?_⟩,by simp[intOf];omega⟩
   ·rw[i.l]
   exact y.l.j ((j.j (m.A j.size)).A y.l.size)
  have i:k=d.length:=ω
  subst i;go_wp2;go_ret;exact⟨σ,z.l.j (l.A z.l.size)⟩
theorem zN(a:Option Addr)(f:List Pr)(c:Nat)(n:Int)(w:World)(h:Prs w a f)(M:f.length<=c)(T:f.length<=1048576)(F:∀x∈f,x.1.size<=1048576/\x.2.size<=1048576):Calls prog 79 #[.agg #[.slice a f.length c],.int .i64 n] w λe w'=>e=.returned (.int .i64 (LT (LI f) n))/\Below w.heap.size w w':=by
 have d:Below w.heap.size w (w.alloc (.cells #[.slice a f.length c] 31)):=KW _ _;have hv:=qB a f c (w.alloc (.cells #[.slice a f.length c] 31)) (h.z d) M T F;have i:=Z hv;have l:=Z d;clear hv d;obtain⟨d,k⟩:∃d,d=LI f:=⟨_,rfl⟩;have L:=ZI f
 have K:Hid (∀b∈d,b.length<=1048576/\∀x∈b,x.1.size<=1048576/\x.2.1.size<=1048576):=by
  intro b j;rw[k]at j;obtain⟨p,m⟩:=mb j;exact⟨ω,λx o=>F _ (m x o)⟩
 rw[<-k]at i L⊢;clear k;go_enter func79,ntmps79;go_wp2_with (go_at_call 115;refine i.l.A ?_;rintro e G ⟨v,rfl,j,k⟩;obtain⟨va,vc,rfl,m⟩:=j.bts);have H:=Z m;have z:=Z (l.l.j (k.A l.l.size));clear j k m i l;go_loopw [5,11] (λy i wr=>∃k:Nat,k<=d.length/\i=.int .i64 (k:Int)/\y=.int .i64 (LT (d.take k) n)/\Below G.heap.size G wr) (λ_ i _=>d.length-(intOf i).toNat)
 case atStart=>exact⟨0,AO _,rfl,rfl,AC _ _⟩
 case round =>
  obtain⟨k,hk,rfl,rfl,l⟩:=hrel
  by_cases t:k<d.length
  ·obtain⟨g,p,N,rfl,hg,R,s⟩:=(H.l.z l).at t
   have U:(k:Int)<(d.length:Int):=ω
   have aZ:(0:Int)<=(k:Int):=ω
   have m:=K.l (d.getD k []) (by simp[List.getD,t]);have i:=Z (dy (d.take k) (d.getD k []) n);rw[<-ZY d k [] t]at i;have O:=ZP (d.take k) n;have X:(d.take k).length<=5:=by rw[BF];omega
   have u:=tx (KZ (d.getD k [])).size n;have C:=an (d.getD k []);obtain⟨b,j⟩:∃b,b=d.getD k []:=⟨_,rfl⟩;rw[<-j]at R s m i u C;obtain⟨r,E⟩:∃r,r=LT (d.take k) n:=⟨_,rfl⟩;rw[<-E]at i O⊢;have x:=Z (λW (Q:Chs W p b)=>vm p b N W Q m.1 m.2);have o:=Z (λW=>uy (KZ b) n W ω);have I:=Z s;have y:=Z l;obtain⟨q,D⟩:∃q,q=MY (KZ b).size n:=⟨_,rfl⟩;rw[<-D]at o u i;obtain⟨B,A⟩:∃B,B=KZ b:=⟨_,rfl⟩;rw[<-A]at x o u C;have W:IntKind.i64.wrap (r+q)=r+q:=by simp[IntKind.wrap,IntKind.bits,IntKind.signed];omega
   clear j E D A m s l
   go_wp2_with (first|(go_at_call 31;refine(x.l _ I.l).A ?_;rintro e s ⟨rfl,j⟩)|(go_at_call 32;refine(o.l _).A ?_;rintro e A ⟨rfl,m⟩))
   refine⟨⟨k+1,ω,ν,?_,?_⟩,by simp[intOf];omega⟩
   ·rw[i.l]
   exact y.l.j ((j.j (m.A j.size)).A y.l.size)
  have i:k=d.length:=ω
  subst i;go_wp2;go_ret;exact⟨σ,z.l.j (l.A z.l.size)⟩
def RT(T H F R:Int):Bool:=decide (0<=T/\T<=1000000000) && decide (0<=R/\R<=60000) && decide (0<=H/\H<=1) && decide (1<=F/\F<=999999000)
def NE(W S L T H F R U O:Int)(d:List Pr):Bool:=decide (1<=W/\W<=8) && decide (8<=S/\S<=200) && decide (1<=L/\L<=60000) && RT T H F R && decide (0<=U/\U<=hv S) && decide (0<=O/\O<=U) && LV d && decide (LT (LI d) W<=hv S-1)
theorem dg(n f d:Int)(b:Bool)(h:decide (f<=n/\n<=d)=b)(w:World):Calls prog 39 #[.int .i64 n,.int .i64 f,.int .i64 d] w λe w'=>e=.returned (.bool b)/\w'=w:=by
 subst h
 by_cases i:f<=n<;>by_cases j:n<=d<;>(go_enter func39,ntmps39;go_wp2;go_ret;simp[i,j])
theorem PJ(h:8<=S/\S<=200):3<=hv S/\hv S<=99:=by unfold hv;rw[AF h];omega
theorem YQ(h:¬(8<=S/\S<=200)):hv S=0:=by unfold hv;rw[AG h]
theorem qL(W S L T H F R U O:Int)(d:List Pr)(h:¬(1<=W/\W<=8)\/¬(8<=S/\S<=200)\/¬(1<=L/\L<=60000)\/RT T H F R=false\/¬(0<=U/\U<=hv S)\/¬(0<=O/\O<=U)\/LV d=false\/¬(LT (LI d) W<=hv S-1)):NE W S L T H F R U O d=false:=by
 unfold NE;rcases h with h|h|h|h|h|h|h|h<;>simp[h]
theorem fx(T H F R:Int)(h:¬(0<=T/\T<=1000000000)\/¬(0<=R/\R<=60000)\/¬(0<=H/\H<=1)\/¬(1<=F/\F<=999999000)):RT T H F R=false:=by
 unfold RT;rcases h with h|h|h|h<;>simp[h]
theorem kx(W S L T H F R U O:Int)(a:Option Addr)(f:List Pr)(c:Nat)(w:World)(h:Prs w a f)(N:f.length<=1048576)(X:∀x∈f,x.1.size<=1048576/\x.2.size<=1048576):Calls prog 19 #[MM W S L T H F R U O a f.length c] w λe w'=>e=.returned (.bool (NE W S L T H F R U O f))/\Below w.heap.size w w':=by
 unfold MM
 have aH:∀o,Below w.heap.size w (w.alloc o):=λo=>KW _ _
 have q:∀o p,Below w.heap.size w ((w.alloc o).alloc p):=λo p=>(KW _ _).alloc σ _
 have B:=Z (λo p=>pi a f c ((w.alloc o).alloc p) (h.z (q o p)) N X);have A:=Z (λl (h2:Below w.heap.size w l)=>qk a f c W l (h.z h2) N X);obtain⟨E,r⟩:∃E,Hid (E=NE W S L T H F R U O f):=⟨_,Z rfl⟩;rw[<-r.l];obtain⟨Q,d⟩:∃Q,Q=hv S:=⟨_,rfl⟩;have j:=Z d;have k:=qL W S L T H F R U O f;rw[<-r.l,<-d]at k;have i:=Z k;clear k d
 by_cases s:1<=W/\W<=8
 rotate_left
 focus
  have o:decide (1<=W/\W<=8)=false:=AJ s;have d:E=false:=i.l (.inl (s))
 rotate_left
 focus
  have o:decide (1<=W/\W<=8)=true:=AM s
  by_cases n:8<=S/\S<=200
  rotate_left
  focus
   have d2:decide (8<=S/\S<=200)=false:=AJ n;have K:Q=0:=by rw[j.l];exact YQ n
   subst K;have d:E=false:=i.l (.inr (.inl (n)))
  rotate_left
  focus
   have d2:decide (8<=S/\S<=200)=true:=AM n;have aL:3<=Q/\Q<=99:=by rw[j.l];exact PJ n
   have K:¬Q=0:=ω
   by_cases t:1<=L/\L<=60000
   rotate_left
   focus
    have d3:decide (1<=L/\L<=60000)=false:=AJ t;have d:E=false:=i.l (.inr (.inr (.inl (t))))
   rotate_left
   focus
    have d3:decide (1<=L/\L<=60000)=true:=AM t
    by_cases u:0<=T/\T<=1000000000
    rotate_left
    focus
     have d4:decide (0<=T/\T<=1000000000)=false:=AJ u;have d:E=false:=i.l (.inr (.inr (.inr (.inl (fx T H F R (.inl (u)))))))
    rotate_left
    focus
     have d4:decide (0<=T/\T<=1000000000)=true:=AM u
     by_cases v:0<=H/\H<=1
     rotate_left
     focus
      have d5:decide (0<=H/\H<=1)=false:=AJ v;have d:E=false:=i.l (.inr (.inr (.inr (.inl (fx T H F R (.inr (.inr (.inl (v)))))))))
     rotate_left
     focus
      have d5:decide (0<=H/\H<=1)=true:=AM v
      by_cases x:1<=F/\F<=999999000
      rotate_left
      focus
       have d6:decide (1<=F/\F<=999999000)=false:=AJ x;have d:E=false:=i.l (.inr (.inr (.inr (.inl (fx T H F R (.inr (.inr (.inr (x)))))))))
      rotate_left
      focus
       have d6:decide (1<=F/\F<=999999000)=true:=AM x
       by_cases y:0<=R/\R<=60000
       rotate_left
       focus
        have d7:decide (0<=R/\R<=60000)=false:=AJ y;have d:E=false:=i.l (.inr (.inr (.inr (.inl (fx T H F R (.inr (.inl (y))))))))
       rotate_left
       focus
        have d7:decide (0<=R/\R<=60000)=true:=AM y
        by_cases p:0<=U/\U<=Q
        rotate_left
        focus
         have d8:decide (0<=U/\U<=Q)=false:=AJ p;have d:E=false:=i.l (.inr (.inr (.inr (.inr (.inl (p))))))
        rotate_left
        focus
         have d8:decide (0<=U/\U<=Q)=true:=AM p
         by_cases z:0<=O/\O<=U
         rotate_left
         focus
          have d9:decide (0<=O/\O<=U)=false:=AJ z;have d:E=false:=i.l (.inr (.inr (.inr (.inr (.inr (.inl (z)))))))
         rotate_left
         focus
          have d9:decide (0<=O/\O<=U)=true:=AM z
          cases dS:LV f with
          | false =>
           have d:E=false:=i.l (.inr (.inr (.inr (.inr (.inr (.inr (.inl (dS))))))));subst d;go_enter func19,ntmps19
           go_wp2_with (first|(go_at_call 22;refine(XD _ _).A ?_;rw[<-j.l];refine NC ?_)|(go_at_call 37;refine(QO _ _).A ?_;rw[o];refine NC ?_)|(go_at_call 39;refine(dg _ _ _ _ (by assumption) _).A ?_;refine NC ?_)|(go_at_call 41;refine(B.l _ _).A ?_;rw[dS];rintro e l ⟨rfl,k⟩))
           go_ret;exact⟨rfl,(q _ _).j (k.A ξ)⟩
          | true =>
           have hR:=ZP (LI f) W;have aK:=ZI f;obtain⟨G,I⟩:∃G,Hid (G=LT (LI f) W):=⟨_,Z rfl⟩;rw[<-I.l]at hR A i
           have d:E=decide (G<=Q-1):=by
            rw[r.l,I.l,j.l];rw[j.l]at p;unfold NE RT;simp[s,n,t,u,v,x,y,p,z,dS]
           have aM:IntKind.i64.wrap (Q-1)=Q-1:=by simp[IntKind.wrap,IntKind.bits,IntKind.signed];omega
           clear i r
           by_cases M:G<=Q-1
           ·have D:decide (G<=Q-1)=true:=AM M
            rw[D]at d;subst d;go_enter func19,ntmps19
            go_wp2_with (first|(go_at_call 22;refine(XD _ _).A ?_;rw[<-j.l];refine NC ?_)|(go_at_call 37;refine(QO _ _).A ?_;rw[o];refine NC ?_)|(go_at_call 39;refine(dg _ _ _ _ (by assumption) _).A ?_;refine NC ?_)|(go_at_call 41;refine(B.l _ _).A ?_;rw[dS];rintro e l ⟨rfl,k⟩;have aI:l.cell? ⟨w.heap.size,0,none⟩=some (.int .i64 W):=NX k γ;have aJ:l.cell? ⟨w.heap.size,9,none⟩=some (.slice a f.length c):=NX k γ;have m:=Z ((q _ _).j (k.A ξ)))|(go_at_call 23;refine(A.l _ m.l).A ?_;rintro e w3 ⟨rfl,C⟩))
            go_ret;exact⟨rfl,m.l.j (C.A m.l.size)⟩
           have D:decide (G<=Q-1)=false:=AJ M
           rw[D]at d;subst d;go_enter func19,ntmps19
           go_wp2_with (first|(go_at_call 22;refine(XD _ _).A ?_;rw[<-j.l];refine NC ?_)|(go_at_call 37;refine(QO _ _).A ?_;rw[o];refine NC ?_)|(go_at_call 39;refine(dg _ _ _ _ (by assumption) _).A ?_;refine NC ?_)|(go_at_call 41;refine(B.l _ _).A ?_;rw[dS];rintro e l ⟨rfl,k⟩;have aI:l.cell? ⟨w.heap.size,0,none⟩=some (.int .i64 W):=NX k γ;have aJ:l.cell? ⟨w.heap.size,9,none⟩=some (.slice a f.length c):=NX k γ;have m:=Z ((q _ _).j (k.A ξ)))|(go_at_call 23;refine(A.l _ m.l).A ?_;rintro e w3 ⟨rfl,C⟩))
           go_ret;exact⟨rfl,m.l.j (C.A m.l.size)⟩
    all_goals
     subst d;go_enter func19,ntmps19
     go_wp2_with (first|(go_at_call 22;refine(XD _ _).A ?_;rw[<-j.l];refine NC ?_)|(go_at_call 37;refine(QO _ _).A ?_;rw[o];refine NC ?_)|(go_at_call 39;refine(dg _ _ _ _ (by assumption) _).A ?_;refine NC ?_))
     go_ret;exact⟨rfl,q _ _⟩
 all_goals
  subst d;go_enter func19,ntmps19
  go_wp2_with (first|(go_at_call 22;refine(XD _ _).A ?_;rw[<-j.l];refine NC ?_)|(go_at_call 37;refine(QO _ _).A ?_;rw[o];refine NC ?_)|(go_at_call 39;refine(dg _ _ _ _ (by assumption) _).A ?_;refine NC ?_))
  go_ret;exact⟨rfl,aH _⟩
theorem qn(n:Int)(w:World):Calls prog 110 #[.int .i64 n] w λe w'=>e=.returned (.bool (decide (0<=n/\n<=1)))/\w'=w:=by
 go_enter func110,ntmps110
 by_cases d:n=0
 ·subst d;go_wp2;go_ret;simp
 by_cases f:n=1
 ·subst f;go_wp2;go_ret;simp
 have h:decide (0<=n/\n<=1)=false:=τ
 rw[h];go_wp2;go_ret;simp[d,f]
theorem mY(n:Int)(w:World):Calls prog 111 #[.int .i64 n] w λe w'=>e=.returned (.bool (decide (1<=n/\n<=999999000)))/\w'=w:=by
 go_enter func111,ntmps111
 by_cases d:1<=n<;>by_cases f:n<=999999000<;>(go_wp2;go_ret;simp[d,f])
theorem ru(T H F R:Int)(w:World):Calls prog 69 #[.agg #[.int .i64 T,.int .i64 H,.int .i64 F,.int .i64 R]] w λe w'=>e=.returned (.bool (RT T H F R))/\Below w.heap.size w w':=by
 have j:∀o,Below w.heap.size w (w.alloc o):=λo=>KW _ _
 obtain⟨E,f⟩:∃E,Hid (E=RT T H F R):=⟨_,Z rfl⟩;rw[<-f.l];unfold RT at f
 by_cases m:0<=T
 rotate_left
 focus
  have d:E=false:=by rw[f.l];simp;omega
 rotate_left
 focus
  by_cases n:T<=1000000000
  rotate_left
  focus
   have d:E=false:=by rw[f.l];simp;omega
  rotate_left
  focus
   by_cases o:0<=R
   rotate_left
   focus
    have d:E=false:=by rw[f.l];simp;omega
   rotate_left
   focus
    by_cases p:R<=60000
    rotate_left
    focus
     have d:E=false:=by rw[f.l];simp;omega
    rotate_left
    focus
     by_cases k:0<=H/\H<=1
     case neg =>
      have h:decide (0<=H/\H<=1)=false:=AJ k;have d:E=false:=by rw[f.l,h];simp
      subst d;go_enter func69,ntmps69
      go_wp2_with (first|(go_at_call 110;refine(qn _ _).A ?_;rw[h];refine NC ?_))
      go_ret;exact⟨rfl,j _⟩
     have h:decide (0<=H/\H<=1)=true:=AM k
     by_cases l:1<=F/\F<=999999000
     case neg =>
      have i:decide (1<=F/\F<=999999000)=false:=AJ l;have d:E=false:=by rw[f.l,i];simp
      subst d;go_enter func69,ntmps69
      go_wp2_with (first|(go_at_call 110;refine(qn _ _).A ?_;rw[h];refine NC ?_)|(go_at_call 111;refine(mY _ _).A ?_;rw[i];refine NC ?_))
      go_ret;exact⟨rfl,j _⟩
     have i:decide (1<=F/\F<=999999000)=true:=AM l;have d:E=true:=by rw[f.l,h,i];simp;omega
     subst d;go_enter func69,ntmps69
     go_wp2_with (first|(go_at_call 110;refine(qn _ _).A ?_;rw[h];refine NC ?_)|(go_at_call 111;refine(mY _ _).A ?_;rw[i];refine NC ?_))
     go_ret;exact⟨rfl,j _⟩
 all_goals
  subst d;go_enter func69,ntmps69;go_wp2;go_ret;exact⟨rfl,j _⟩
theorem yt(n Q:Int)(h:Q=hv n)(w:World):Calls prog 70 #[.int .i64 n] w λe w'=>e=.returned (.int .i64 Q)/\w'=w:=by rw[h];exact ek n w
theorem su(W S L T H F R U O:Int)(a:Option Addr)(d:List Pr)(c:Nat)(w:World)(h:Prs w a d)(s:d.length<=c)(t:d.length<=1048576)(u:∀x∈d,x.1.size<=1048576/\x.2.size<=1048576):Calls prog 33 #[MM W S L T H F R U O a d.length c] w λe w'=>e=.returned (.bool (decide (LT (LI d) W<=hv S-1)))/\Below w.heap.size w w':=by
 unfold MM;obtain⟨f,i⟩:∃f,f=w.alloc (.cells (sK W S L T H F R U O (.slice a d.length c)) 33):=⟨_,rfl⟩;have v:f.cell? ⟨w.heap.size,0,none⟩=some (.int .i64 W):=by rw[i];go_simp
 have x:f.cell? ⟨w.heap.size,1,none⟩=some (.int .i64 S):=by rw[i];go_simp
 have y:f.cell? ⟨w.heap.size,9,none⟩=some (.slice a d.length c):=by rw[i];go_simp
 have k:Below w.heap.size w f:=by rw[i];exact KW _ _
 have l:w.heap.size<f.heap.size:=by rw[i];simp
 have m:Hid (∀w',Below f.heap.size f w'->w'.cell? ⟨w.heap.size,0,none⟩=some (.int .i64 W)/\w'.cell? ⟨w.heap.size,1,none⟩=some (.int .i64 S)/\w'.cell? ⟨w.heap.size,9,none⟩=some (.slice a d.length c)/\Below f.heap.size f w'):=λw' j=>⟨(j.cell (p:=⟨w.heap.size,0,none⟩) l).j v,(j.cell (p:=⟨w.heap.size,1,none⟩) l).j x,(j.cell (p:=⟨w.heap.size,9,none⟩) l).j y,j⟩
 have o:=Z (zN a d c W f.drew (h.z k.drew) s t u);have r:=ZP (LI d) W;have z:=ZI d;have q:0<=hv S/\hv S<=99:=by by_cases h:8<=S/\S<=200;have:=PJ h;omega;rw[YQ h];omega
 obtain⟨G,p⟩:∃G,Hid (G=LT (LI d) W):=⟨_,Z rfl⟩;obtain⟨Q,j⟩:∃Q,Hid (Q=hv S):=⟨_,Z rfl⟩;rw[<-p.l]at r o⊢;rw[<-j.l]at q⊢;have A:IntKind.i64.wrap (Q-1)=Q-1:=by simp[IntKind.wrap,IntKind.bits,IntKind.signed];omega
 have n:=Z k;clear k;go_enter func33,ntmps33;go_wp2_with fail;rw[<-i];clear i
 go_region_held3 (λw'=>w'.cell? ⟨w.heap.size,0,none⟩=some (.int .i64 W)/\w'.cell? ⟨w.heap.size,1,none⟩=some (.int .i64 S)/\w'.cell? ⟨w.heap.size,9,none⟩=some (.slice a d.length c)/\Below f.heap.size f w')
  (first|assumption|exact m.l _ ((AC _ _).drew)|exact m.l _ ((AC _ _).drew.j i))
  (first|(go_at_call 79;refine o.l.A ?_;rintro e k ⟨rfl,i⟩)|(go_at_call 70;refine(ek _ _).A ?_;rw[<-j.l];rintro e B ⟨rfl,rfl⟩))
 all_goals
  go_wp2;go_ret;exact⟨rfl,n.l.j (((AC _ _).drew.j i).A n.l.size)⟩
theorem kz(W S L T H F R U O:Int)(a:Option Addr)(i:List Pr)(c:Nat)(w:World)(h:Prs w a i)(hc:i.length<=c)(hl:i.length<=1048576)(M:∀x∈i,x.1.size<=1048576/\x.2.size<=1048576):Calls prog 28 #[MM W S L T H F R U O a i.length c] w λe w'=>e=.returned (.bool (NE W S L T H F R U O i))/\Below w.heap.size w w':=by
 unfold MM;have aH:=Z (λw2 (K:Below w.heap.size w w2)=>nn a i c w2 (h.z K) hl M);have D:=Z (λw2 (K:Below w.heap.size w w2)=>su W S L T H F R U O a i c w2 (h.z K) hc hl M);unfold MM at D;clear h M;obtain⟨E,C⟩:∃E,Hid (E=NE W S L T H F R U O i):=⟨_,Z rfl⟩;rw[<-C.l];obtain⟨Q,d⟩:∃Q,Q=hv S:=⟨_,rfl⟩;have y:=Z d;have f:=qL W S L T H F R U O i;rw[<-C.l,<-d]at f;rw[<-d]at D;have j:=Z f;clear f d;go_enter func28,ntmps28;go_upto_region 1 with fail;generalize f:w.alloc _=v1;obtain⟨d,l,k⟩:=LF f;have r:=k.q;clear f l k;obtain⟨l,m,n,o,p,q,s,t,u,v,x⟩:=c10 r
 by_cases G:1<=W/\W<=8
 case neg =>
  have z:=AJ G;obtain rfl:E=false:=j.l (.inl G);go_wp2_with (go_at_call 45;refine(RX _ _).A ?_;rw[z];refine NC ?_);go_ret;exact⟨rfl,d⟩
 have z:=AM G
 by_cases A:8<=S/\S<=200
 case neg =>
  have B:=AJ A;obtain rfl:E=false:=j.l (.inr (.inl A))
  go_wp2_with (first|(go_at_call 45;refine(RX _ _).A ?_;rw[z];refine NC ?_)|(go_at_call 44;refine(mj _ _).A ?_;rw[B];refine NC ?_))
  go_ret;exact⟨rfl,d⟩
 have B:=AM A;have aJ:3<=Q/\Q<=99:=by rw[y.l];exact PJ A
 go_upto_region 3 with (first|(go_at_call 45;refine(RX _ _).A ?_;rw[z];refine NC ?_)|(go_at_call 44;refine(mj _ _).A ?_;rw[B];refine NC ?_))
 by_cases c3:1<=L
 case neg =>
  obtain rfl:E=false:=j.l (.inr (.inr (.inl (λk=>c3 k.1))));go_wp2;go_ret;exact⟨rfl,d⟩
 by_cases N:L<=60000
 case neg =>
  obtain rfl:E=false:=j.l (.inr (.inr (.inl (λk=>N k.2))));go_wp2;go_ret;exact⟨rfl,d⟩
 go_wp2_with fail;clear l m n o p q s t u v x;refine(ru T H F R _).A ?_;rintro e v2 ⟨rfl,f⟩;replace r:=r.z f;replace d:=d.j (f.A d.size);clear f;obtain⟨l,m,n,o,p,q,s,t,u,v,x⟩:=c10 r
 cases d4:RT T H F R with
 | false =>
  obtain rfl:E=false:=j.l (.inr (.inr (.inr (.inl d4))));go_wp2_with fail;go_ret;exact⟨rfl,d⟩
 | true =>
  have aF:=Z d4;clear d4;go_upto_region 7 with fail;go_cut [28] from 29 to 39 (λf I=>f=.bool (decide (¬(0<=U/\U<=Q)))/\Below v2.heap.size v2 I)
  case first =>
   by_cases I:0<=U
   case neg =>
    go_quiet ((go_at_call 70;exact Calls.quiet_of_same (yt _ _ y.l _)));go_wp2_with fail;go_meet;exact⟨by rw[show decide (¬(0<=U/\U<=Q))=true by simp only[BC];omega],below_drewN (AC _ _) nq⟩
   by_cases f:U<=Q
   case neg =>
    go_quiet ((go_at_call 70;exact Calls.quiet_of_same (yt _ _ y.l _)));go_wp2_with fail;go_meet;exact⟨by rw[show decide (¬(0<=U/\U<=Q))=true by simp only[BC];omega],below_drewN (AC _ _) nq⟩
   go_quiet ((go_at_call 70;exact Calls.quiet_of_same (yt _ _ y.l _)));go_wp2_with fail;go_meet
   exact⟨by rw[show decide (¬(0<=U/\U<=Q))=false by simp only[GV];omega,show decide (Q<U)=false by simp only[GV];omega];simp;try omega,below_drewN (AC _ _) nq⟩
  case rest =>
  clear l m n o p q s t u v x;obtain⟨rfl,f⟩:=hcut
  rename World=>v3
  replace r:=r.z f;replace d:=d.j (f.A d.size);clear f;obtain⟨l,m,n,o,p,q,s,t,u,v,x⟩:=c10 r
  by_cases I:0<=U/\U<=Q
  case neg =>
   obtain rfl:E=false:=j.l (.inr (.inr (.inr (.inr (.inl I)))));rw[show decide (¬(0<=U/\U<=Q))=true by simp only[BC];omega];go_wp2_with fail;go_ret;exact⟨rfl,d⟩
  rw[show decide (¬(0<=U/\U<=Q))=false by simp only[GV];omega]
  by_cases c6:0<=O
  case neg =>
   obtain rfl:E=false:=j.l (.inr (.inr (.inr (.inr (.inr (.inl (λk=>c6 k.1)))))));go_wp2_with fail;go_ret;exact⟨rfl,d⟩
  by_cases X:O<=U
  case neg =>
   obtain rfl:E=false:=j.l (.inr (.inr (.inr (.inr (.inr (.inl (λk=>X k.2)))))));go_wp2_with fail;go_ret;exact⟨rfl,d⟩
  go_wp2_with fail;clear l m n o p q s t u v x;have k:=aH.l _ d;refine k.A ?_;rintro e v4 ⟨rfl,f⟩;replace r:=r.z f;replace d:=d.j (f.A d.size);clear f k;obtain⟨l,m,n,o,p,q,s,t,u,v,x⟩:=c10 r
  cases d7:LV i with
  | false =>
   obtain rfl:E=false:=j.l (.inr (.inr (.inr (.inr (.inr (.inr (.inl d7)))))));go_wp2_with fail;go_ret;exact⟨rfl,d⟩
  | true =>
   have k:=Z d7;clear d7;go_wp2_with fail;refine(D.l _ d).A ?_;rintro e v5 ⟨rfl,f⟩;replace d:=d.j (f.A d.size);clear f
   have f:E=decide (LT (LI i) W<=Q-1):=by
    rw[C.l];unfold NE;rw[z,B,aF.l,k.l,AM (⟨c3,N⟩:1<=L/\L<=60000),AM (⟨c6,X⟩:0<=O/\O<=U),<-y.l,AM I];simp
   subst f;clear l m n o p q s t u v x;go_wp2_with fail;go_ret;exact⟨rfl,d⟩
structure Wo where
 w:Int
 ss:List ByteArray
 ws:List (Int×ByteArray)
 up:Bool
 W:Int
 S:Int
 L:Int
 T:Int
 H:Int
 F:Int
 R:Int
 U:Int
 O:Int
 rs:List (ByteArray×ByteArray)
 P:List (List (ByteArray×ByteArray))
 ts:List ByteArray
structure Wp where
 a:Option Addr
 c:Nat
 a':Option Addr
 c':Nat
 s:Option Addr
 cs:Nat
 p:Option Addr
 cp:Nat
 t:Option Addr
 ct:Nat
def LO(x:Wo)(q:Wp):Value:=.agg #[.int .i64 x.w,.slice q.a x.ss.length q.c,.slice q.a' x.ws.length q.c',.bool x.up,.int .i64 x.W,.int .i64 x.S,.int .i64 x.L,.int .i64 x.T,.int .i64 x.H,.int .i64 x.F,.int .i64 x.R,.int .i64 x.U,.int .i64 x.O,.slice q.s x.rs.length q.cs,.slice q.p x.P.length q.cp,.slice q.t x.ts.length q.ct]
structure Wo.at(x:Wo)(w:World)(q:Wp):Prop where
 h1:Strs w q.a x.ss
 h2:Wrs w q.a' x.ws
 h3:Prs w q.s x.rs
 h4:Pst w q.p x.P
 h5:Strs w q.t x.ts
theorem Wo.at.z{x:Wo}{q:Wp}(h:x.at w q)(d:Below w.heap.size w w'):x.at w' q:=⟨h.h1.z d,h.h2.z d,h.h3.z d,h.h4.z d,h.h5.z d⟩
structure Wo.le(x:Wo)(m:Nat):Prop where
 l1:x.ss.length<=m
 s1:∀s∈x.ss,s.size<=m
 l2:x.ws.length<=m
 s2:∀s∈x.ws,s.2.size<=m
 l3:x.rs.length<=m
 s3:∀s∈x.rs,s.1.size<=m/\s.2.size<=m
 l4:x.P.length<=m
 s4:∀rs∈x.P,rs.length<=m/\∀s∈rs,s.1.size<=m/\s.2.size<=m
 l5:x.ts.length<=m
 s5:∀s∈x.ts,s.size<=m
@[reducible] def wA(x:Wo)(q:Wp):Array Value:=#[.int .i64 x.w,.slice q.a x.ss.length q.c,.slice q.a' x.ws.length q.c',.bool x.up,.int .i64 x.W,.int .i64 x.S,.int .i64 x.L,.int .i64 x.T,.int .i64 x.H,.int .i64 x.F,.int .i64 x.R,.int .i64 x.U,.int .i64 x.O,.slice q.s x.rs.length q.cs,.slice q.p x.P.length q.cp,.slice q.t x.ts.length q.ct]
@[reducible] def wL(x:Wo)(q:Wp):List Value:=[.int .i64 x.w,.slice q.a x.ss.length q.c,.slice q.a' x.ws.length q.c',.bool x.up,.int .i64 x.W,.int .i64 x.S,.int .i64 x.L,.int .i64 x.T,.int .i64 x.H,.int .i64 x.F,.int .i64 x.R,.int .i64 x.U,.int .i64 x.O,.slice q.s x.rs.length q.cs,.slice q.p x.P.length q.cp,.slice q.t x.ts.length q.ct]
def QA(x:Wo):Bool:=decide (x.W=0/\x.S=0/\x.L=0/\(x.T=0/\x.H=0/\x.F=0/\x.R=0)/\x.U=0/\x.O=0/\x.rs.length=0)
def PX(x:Wo):Bool:=if x.up=true then NE x.W x.S x.L x.T x.H x.F x.R x.U x.O x.rs && decide (x.W=x.w/\x.S=(x.ss.length:Int)) else QA x
def PT(P:List (List (ByteArray×ByteArray))):Bool:=decide (1<=P.length/\P.length<=200) && P.all LV
def QR(d:List ByteArray):Bool:=decide (d.length<=2000) && d.all λs=>decide (s.size=64)
def MP(x:Wo):Bool:=decide (1<=x.w/\x.w<=8) && (LG x.ss x.ws && (PX x && (PT x.P && QR x.ts)))
theorem xT(a:Option Addr)(P:List (List (ByteArray×ByteArray)))(c:Nat)(w:World)(h:Pst w a P)(I:P.length<=1048576)(z:∀d∈P,d.length<=1048576/\∀s∈d,s.1.size<=1048576/\s.2.size<=1048576):Calls prog 49 #[.slice a P.length c] w λe w'=>e=.returned (.bool (PT P))/\Below w.heap.size w w':=by
 by_cases j:P.length<1
 ·have e:PT P=false:=by unfold PT;rw[AJ ω];rfl
  rw[e];have C:(P.length:Int)<1:=ω
  go_enter func49,ntmps49;go_wp2;go_ret;exact⟨rfl,AC _ _⟩
 have C:¬(P.length:Int)<1:=ω
 by_cases l:200<P.length
 ·have e:PT P=false:=by unfold PT;rw[AJ ω];rfl
  rw[e];have D:(200:Int)<(P.length:Int):=ω
  go_enter func49,ntmps49;go_wp2;go_ret;exact⟨rfl,AC _ _⟩
 have D:¬(200:Int)<(P.length:Int):=ω
 have u:Hid (∀k,k<P.length->LV (P.getD k [])=false->PT P=false):=λk f i=>by
  unfold PT;have:P.all LV=false:=FW.2 ⟨P.getD k [],by simp[List.getD,f],by rw[i];simp⟩;rw[this,IH]
 have x:Hid ((∀k,k<P.length->LV (P.getD k [])=true)->PT P=true):=λi=>by
  unfold PT;rw[AM ω,IB]
  refine DO.2 λd m=>?_
  obtain⟨k,f,rfl⟩:=FG m;have:=i k f;simpa[List.getD,f] using this
 obtain⟨B,A⟩:∃B,Hid (B=PT P):=⟨_,Z rfl⟩;rw[<-A.l]at u x⊢;clear j l;go_enter func49,ntmps49;go_wp2;go_loopw [4,15] (λ_ i wr=>∃k:Nat,k<=P.length/\i=.int .i64 (k:Int)/\Hid (∀j,j<k->LV (P.getD j [])=true)/\Below w.heap.size w wr) (λ_ i _=>P.length-(intOf i).toNat)
 case atStart=>exact⟨0,AO _,rfl,λj s=>absurd s ω,AC _ _⟩
 case round =>
  obtain⟨k,f,rfl,t,l⟩:=hrel
  by_cases r:k<P.length
  ·obtain⟨b,o,p,F,rfl,H,E,v⟩:=(h.z l).at r
   obtain⟨d,n⟩:∃d,Hid (d=P.getD k []):=⟨_,Z rfl⟩;rw[<-n.l]at E v;have y:d∈P:=by rw[n.l];simp[List.getD,r]
   have i:=Z (λm=>nn p d F (wr.alloc m) (v.l.z (MF _ _)) (z d y).1 (z d y).2);have m:=Z l;clear l
   cases hst:LV d with
   | false =>
    rw[hst]at i;obtain rfl:B=false:=u.l k r (by rw[<-n.l];exact hst);go_wp2_with (go_at_call 71;refine(i.l _).A ?_;rintro e G ⟨rfl,q⟩);go_ret;exact⟨rfl,m.l.j (((MF wr _).j (q.A σ)).A m.l.size)⟩
   | true =>
    rw[hst]at i;go_wp2_with (go_at_call 71;refine(i.l _).A ?_;rintro e G ⟨rfl,q⟩);go_roundw
    case rel=>exact⟨k+1,ω,ν,λj s=>by
     by_cases e:j=k
     ·subst e;rw[<-n.l];exact hst
     exact t.l j ω,m.l.j (((MF wr _).j (q.A σ)).A m.l.size)⟩
    case measure=>simp[intOf];omega
  obtain rfl:B=true:=x.l (λj s=>t.l j ω)
  go_wp2;go_ret;exact⟨rfl,l⟩
theorem Cn(a:Option Addr)(d:List ByteArray)(c:Nat)(w:World)(h:Strs w a d)(A:d.length<=1048576)(x:∀s∈d,s.size<=1048576):Calls prog 50 #[.slice a d.length c] w λe w'=>e=.returned (.bool (QR d))/\Below w.heap.size w w':=by
 by_cases j:2000<d.length
 ·have e:QR d=false:=by unfold QR;rw[AJ ω];rfl
  rw[e];have v:(2000:Int)<(d.length:Int):=ω
  go_enter func50,ntmps50;go_wp2;go_ret;exact⟨rfl,AC _ _⟩
 have v:¬(2000:Int)<(d.length:Int):=ω
 have p:Hid (∀k,k<d.length->¬(d.getD k empty).size=64->QR d=false):=λk f i=>by
  unfold QR;have:(d.all λs=>decide (s.size=64))=false:=FW.2 ⟨d.getD k empty,by simp[List.getD,f],by simpa using i⟩;rw[this,IH]
 have q:Hid ((∀k,k<d.length->(d.getD k empty).size=64)->QR d=true):=λi=>by
  unfold QR;rw[AM ω,IB]
  refine DO.2 λs l=>?_
  obtain⟨k,f,rfl⟩:=FG l;have:=i k f;simpa[List.getD,f] using this
 obtain⟨B,t⟩:∃B,Hid (B=QR d):=⟨_,Z rfl⟩;rw[<-t.l]at p q⊢;clear j;go_enter func50,ntmps50;go_wp2;go_loopw [4,10] (λ_ i wr=>∃k:Nat,k<=d.length/\i=.int .i64 (k:Int)/\Hid (∀j,j<k->(d.getD j empty).size=64)/\wr=w) (λ_ i _=>d.length-(intOf i).toNat)
 case atStart=>exact⟨0,AO _,rfl,λj m=>absurd m ω,rfl⟩
 case round =>
  obtain⟨k,f,rfl,n,rfl⟩:=hrel
  by_cases l:k<d.length
  ·obtain⟨b,o,s,rfl,z,i⟩:=h.at l
   have y:=x s (by rw[i.l];simp[List.getD,l])
   by_cases r:s.size=64
   ·have u:(s.size:Int)=64:=ω
    go_wp2;go_roundw
    case rel=>exact⟨k+1,ω,ν,λj m=>by
     by_cases e:j=k
     ·subst e;rw[<-i.l];exact r
     exact n.l j ω,by first|rfl|trivial⟩
    case measure=>simp[intOf];omega
   have u:¬(s.size:Int)=64:=ω
   obtain rfl:B=false:=p.l k l (by rw[<-i.l];exact r);go_wp2;go_ret;exact⟨rfl,AC _ _⟩
  obtain rfl:B=true:=q.l (λj m=>n.l j ω)
  go_wp2;go_ret;exact⟨rfl,AC _ _⟩
theorem eo:(prog.info? 136).map (λi=>(i.zero,i.size,i.bytes))=some (some (.agg #[.string empty,.string empty]),2,32):=κ
theorem WP{e:TypeId}{z:Value}{d f:Nat}(h:(P.info? e).map (λi=>(i.zero,i.size,i.bytes))=some (some z,d,f)):∃i,P.info? e=some i/\i.zero=some z/\i.size=d/\i.bytes=f:=by
 obtain⟨i,k,j⟩:=EM.1 h;simp only[EG]at j;exact⟨i,k,j⟩
theorem mR(n:Nat)(h:0<n):Builtin.nextslicecap n 0=n:=by
 unfold Builtin.nextslicecap;simp;omega
theorem Hv(t p e:TypeId)(i:TypeInfo)(z:Value)(h r:Nat)(o:P.underlying t=some (.slice e))(m:P.info? e=some i)(F:i.zero=some z)(A:i.size=h)(D:i.bytes=r)
  (d:Option Addr)(s:d=none\/∃b,d=some ⟨b,0,none⟩)(v:Value)(n:Nat)(f:List Value)(k:Src P h t v n f w)(G:n<=1048576)(C:n*r<=281474976710656):∃q j l,(Builtin.append_ #[t,t] p #[.slice d 0 0,v]).run P w=.ok (.slice q n j) l/\n<=j/\(n=0\/(q=some ⟨w.heap.size,0,none⟩/\Row l w.heap.size f))/\Below w.heap.size w l:=by
 subst A D
 by_cases E:n=0
 ·subst E
  have q:f=[]:=AB (by have:=k.newsLen;omega);subst q;rcases s with rfl|⟨b,rfl⟩
  ·refine⟨none,0,w,?_,Y _,.inl rfl,AC _ _⟩
   rcases k.kind with ⟨l,j⟩|j<;>simp[Builtin.append_,FZ o,FZ j,sizeOf,typeInfo,m,k.len,k.cells]
  have l:=run_append_room_src (P:=P) w t t p e i o m b 0 0 0 v 0 [] k ω σ σ
  exact⟨_,_,_,l,Y _,.inl rfl,AC _ _⟩
 have B:(Builtin.firstCells i.size 0 (.slice d 0 0)).run P w.drew=.ok ([]:List Value).toArray w.drew:=by
  rcases s with rfl|⟨b,rfl⟩
  ·simp[Builtin.firstCells,JD]
  exact GC w.drew i.size 0 _ 0 0 [] σ σ
 have l:=run_append_grow_src (P:=P) w t t p e i z o m F d 0 0 [] B v n f k ω ω (by rw[BH,mR n ω];exact C);refine⟨_,_,_,by rw[l,BH],?_,.inr ⟨rfl,?_⟩,(AC _ _).drew.alloc (Y _) _⟩
 ·have:=JA w (0+n) 0 e
  rw[BH]at this;exact this
 have x:=LU w.drew ((([]:List Value)++f).toArray++Builtin.zeroCells z.cells (grownCap w (0+n) 0 e-(0+n))) e;refine⟨σ,λj u y=>?_,λj q=>?_⟩
 ·have:=x.cell j u (by
   obtain⟨q,_⟩:=CW.1 y
   simp[BA q,y])
  simpa using this
 have:=x.froz j τ
 simpa using this
theorem xu{r:Array Oper}{q:List Oper}{o:Oper}{a:Act}{Q:Exit->Act->World->Prop}(E:o.guard=none)(s x:Operand)(t:TypeId)
  (N:o.op=.call { callee:=.builtin .append,args:=#[s,x],argTypes:=#[t,t] })(e:TypeId)(i:TypeInfo)(z:Value)(j p:Nat)(R:P.underlying t=some (.slice e))(L:P.info? e=some i)(U:i.zero=some z)(y:i.size=j)(D:i.bytes=p)
  (d:Option Addr)(O:a.eval s=.slice d 0 0)(u:d=none\/∃b,d=some ⟨b,0,none⟩)(v:Value)(T:a.eval x=v)(n:Nat)(f:List Value)(B:Src P j t v n f w)(M:n<=1048576)(C:n*p<=281474976710656)
  (h:∀m k l,n<=k->(n=0\/(m=some ⟨w.heap.size,0,none⟩/\Row l w.heap.size f))->Below w.heap.size w l->wpList P r Q q (a.put o.dst (.slice m n k)) l):wpList P r Q (o::q) a w:=by
 refine IN E λK I=>?_
 obtain⟨m,k,l,A,F,G,H⟩:=Hv (P:=P) (w:=w) t o.type e i z j p R L U y D d u v n f B M C;unfold Oper.wp;simp[execOp,N,resolve,invoke,builtin,O,T,A,Result.andThen];exact I _ _ (h m k l F G H)
theorem sQ{d:List (ByteArray×ByteArray)}(h:Prs w a d)(t e:TypeId)(k:P.underlying t=some (.slice e))(c:Nat):Src P 2 t (.slice a d.length c) d.length (LH d) w:=by
 rcases h with h|⟨b,o,rfl,s,m⟩
 ·subst h
  cases a with
  | none=>exact Src.ofNil w k c
  | some x=>exact Src.ofSlice w k x 0 c [] σ σ σ
 refine Src.ofSlice w k ⟨b,o,none⟩ d.length c _ (XL d) (λj u f=>?_) (λu f=>?_)
 ·obtain⟨p,e⟩:=CW.1 f
  rw[XL]at p;have l:(⟨b,o,none⟩:Addr).add j=⟨b,o+j,none⟩:=by unfold Addr.add;split<;>simp_all
  obtain⟨q,r⟩:∃q,j=q*2\/j=q*2+1:=⟨j / 2,ω⟩;have i:q<d.length:=ω
  have n:=ja d q i;rcases r with rfl|rfl
  ·rw[l,(m q i).1,<-f,n.1]
  rw[l,<-KO,(m q i).2,<-f,n.2]
 unfold LH at f
 obtain⟨x,_,i⟩:=IL.1 f;simp at i;rcases i with rfl|rfl<;>rfl
def gp(w w':World)(e:Ending)(d:List (ByteArray×ByteArray)):Prop:=∃a c,e=.returned (LQ a d.length c)/\d.length<=c/\OwnS w' a (LH d)/\(∀g,blk a d.length=some g->w.heap.size<=g)/\Below w.heap.size w w'
theorem pS{k:World}{i:Option Addr}{f:List (ByteArray×ByteArray)}{H:Nat}(h:f.length=0\/(i=some ⟨H,0,none⟩/\Row k H (LH f)))(l:w.heap.size<=H):OwnS k i (LH f)/\(∀g,blk i f.length=some g->w.heap.size<=g/\g=H):=by
 rcases h with h|⟨rfl,m⟩
 ·have:f=[]:=AB h
  subst this
  exact⟨.inl rfl,λg d=>by cases d⟩
 refine⟨.inr ⟨H,rfl,m⟩,λg d=>?_⟩
 by_cases j:f.length=0
 ·rw[j]at d;cases d
 rw[MS _ _ _ j]at d;cases d;exact⟨l,rfl⟩
theorem lk(a:Option Addr)(d:List (ByteArray×ByteArray))(c:Nat)(w:World)(h:Prs w a d)(s:d.length<=1048576):Calls prog 63 #[LQ a d.length c] w λe w'=>gp w w' e d:=by
 obtain⟨t,f,i,k,l⟩:=WP eo;have j:=Z (AH f (AH i (AH k l)));clear f i k l
 have o:∀f i k,Below w.heap.size w (((w.alloc f).alloc i).alloc k):=λf i k=>((KW _ _).alloc σ _).alloc τ _
 go_enter func63,ntmps63;go_wp2_with (at_builtin;refine xu rfl _ _ 29 rfl 136 t _ 2 32 underlying29 j.l.1 j.l.2.1 j.l.2.2.1 j.l.2.2.2 _ rfl (.inr ⟨_,rfl⟩) _ rfl d.length _ (sQ (h.z (o _ _ _)) _ _ underlying29 c) s ω ?_;intro m i l p n f;have r:l.cell? ⟨w.heap.size+1,0,none⟩=some (.slice none 0 0):=NX f γ;have v:l.frozen? ⟨w.heap.size+1,0,none⟩=false:=SC f γ;have q:=Z ((o _ _ _).j (f.A ξ));have k:=Z (pS (w:=w) n τ);have u:w.heap.size+1<l.heap.size:=AD σ f.size;clear n f);refine AI (v:=LQ m d.length i) (by simp[results,results63,go_sem,r]) rfl ⟨m,i,rfl,p,?_,λg f=>(k.l.2 g f).1,q.l.setCell (by show w.heap.size<=w.heap.size+1;omega) _⟩;rcases k.l.1 with f|⟨g,rfl,f⟩
 ·exact .inl f
 by_cases n:d.length=0
 ·exact .inl (by rw[AB n];rfl)
 have:=(k.l.2 g (MS _ _ _ n)).2
 exact .inr ⟨g,rfl,f.other _ (by show w.heap.size+1≠g;rw[this];simp<;>omega) _⟩
structure Dd where
 (C W S L T H F R U O:Int)
 rs:List Pr
 ops:List OpT
def MV(d:Dd)(a:Option Addr)(c:Nat)(b:Option Addr)(e:Nat):Value:=.agg #[.int .i64 d.C,.int .i64 d.W,.int .i64 d.S,.int .i64 d.L,.int .i64 d.T,.int .i64 d.H,.int .i64 d.F,.int .i64 d.R,.int .i64 d.U,.int .i64 d.O,.slice a d.rs.length c,.slice b d.ops.length e]
def ac(a:Option Addr)(n:Nat)(b:Option Addr)(m:Nat):Prop:=blk a n=none\/blk b m=none\/blk a n≠blk b m
structure OwnDn(w:World)(rs:List Pr)(ops:List OpT)(a b:Option Addr):Prop where
 s:OwnS w a (LH rs)
 p:OwnS w b (NJ ops)
 ne:ac a rs.length b ops.length
theorem OwnDn.z{i:List Pr}{d:List OpT}(h:OwnDn w i d a b)(f:Below w.heap.size w w'):OwnDn w' i d a b:=⟨h.s.z f,h.p.z f,h.ne⟩
theorem OwnS.prs{d:List Pr}(h:OwnS w a (LH d)):Prs w a d:=by
 rcases h with h|⟨g,rfl,h⟩
 ·exact .inl (by have:=BY List.length h;rw[XL,AR]at this;exact AB ω)
 exact h.prs
theorem OwnS.ops{d:List OpT}(h:OwnS w a (NJ d)):Ops w a d:=by
 rcases h with h|⟨g,rfl,h⟩
 ·exact .inl (by have:=BY List.length h;rw[mH,AR]at this;exact AB ω)
 exact h.ops
theorem fd{d:List Pr}(h:d.length≠0):LH d≠[]:=λe=>h (by have:=BY List.length e;rw[XL,AR]at this;omega)
theorem sH{d:List OpT}(h:d.length≠0):NJ d≠[]:=λe=>h (by have:=BY List.length e;rw[mH,AR]at this;omega)
theorem RA{d:List Pr}(h:LH d≠[]):d.length≠0:=λe=>h (by rw[AB e];rfl)
theorem jr{d:List OpT}(h:NJ d≠[]):d.length≠0:=λe=>h (by rw[AB e];rfl)
def TR(w w':World)(x:Ending)(d:Dd):Prop:=∃a c b e,x=.returned (MV d a c b e)/\d.rs.length<=c/\OwnDn w' d.rs d.ops a b/\(∀g,blk a d.rs.length=some g->w.heap.size<=g)/\(∀g,blk b d.ops.length=some g->w.heap.size<=g)/\Below w.heap.size w w'
def LD(C:Int):Dd:=⟨C,0,0,0,0,0,0,0,0,0,[],[]⟩
theorem OwnS.set'(h:OwnS w a cs)(p:Addr)(f:∀g,a=some ⟨g,0,none⟩->cs≠[]->p.block≠g)(v:Value):OwnS (w.setCell p v) a cs:=by
 by_cases d:cs=[]
 ·exact .inl d
 obtain⟨g,rfl,i⟩:=h.resolve_left d
 exact .inr ⟨g,rfl,i.other p (f g rfl d) v⟩
theorem OwnS.alloc'(h:OwnS w a cs)(o:Obj):OwnS (w.alloc o) a cs:=h.z (KW _ _)
theorem dz{A:Array Value}{t:TypeId}(d:w.heap.size=g):Row (w.alloc (.cells A t)) g A.toList:=by subst d;exact LU w A t
theorem Eh{x:Ending}{C:Int}(f:x=.returned (MV (LD C) a c b e))(d:Below w.heap.size w w'):TR w w' x (LD C) :=⟨a,c,b,e,f,AO _,⟨.inl rfl,.inl rfl,.inl rfl⟩,λg h=>(by cases h),λg h=>(by cases h),d⟩
theorem OwnS.drew'(h:OwnS w a cs):OwnS w.drew a cs:=h.z (AC _ _).drew
def MA(d:Int)(l:List ByteArray):List OpT:=l.mapIdx λi p=>(false,d+(i:Int),p)
theorem Iu(d:Int):MA d []=[]:=rfl
theorem ji(d:Int)(l:List ByteArray)(p:ByteArray):MA d (l++[p])=MA d l++[(false,d+(l.length:Int),p)]:=by simp[MA,List.mapIdx_append]
theorem RF(d:Int)(l:List ByteArray):(MA d l).length=l.length:=by simp[MA]
def yx(L F:Int)(n m:Nat)(d:List ByteArray)(b:List Ch):List ByteArray:=d++NV (KZ b) L (F+(d.length:Int)) n m
def LW(L F:Int)(n m:Nat)(d:List (List Ch)):List ByteArray:=d.foldl (yx L F n m) [LS 3 L F empty (n:Int)]
theorem am(L F:Int)(n m:Nat):LW L F n m []=[LS 3 L F empty (n:Int)]:=rfl
theorem fu(L F:Int)(n m:Nat)(d:List (List Ch))(b:List Ch):LW L F n m (d++[b])=LW L F n m d++NV (KZ b) L (F+((LW L F n m d).length:Int)) n m:=by
 unfold LW;rw[IF];rfl
theorem vB(s:ByteArray)(l f:Int)(n m:Nat)(i:n+m=56)(d:1<=n)(h:n<=8):((NV s l f n m).length:Int)<=MY s.size (n:Int):=by
 have e:(56-(n:Int)).toNat=m:=ω
 unfold MY;rw[AF ω,e];unfold NV
 split
 ·rw[WX];omega
 simp
theorem ae(L F:Int)(n m:Nat)(o:n+m=56)(i:1<=n)(j:n<=8)(d:List (List Ch)):((LW L F n m d).length:Int)<=1+LT d (n:Int):=by
 obtain⟨k,f⟩:∃k,k=d.length:=⟨_,rfl⟩
 induction k generalizing d with
 | zero=>rw[AB f.symm,am,ky];simp
 | succ k p =>
  obtain⟨b,bs,rfl⟩:∃b bs,d=bs++[b]:=by
   rcases EF d with h|⟨l,a,h⟩
   ·subst h;simp at f
   exact⟨a,l,by simpa using h⟩
  have:=p bs (by simp at f;omega);rw[fu,dy,AE];have:=vB (KZ b) L (F+((LW L F n m bs).length:Int)) n m o i j;omega
theorem pW(d:List (List Ch))(k:Nat)(n:Int):LT (d.take k) n<=LT d n:=by
 have e:LT d n=LT (d.take k) n+LT (d.drop k) n:=by
  unfold LT;rw[<-List.sum_append,<-CY,FN]
 have:=(ZP (d.drop k) n).1;omega
def XN(W S L T H F:Int)(d:List Pr):Prop:=(1<=W/\W<=8)/\(8<=S/\S<=200)/\(1<=L/\L<=60000)/\(0<=T/\T<=1000000000)/\(0<=H/\H<=1)/\(1<=F/\F<=999999000)/\LT (LI d) W<=hv S-1
def WB(S T F:Int):Bool:=decide (T+1<=1000000000/\F+hv S<=999999000)
def TN(W S L T H F:Int)(d:List Pr):Dd:=⟨0,W,S,L,T+1,1-H,F+hv S,L,((LW L (F+hv S) W.toNat (56-W.toNat) (LI d)).length:Int),0,d,MA (2+(1-H)*hv S) (LW L (F+hv S) W.toNat (56-W.toNat) (LI d))++[(true,0,empty),(false,(T+1) % 2,MB (T+1) (1-H) (F+hv S) L W),(true,0,empty)]⟩
def OH(W S L T H F:Int)(d:List Pr):Dd:=if WB S T F=true then TN W S L T H F d else LD 4
def PZ(W S L T H F R U O:Int)(d:List Pr):Dd:=if NE W S L T H F R U O d=true then OH W S L T H F d else LD 1
theorem ni{W L T H F R U O:Int}{d:List Pr}(h:NE W S L T H F R U O d=true):XN W S L T H F d:=by
 unfold NE RT at h;simp only[BE,BC]at h;obtain⟨⟨⟨⟨⟨⟨⟨f,i⟩,j⟩,⟨⟨k,_⟩,l⟩,m⟩,_⟩,_⟩,_⟩,n⟩:=h;exact⟨f,i,j,k,l,m,n⟩
theorem Ie(W S L T H F R U O:Int)(d:List Pr)(i:d.length<=1048576):(PZ W S L T H F R U O d).rs.length<=1048576/\(PZ W S L T H F R U O d).ops.length<=1000:=by
 unfold PZ OH
 cases h:NE W S L T H F R U O d with
 | false=>simp[LD]
 | true =>
  cases h2:WB S T F with
  | false=>simp[LD]
  | true =>
   obtain⟨⟨l,k⟩,f,m,n,o,p,q⟩:=ni h;have r:=PJ f;have j:=ae L (F+hv S) W.toNat (56-W.toNat) ω ω ω (LI d);rw[show((W.toNat:Nat):Int)=W by omega]at j;simp only[GZ,TN,AE,RF];refine⟨i,?_⟩;simp;omega
section
theorem TH:(prog.info? 48).map (·.size)=some 12:=κ
theorem PC:(prog.info? 33).map (·.size)=some 10:=κ
@[reducible] def UL(d:Dd)(a:Option Addr)(c:Nat)(b:Option Addr)(e:Nat):List Value:=[.int .i64 d.C,.int .i64 d.W,.int .i64 d.S,.int .i64 d.L,.int .i64 d.T,.int .i64 d.H,.int .i64 d.F,.int .i64 d.R,.int .i64 d.U,.int .i64 d.O,.slice a d.rs.length c,.slice b d.ops.length e]
structure StB(w v:World)(cs:List Value)(M:World->Prop):Prop where
 e:Below w.heap.size w v
 r1:Row v w.heap.size cs
 r2:Row v (w.heap.size+1) [.int .i64 0,.int .i64 0,.int .i64 0,.int .i64 0,.int .i64 0,.int .i64 0,.int .i64 0,.int .i64 0,.int .i64 0,.int .i64 0,.slice none 0 0,.slice none 0 0]
 m:DepF v (λb=>b≠w.heap.size/\b≠w.heap.size+1) M
section
variable {w v v':World} {cs cs':List Value} {M N:World->Prop}
theorem StB.z(h:StB w v cs M)(d:Below v.heap.size v v'):StB w v' cs M:=⟨h.e.j (d.A h.e.size),h.r1.z d,h.r2.z d,h.m.z d⟩
theorem StB.low{B:Nat}(h:StB w v cs (λ_=>True))(d:Below B v v')(f:w.heap.size+1<B):StB w v' cs (λ_=>True) :=⟨h.e.j (d.A ω),VQ h.r1 (d.block _ ω) (AD h.r1.lt d.size),VQ h.r2 (d.block _ ω) (AD h.r2.lt d.size),SK (λ_=>trivial)⟩
theorem StB.put(h:StB w v cs M)(d:v.grownBy v' (some w.heap.size))(f:Row v' w.heap.size cs'):StB w v' cs' M :=⟨h.e.j (MR d h.e.size (λx e=>by have e:=CZ e;omega)),f,h.r2.I d (λe=>by injection e with e;omega),h.m.I d (λg e k=>by cases e;exact k.1 rfl)⟩
theorem StB.set(h:StB w v cs M)(i:Nat)(d:i<cs.length)(u:Value):StB w (v.setCell ⟨w.heap.size,i,none⟩ u) (cs.set i u) M:=h.put (OG (BO _ _) _ _) (h.r1.set i d u)
theorem StB.aside{X:Nat}(h:StB w v cs (λ_=>True))(d:v.grownBy v' (some X))(f:w.heap.size+1<X):StB w v' cs (λ_=>True) :=⟨h.e.j (MR d h.e.size (λx e=>by have e:=CZ e;omega)),h.r1.I d (λe=>by injection e with e;omega),h.r2.I d (λe=>by injection e with e;omega),SK (λ_=>trivial)⟩
theorem sj(w:World)(o:Obj):Below w.heap.size w (w.alloc o):=KW _ _
theorem StB.add(h:StB w v cs M)(k:DepF v (λb=>b≠w.heap.size/\b≠w.heap.size+1) N):StB w v cs (λW=>M W/\N W):=⟨h.e,h.r1,h.r2,h.m.and k⟩
theorem StB.fin(h:StB w v cs M)(D:Dd)(a:Option Addr)(c:Nat)(b:Option Addr)(e:Nat)(j:D.rs.length<=c)(d:OwnDn v D.rs D.ops a b)(f:∀g,blk a D.rs.length=some g->w.heap.size+2<=g)(i:∀g,blk b D.ops.length=some g->w.heap.size+2<=g):Row (v.setCells (w.heap.size+1) 0 (UL D a c b e)) (w.heap.size+1) (UL D a c b e)/\TR w (v.setCells (w.heap.size+1) 0 (UL D a c b e)) (.returned (MV D a c b e)) D:=by
 have G:=OQ v (w.heap.size+1) 0 (UL D a c b e);have l:=(PD (lo:=w.heap.size+2) d.s RA f).I G (λg e=>by cases e;omega);have m:=(PD (lo:=w.heap.size+2) d.p jr i).I G (λg e=>by cases e;omega);exact⟨h.r2.sets _ rfl,a,c,b,e,rfl,j,⟨l.q,m.q,d.ne⟩,λg k=>by have:=f g k;omega,λg k=>by have:=i g k;omega,h.e.j (MR G h.e.size (λx e=>by have e:=CZ e;omega))⟩
theorem StB.no(h:StB w v cs M)(C:Int):Row (v.setCells (w.heap.size+1) 0 [.int .i64 C,.int .i64 0,.int .i64 0,.int .i64 0,.int .i64 0,.int .i64 0,.int .i64 0,.int .i64 0,.int .i64 0,.int .i64 0,.slice none 0 0,.slice none 0 0]) (w.heap.size+1) (UL (LD C) none 0 none 0)/\TR w (v.setCells (w.heap.size+1) 0 [.int .i64 C,.int .i64 0,.int .i64 0,.int .i64 0,.int .i64 0,.int .i64 0,.int .i64 0,.int .i64 0,.int .i64 0,.int .i64 0,.slice none 0 0,.slice none 0 0]) (.returned (MV (LD C) none 0 none 0)) (LD C) :=h.fin (LD C) none 0 none 0 (Y _) ⟨.inl rfl,.inl rfl,.inl rfl⟩ (λg k=>by cases k) (λg k=>by cases k)
theorem StB.noR(h:StB w v cs M)(C:Int){q:Nat}{d f:Oper}{a:Act}{Q:Exit->Act->World->Prop}(x y:Operand)(l:d.guard=none)(hv:(execOp a.eval d).run prog v=.ok (.value (.agg #[.int .i64 C,.int .i64 0,.int .i64 0,.int .i64 0,.int .i64 0,.int .i64 0,.int .i64 0,.int .i64 0,.int .i64 0,.int .i64 0,.slice none 0 0,.slice none 0 0])) v)(m:f.guard=none)(n:f.op=.store 48 x y)(o:(a.put d.dst (.agg #[.int .i64 C,.int .i64 0,.int .i64 0,.int .i64 0,.int .i64 0,.int .i64 0,.int .i64 0,.int .i64 0,.int .i64 0,.int .i64 0,.slice none 0 0,.slice none 0 0])).eval x=.pointer (some ⟨w.heap.size+1,0,none⟩))(p:(a.put d.dst (.agg #[.int .i64 C,.int .i64 0,.int .i64 0,.int .i64 0,.int .i64 0,.int .i64 0,.int .i64 0,.int .i64 0,.int .i64 0,.int .i64 0,.slice none 0 0,.slice none 0 0])).eval y=.agg #[.int .i64 C,.int .i64 0,.int .i64 0,.int .i64 0,.int .i64 0,.int .i64 0,.int .i64 0,.int .i64 0,.int .i64 0,.int .i64 0,.slice none 0 0,.slice none 0 0])
  (k:∀u,Row u (w.heap.size+1) (UL (LD C) none 0 none 0)->Hid (TR w u (.returned (MV (LD C) none 0 none 0)) (LD C))->wpList prog [d,f].toArray Q [] ((a.put d.dst (.agg #[.int .i64 C,.int .i64 0,.int .i64 0,.int .i64 0,.int .i64 0,.int .i64 0,.int .i64 0,.int .i64 0,.int .i64 0,.int .i64 0,.slice none 0 0,.slice none 0 0])).put f.dst undef) u):(Code.region q [d,f].toArray false).wp prog Q a v:=by
 obtain⟨j,i⟩:=h.no C;exact BG (UB l _ hv (BI m _ x y n (w.heap.size+1) 0 _ o p (h.r2.there rfl) TH κ (k _ j (Z i))))
end
theorem ZV{n m N:Nat}(d:∀g,blk a n=some g->g<N)(f:∀g,blk b m=some g->N<=g):ac a n b m:=by
 cases h:blk a n with
 | none=>exact .inl h
 | some g=>exact .inr (.inr λe=>by rw[h]at e;have:=d g h;have:=f g e.symm;omega)
theorem Ao{n m N:Nat}(d:∀g,blk a n=some g->N<=g)(f:∀g,blk b m=some g->g<N):ac a n b m:=by
 cases h:blk a n with
 | none=>exact .inl h
 | some g=>exact .inr (.inr λe=>by rw[h]at e;have:=d g h;have:=f g e.symm;omega)
theorem ZW{d:List Pr}(h:OwnS w a (LH d))(k:blk a d.length=some g):g<w.heap.size:=by
 rcases h with h|⟨j,rfl,i⟩
 ·have e:d.length=0:=by have:=BY List.length h;rw[XL,AR]at this;omega
  rw[e]at k
  cases a<;>simp[blk]at k
 by_cases f:d.length=0
 ·rw[f]at k;simp[blk]at k
 rw[MS _ _ _ ω]at k
 cases k
 exact i.lt
theorem TP{f:Func}{d:Act}{y:World}{D:Dd}(k:Nat)(j:f.results=#[.cell k 48])(X:Nat)(l:d.tmps.getD k undef=.pointer (some ⟨X,0,none⟩))(m:Row y X (UL D a c b e))(i:d.defers=[])(h:TR w y (.returned (MV D a c b e)) D):bodyPost prog f (λr w'=>TR w w' r D) .ret d y :=VP k 48 j X l (UL D a c b e) _ m underlying48 rfl TH i h
def ex(w w':World)(x:Ending)(d:Dd):Prop:=TR w w' x d/\∀a c b e,x=.returned (MV d a c b e)->d.ops.length<=e
theorem Bt{D:Dd}(d:TR w w' (.returned (MV D a c b e)) D)(l:D.ops.length<=e):ex w w' (.returned (MV D a c b e)) D :=⟨d,λf i h j k=>by simp[MV]at k;have:=k.2.2;omega⟩
theorem VE{f:Func}{d:Act}{y:World}{D:Dd}(k:Nat)(l:f.results=#[.cell k 48])(X:Nat)(m:d.tmps.getD k undef=.pointer (some ⟨X,0,none⟩))(n:Row y X (UL D a c b e))(i:d.defers=[])(h:TR w y (.returned (MV D a c b e)) D)(j:D.ops.length<=e:=by exact Y _):bodyPost prog f (λr w'=>ex w w' r D) .ret d y :=VP k 48 l X m (UL D a c b e) _ n underlying48 rfl TH i (Bt h j)
end
def QG(W S L T H F R U O:Int)(d:List Pr):Dd:=if NE W S L T H F R U O d=true then ⟨0,W,S,L,T,H,F,R,U,0,d,[(true,0,empty)]⟩ else LD 1
theorem Fh(W S L T H F R U O:Int)(a:Option Addr)(f:List Pr)(c:Nat)(w:World)(h:Prs w a f)(z:f.length<=1048576)(A:∀x∈f,x.1.size<=1048576/\x.2.size<=1048576):Calls prog 158 #[MM W S L T H F R U O a f.length c] w λx w'=>TR w w' x (QG W S L T H F R U O f):=by
 have k:=Z (λw' d=>kx W S L T H F R U O a f c w' d z A);have r:=Z h;clear h A;obtain⟨q,p⟩:∃D,Hid (D=QG W S L T H F R U O f):=⟨_,Z rfl⟩;rw[<-p.l];unfold MM at k⊢;go_enter func158,ntmps158;go_upto_region 1 with fail;generalize d:w.alloc _=N;obtain⟨j,m,n⟩:=LF d;clear d;generalize d:N.alloc _=C;obtain⟨l,o,i⟩:=LF d;clear d;rw[m]at i;have d:StB w C (sJ W S L T H F R U O (.slice a f.length c)) (λ_=>True):=⟨j.j (l.A j.size),(n.z l).q,i.q,SK (λ_=>trivial)⟩;have s:w.heap.size+1<C.heap.size:=i.q.lt;clear j l n i m o;refine BG ?_;refine AS rfl 33 _ rfl w.heap.size 0 rfl _ _ d.r1.range underlying33 rfl PC ?_;simp only[J];go_wp2_with fail;refine(k.l _ (r.l.z d.e)).A ?_;rintro x D ⟨rfl,j⟩;replace d:=d.z j;clear j s k
 cases hok:NE W S L T H F R U O f with
 | false =>
  obtain rfl:q=LD 1:=by rw[p.l];unfold QG;rw[AG (by rw[hok];simp)]
  go_upto_region 2 with fail;refine d.noR 1 _ _ rfl γ rfl rfl rfl rfl (λy o k=>?_)
  try simp only[J]
  clear d
  try go_wp2
  refine TP 2 results158 _ ?_ o ?_ k.l<;>rfl
 | true =>
  obtain rfl:q=⟨0,W,S,L,T,H,F,R,U,0,f,[(true,0,empty)]⟩:=by rw[p.l];unfold QG;rw[AF hok]
  clear hok;go_upto_region 3 with fail;refine BG ?_;refine AS rfl 33 _ rfl w.heap.size 0 rfl _ _ d.r1.range underlying33 rfl PC ?_;simp only[J];go_upto_region 4 with fail;generalize i:D.alloc _=E;obtain⟨j,n,m⟩:=LF i;clear i;obtain⟨B,l⟩:∃k,k=D.heap.size:=⟨_,rfl⟩;rw[<-l]at m⊢;have i:=m.q;have lB:w.heap.size+1<B:=by rw[l];exact d.r2.lt
  replace d:=d.z j;clear j m n l;generalize Value.agg _=X;have j:=d.r1.y 9;have o:=d.r1.lt;go_wp2_with fail;clear j o;have o:=lk a f c E (r.l.z d.e) z;unfold LQ at o;refine o.A ?_;rintro x Q ⟨l,m,rfl,K,s,u,j⟩;unfold LQ;have n:=PD (lo:=E.heap.size) s RA u;have l4:=i.lt;replace d:=d.z j;replace i:=i.z j;clear j o s;have j:=i.y 9;have s:=i.y 8;have v:=i.E 9;have t:=i.E 8;have o:=i.lt;go_upto_region 6 with fail;clear j v s t o;have G:=OG (OG (BO Q (some B)) 9 (.slice l f.length m)) 8 (.int .i64 0);replace i:=(i.set 9 σ (.slice l f.length m)).set 8 σ (.int .i64 0);replace d:=d.aside G ω;replace n:=n.I G (λg e=>by cases e;omega);generalize o:World.setCell (World.setCell _ _ _) _ _=j at d i n G⊢;clear o;have l6:=G.size;refine BG ?_
  refine AS rfl 33 _ rfl B 0 rfl _ _ i.range underlying33 rfl PC ?_;simp only[J];have v:=sj j (.cells #[.bool true,.int .i64 0,.string empty] 78);have M:=LU j #[.bool true,.int .i64 0,.string empty] 78;have t:=Z (d.z v);refine UB rfl (.agg #[.bool true,.int .i64 0,.string empty]) (by go_simp;rfl) ?_;simp only[J];refine tw rfl (.slice (some ⟨j.heap.size,0,none⟩) 1 1) (j.alloc (.cells #[.bool true,.int .i64 0,.string empty] 78)) γ ?_;simp only[J];refine UB rfl (.agg (dK 0 W S L T H F R U 0 (.slice l f.length m) (.slice (some ⟨j.heap.size,0,none⟩) 1 1))) γ ?_;simp only[J];refine BI rfl 48 _ _ rfl (w.heap.size+1) 0 (dK 0 W S L T H F R U 0 (.slice l f.length m) (.slice (some ⟨j.heap.size,0,none⟩) 1 1)) rfl rfl (t.l.r2.there rfl) TH κ ?_
  try simp only[J]
  have l5:=i.lt
  have I:ac l f.length (some ⟨j.heap.size,0,none⟩) 1:=ZV (λg k=>ZW n.q k) (λg k=>by rw[MS _ _ _ σ]at k;cases k;exact Y _)
  obtain⟨o,s⟩:=t.l.fin ⟨0,W,S,L,T,H,F,R,U,0,f,[(true,0,empty)]⟩ l m (some ⟨j.heap.size,0,none⟩) 1 K ⟨(n.z v).q,.inr ⟨_,rfl,M⟩,I⟩ (λg k=>by have:=u g k;omega) (λg k=>by rw[MS _ _ _ σ]at k;cases k;omega)
  have k:=Z s;clear s;generalize s:World.setCells _ _ _ _=y at o k⊢;clear s
  try go_wp2
  refine TP 2 results158 _ ?_ o ?_ k.l<;>rfl
theorem ZR(a:Option Addr)(d:List (ByteArray×ByteArray))(c:Nat)(w:World)(h:Prs w a d)(s:d.length<=1048576):Calls prog 53 #[LQ a d.length c] w λe w'=>gp w w' e d:=by
 obtain⟨t,f,i,k,l⟩:=WP eo;have j:=Z (AH f (AH i (AH k l)));clear f i k l
 have o:∀f i,Below w.heap.size w ((w.alloc f).alloc i):=λf i=>(KW _ _).alloc σ _
 go_enter func53,ntmps53;go_wp2_with (at_builtin;refine xu rfl _ _ 29 rfl 136 t _ 2 32 underlying29 j.l.1 j.l.2.1 j.l.2.2.1 j.l.2.2.2 _ rfl (.inl rfl) _ rfl d.length _ (sQ (h.z (o _ _)) _ _ underlying29 c) s ω ?_;intro m i l p n f;have r:l.cell? ⟨w.heap.size+1,0,none⟩=some (.slice none 0 0):=NX f γ;have v:l.frozen? ⟨w.heap.size+1,0,none⟩=false:=SC f γ;have q:=Z ((o _ _).j (f.A ξ));have k:=Z (pS (w:=w) n τ);have u:w.heap.size+1<l.heap.size:=AD σ f.size;clear n f);refine AI (v:=LQ m d.length i) (by simp[results,results53,go_sem,r]) rfl ⟨m,i,rfl,p,?_,λg f=>(k.l.2 g f).1,q.l.setCell (by show w.heap.size<=w.heap.size+1;omega) _⟩;rcases k.l.1 with f|⟨g,rfl,f⟩
 ·exact .inl f
 by_cases n:d.length=0
 ·exact .inl (by rw[AB n];rfl)
 have:=(k.l.2 g (MS _ _ _ n)).2
 exact .inr ⟨g,rfl,f.other _ (by show w.heap.size+1≠g;rw[this];simp<;>omega) _⟩
theorem vy:(prog.info? 78).map (λi=>(i.zero,i.size,i.bytes))=some (some (.agg #[.bool false,.int .i64 0,.string empty]),3,32):=κ
structure Wrt(w:World)(base g:Nat)(v:Value)(os:List OpT)(at_ nm lf wd:Int):Prop where
 row:Row w g [v,.int .i64 at_,.int .i64 nm,.int .i64 lf,.int .i64 wd]
 own:w.ownsRow base 78 3 v os.length (NJ os)
 ge:base<=g
 ne:v.ownBlock≠some g
theorem Wrt.z{d:Nat}{v:Value}{l:List OpT}{f k j m:Int}(h:Wrt w d g v l f k j m)(i:Below w.heap.size w w'):Wrt w' d g v l f k j m:=⟨h.row.z i,LR h.own i,h.ge,h.ne⟩
theorem YO(b:Bool)(n:Int)(s:ByteArray):∀u∈[Value.bool b,.int .i64 n,.string s],u.oneCell'=true:=by
 intro u d;simp only[DX,EE,GR]at d;rcases d with rfl|rfl|rfl<;>rfl
theorem vP(n h:Int)(m:0<=h)(o:h<=1)(w:World):Calls prog 80 #[.int .i64 n,.int .i64 h] w λe w'=>e=.returned (.int .i64 (2+h*hv n))/\w'=w:=by
 have i:0<=hv n/\hv n<=99:=by by_cases h:8<=n/\n<=200;have:=PJ h;omega;rw[YQ h];omega
 obtain⟨Q,f⟩:∃Q,Hid (Q=hv n):=⟨_,Z rfl⟩;rw[<-f.l]at i⊢;obtain⟨q,d⟩:∃q,q=h*Q:=⟨_,rfl⟩
 have j:0<=q/\q<=99:=by
  rcases(show h=0\/h=1 by omega) with e|e
  ·subst e;omega
  subst e;omega
 have k:IntKind.i64.wrap (h*Q)=q:=by rw[<-d];simp[IntKind.wrap,IntKind.bits,IntKind.signed];omega
 have l:IntKind.i64.wrap (2+q)=2+q:=by simp[IntKind.wrap,IntKind.bits,IntKind.signed];omega
 rw[<-d];clear d;go_enter func80,ntmps80;go_wp2_with (go_at_call 70;refine(ek _ _).A ?_;rw[<-f.l];refine NC ?_);go_ret;exact⟨rfl,rfl⟩
theorem om(W S L T H F R U O:Int)(a:Option Addr)(n c:Nat)(w:World)(m:0<=H)(o:H<=1)(t:1<=F)(u:F<=999999000)(u0:0<=U)(u1:U<=99):Calls prog 35 #[MM W S L T H F R U O a n c] w λe w'=>∃g,e=.returned (.pointer (some ⟨g,0,none⟩))/\Wrt w' w.heap.size g (.slice none 0 0) [] (2+H*hv S+U) (F+U) L W/\Below w.heap.size w w':=by
 have v:0<=hv S/\hv S<=99:=by by_cases h:8<=S/\S<=200;have:=PJ h;omega;rw[YQ h];omega
 obtain⟨q,d⟩:∃q,q=H*hv S:=⟨_,rfl⟩
 have p:0<=q/\q<=99:=by
  rcases(show H=0\/H=1 by omega) with e|e
  ·subst e;omega
  subst e;omega
 have k:=Z (λw'=>vP S H m o w');rw[<-d]at k⊢;clear d;have r:IntKind.i64.wrap (2+q+U)=2+q+U:=by simp[IntKind.wrap,IntKind.bits,IntKind.signed];omega
 have s:IntKind.i64.wrap (F+U)=F+U:=by simp[IntKind.wrap,IntKind.bits,IntKind.signed];omega
 unfold MM;obtain⟨d,j⟩:∃d,d=w.alloc (.cells (sK W S L T H F R U O (.slice a n c)) 33):=⟨_,rfl⟩
 have l:Hid (∀w',Below d.heap.size d w'->w'.cell? ⟨w.heap.size,0,none⟩=some (.int .i64 W)/\w'.cell? ⟨w.heap.size,1,none⟩=some (.int .i64 S)/\w'.cell? ⟨w.heap.size,2,none⟩=some (.int .i64 L)/\w'.cell? ⟨w.heap.size,4,none⟩=some (.int .i64 H)/\w'.cell? ⟨w.heap.size,5,none⟩=some (.int .i64 F)/\w'.cell? ⟨w.heap.size,7,none⟩=some (.int .i64 U)):=λw' i=>by
  have f:w.heap.size<d.heap.size:=by rw[j];simp
  refine⟨(i.cell (p:=⟨w.heap.size,0,none⟩) f).j ?_,(i.cell (p:=⟨w.heap.size,1,none⟩) f).j ?_,(i.cell (p:=⟨w.heap.size,2,none⟩) f).j ?_,(i.cell (p:=⟨w.heap.size,4,none⟩) f).j ?_,(i.cell (p:=⟨w.heap.size,5,none⟩) f).j ?_,(i.cell (p:=⟨w.heap.size,7,none⟩) f).j ?_⟩<;>(rw[j];go_simp)
 have f:Hid (Below w.heap.size w d):=by show Below _ _ _;rw[j];exact KW _ _
 go_enter func35,ntmps35;go_wp2_with fail;rw[<-j];clear j
 go_region_held3 (λw'=>w'.cell? ⟨w.heap.size,0,none⟩=some (.int .i64 W)/\w'.cell? ⟨w.heap.size,1,none⟩=some (.int .i64 S)/\w'.cell? ⟨w.heap.size,2,none⟩=some (.int .i64 L)/\w'.cell? ⟨w.heap.size,4,none⟩=some (.int .i64 H)/\w'.cell? ⟨w.heap.size,5,none⟩=some (.int .i64 F)/\w'.cell? ⟨w.heap.size,7,none⟩=some (.int .i64 U))
  (first|assumption|exact l.l _ ((AC _ _).drew)|exact l.l _ ((AC _ _).drew.alloc (Y _) _))
  (first|(go_at_call 80;refine(k.l _).A ?_;rintro e i ⟨rfl,rfl⟩))
 all_goals
  go_wp2;go_ret;refine⟨d.heap.size,rfl,⟨dz (w:=d.drew) rfl,CE _ _ _ _,f.l.size,by simp[Value.ownBlock]⟩,f.l.j (((AC _ _).drew.alloc (Y _) _).A f.l.size)⟩
theorem nc(d g:Nat)(v:Value)(f:List OpT)(s u t A:Int)(w:World)(h:Wrt w d g v f s u t A)(E:d<=w.heap.size)(G:f.length<=1000):Calls prog 102 #[.pointer (some ⟨g,0,none⟩)] w λe w'=>(∃x,e=.returned x)/\(∃i,Wrt w' d g i (f++[(true,0,empty)]) s u t A)/\Below d w w':=by
 obtain⟨H,i,j,k,l⟩:=WP vy;have B:=Z (AH i (AH j (AH k l)));clear i j k l
 obtain⟨x,y,rfl⟩:∃x y,v=Value.slice x f.length y:=by
  rcases MO h.own with ⟨j,n⟩|⟨g,i,j,_⟩
  ·exact⟨none,0,by rw[j,n]⟩
  exact⟨_,i,j⟩
 have K:=h.row.y 0;have M:=h.row.E 0;have I:=h.row.lt;have r:=Z (h.own.alloc (.cells #[.bool true,.int .i64 0,.string ⟨#[]⟩] 78));go_enter func102,ntmps102;go_wp2_with (at_builtin;refine QN _ rfl _ _ 46 rfl d underlying46 B.l rfl ω _ f.length _ rfl r.l ⟨w.heap.size,0,none⟩ 1 1 [.bool true,.int .i64 0,.string ⟨#[]⟩] rfl rfl (World.news_of_block (AW w _)) (YO _ _ _) τ (w.heap.size+1) σ ?_;intro i l z k j o F;have m:=Z ((h.row.alloc _).I j (λe=>h.ne e.symm));have L:=m.l.y 0;have N:=m.l.E 0;have D:=Z k;have C:=Z (TL ((AC d w).alloc E _) r.l j τ);have p:i≠g:=(by rcases o with e|e;exactλn=>h.ne (by rw[<-n];exact e);omega);have q:=Z p;clear k j o p);go_end0;have j:=m.l.set 0 σ (.slice (some ⟨i,0,none⟩) (f.length+1) l)
 refine⟨⟨_,rfl⟩,⟨.slice (some ⟨i,0,none⟩) (f.length+1) l,j,?_,h.ge,by simp[Value.ownBlock];exact q.l⟩,C.l.setCell (p:=⟨g,0,none⟩) h.ge _⟩;have o:z.grownBy (z.setCell ⟨g,0,none⟩ (.slice (some ⟨i,0,none⟩) (f.length+1) l)) (some g):=⟨rfl,rfl,rfl,by simp[World.setCell],λk _ p=>BD _ _ _ k (λe=>p (by rw[e]))⟩;have:=D.l.kept o (.inr (by simp[Value.ownBlock];exact q.l));rw[AE,iz];exact this
theorem Wrt.set{d:Nat}{v:Value}{m:List OpT}{i l j n:Int}(h:Wrt w d g v m i l j n)(b o:Nat)(q:b<d)(u:Value):Wrt (w.setCell ⟨b,o,none⟩ u) d g v m i l j n:=by
 have p:w.grownBy (w.setCell ⟨b,o,none⟩ u) (some b):=⟨rfl,rfl,rfl,by simp[World.setCell],λk _ f=>BD _ _ _ k (λe=>f (by rw[e]))⟩;refine⟨h.row.other _ (by show b≠g;have:=h.ge;omega) _,h.own.kept p ?_,h.ge,h.ne⟩
 cases f:v.ownBlock with
 | none=>exact .inl rfl
 | some k =>
  refine .inr λe=>?_
  cases e
  have:=(h.own.lt b f).1;omega
