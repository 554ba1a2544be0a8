import Derived.Test.YthcfgbpailnahaaGreatDoorPrAq
import Derived.Test.YthcfgbpailnahaaGreatDoorPrFbI
import Derived.Test.YthcfgbpailnahaaGreatDoorPrG27
import Derived.Test.YthcfgbpailnahaaGreatDoorPrFbS
import Derived.Test.YthcfgbpailnahaaGreatDoorPrG28
import Derived.Deep.Cut
import Derived.Deep.CutRange
set_option maxHeartbeats 16000000
set_option maxRecDepth 8000
set_option linter.all false
namespace Go.Proofs.YthcfgbpailnahaaGreatDoor
open Tryz
open Go.RowKit
def xj{T e:TypeId}{B b:Nat}{bs:List Value}{w w':World}(h:Lib.IsBuilder T e B b bs w)(hb:Below w.heap.size w w'):Lib.IsBuilder T e B b bs w':=by
 have aA:∀p,Lib.BuilderAt T e B b p bs w->Lib.BuilderAt T e B b p bs w':=λp hp=>by
  obtain⟨h1,v,h2,h3,h4⟩:=hp
  have aB:b<w.heap.size:=by
   rcases GN b w.heap.size with h|h
   ·exact h
   rw[DW h]at h2;cases h2
  exact⟨h1,v,by rw[hb.block b aB];exact h2,LY h3 hb,h4⟩
 rcases h with h|h
 ·exact .inl (aA _ h)
 exact .inr (aA _ h)
def Ij(f s:ByteArray):Lib.byteCells f.data.toList++Lib.strCells s=Lib.byteCells (f++s).data.toList:=by
 rw[Lib.strCells_eq,<-Lib.byteCells_append]
 congr 1
def Fc(k:ByteArray)(w:World)(hk:k.size<=255):Calls prog 273 #[.agg #[.string k]] w λe w'=>e=.returned (.string (strOfNums [1]++(strOfNums [(k.size:Int)]++k)))/\Below w.heap.size w w':=by
 have aC:∀o,Below w.heap.size w (w.alloc o):=λo=>LG _ _
 have aE:∀o o',Below w.heap.size w ((w.alloc o).alloc o'):=λo o'=>(aC o).alloc (by simp) _
 have aF:∀(x:World) (b:Nat),x.cell? ⟨b,0,none⟩=some (.int .u8 1)->(convert 172 9 (.slice (some ⟨b,0,none⟩) 1 1)).run prog x=.ok (.string (strOfNums [1])) x:=λx b h=>oD x b 1 h
 have n1:¬9223372036854775807<1+(1+k.size):=by omega
 have z0:(strOfNums [1]).size=1:=by rw[BS];rfl
 have z1:(strOfNums [(k.size:Int)]++k).size=1+k.size:=by rw[DI,BS];rfl
 go_enter func273,ntmps273;go_wp2_with fail;go_region_law (refine LK (by rfl) 278 #[.string k] (by go_simp) (nl k _ hk) ?_;rintro e w7 ⟨rfl,aA⟩;refine⟨_,rfl,?_⟩;have aD:=aA.size;simp only[AU,JA]at aD;have aG:w.heap.size<w7.heap.size:=(by omega);have aH:=Nat.lt_of_succ_le aD;obtain⟨q7,_⟩:=qk aA;have aB:=LE aA;clear aA)
 all_goals
  go_wp2;go_ret;refine⟨rfl,?_⟩
  first
   | exact bs (aE _ _).drew aB.o
   | exact(bs (aC _).drew aB.o).alloc (bs (aC _).drew aB.o).size _
def Ea(j:Nat)(v v':Value)(w:World):Sem.run prog (method (j+1) 281 (.agg #[v,v']) "loop.example/kilnstone/impl.form") w=.ok (282,.agg #[v,v']) w:=by kernel_rfl
def yG(j:Nat)(v:Value)(w:World):Sem.run prog (method (j+1) 279 (.agg #[v]) "loop.example/kilnstone/impl.form") w=.ok (273,.agg #[v]) w:=by kernel_rfl
def nr(a:Option Addr)(rs:List (ByteArray×ByteArray×Bool))(c:Nat)(w:World)(h:Chs w a rs)(hl:rs.length<=1048576)(hs:∀x∈rs,x.1.size<=1048576/\x.2.1.size<=1048576):Calls prog 131 #[.slice a rs.length c] w λe w'=>e=.returned (.string (LX rs))/\Below w.heap.size w w':=by
 unfold LX
 cases hok:OA rs
 focus
  simp only[EJ,IX]
 rotate_left
 focus
  simp only[IK];obtain⟨hn,aE⟩:=VQ hok;have aC:=LE aE;clear aE;obtain⟨F,HF⟩:∃F,Hid (F=RA rs):=⟨_,LE rfl⟩;rw[<-HF.o]
 rotate_left
 all_goals
  go_enter func131,ntmps131;go_wp2_with (go_at_call 129;refine(YY a rs c _ h hl hs).i ?_;rw[hok];rintro e w2 ⟨rfl,aF⟩)
 ·go_ret
  exact⟨rfl,aF⟩
 go_loopw [5,11] (λ_ i wr=>∃k:Nat,k<=rs.length/\i=.int .i64 k/\Lib.IsBuilder 217 5 w2.heap.size w2.heap.size (Lib.byteCells (RA (rs.take k)).data.toList) wr/\Below w2.heap.size w2 wr) (λ_ i _=>rs.length-(intOf i).toNat)
 case atStart =>
  exact⟨0,AH _,rfl,by rw[FE];exact Lib.fresh_isBuilder _ _ _,LG _ _⟩
 case round =>
  obtain⟨k,hk,rfl,aK,aA⟩:=hrel
  by_cases aN:k<rs.length
  ·obtain⟨b,o,s0,s1,g2,rfl,bC,bE,bF,HS⟩:=(h.I (aF.j (aA.i aF.size))).at aN
   have hm:Hid ((s0,s1,g2)∈rs):=by show _∈_;rw[HS.o];simp[List.getD,aN]
   have aL:=aC.o _ hm.o;have aR:s0.size<=255:=by simp[OE,OG,NN]at aL;omega
   have aZ:s1.size<=255:=by simp[OE,OG,NN]at aL;omega
   have aT:=LE (sf _ aL);have aS:=LE (kj (rs.take k) (λx hx=>aC.o x (DQ hx)));have aU:=LE (yX rs k _ _ aN HS.o)
   have aI:(Lib.byteCells (RA (rs.take k)).data.toList).length+(strOfNums (MZ (s0,s1,g2))).size<=140737488355328:=by
    rw[Lib.byteCells_length];have h1:(RA (rs.take k)).data.toList.length=(RA (rs.take k)).size:=rfl;have h2:=aS.o;have h3:=aT.o;rw[BC]at h2;omega
   have aW:(k:Int)<(rs.length:Int):=by omega
   have aO:=aA.size;have HB:=LE aA;have aD:=LE aK;clear aK aA aL
   cases g2
   focus
    have aX:=λj w=>Ea j (.string s0) (.string s1) w
    go_wp2_with (first|(go_at_call 179;refine(jy s0 s1 _).i ?_;rintro e w4 ⟨rfl,aG⟩)|(go_at_call 282;refine(Co s0 s1 _ aR aZ).i ?_;rw[wD];rintro e w5 ⟨rfl,aH⟩;have aB:=bs (bs ((AB wr.heap.size wr).alloc (AA _) _) aG) aH;have aP:=LE aB;have aM:=LE (xj aD.o aB);have aY:=aB.size;clear aG aH aB)|(go_at_call 168;refine(sd _ _ _ _ _ aM.o aI (by omega)).i ?_;rintro e w6 ⟨rfl,aJ,aQ⟩))
   rotate_left
   focus
    have aX:=λj w=>yG j (.string s0) w
    go_wp2_with (first|(go_at_call 179;refine(me s0 s1 _).i ?_;rintro e w4 ⟨rfl,aG⟩)|(go_at_call 273;refine(Fc s0 _ aR).i ?_;rw[zM s0 s1];rintro e w5 ⟨rfl,aH⟩;have aB:=bs (bs ((AB wr.heap.size wr).alloc (AA _) _) aG) aH;have aP:=LE aB;have aM:=LE (xj aD.o aB);have aY:=aB.size;clear aG aH aB)|(go_at_call 168;refine(sd _ _ _ _ _ aM.o aI (by omega)).i ?_;rintro e w6 ⟨rfl,aJ,aQ⟩))
   rotate_left
   all_goals
    refine⟨⟨k+1,by omega,by go_num,?_,HB.o.j ((aP.o.i aO).j aQ)⟩,by simp[intOf];omega⟩;rw[aU.o,<-Ij];exact .inr aJ
  have aV:k=rs.length:=by omega
  subst aV;have aO:=aA.size;have aD:=LE aK;clear aK;rw[DC,<-HF.o]at aD;go_wp2_with (go_at_call 170;refine(wP _ _ _ _ aD.o aO).i ?_;rintro e w6 ⟨rfl,aJ⟩);go_ret;refine⟨?_,aF.j ((aA.j aJ).i aF.size)⟩;have e:(⟨F.data.toList.toArray⟩:ByteArray)=F:=by simp
  first|rw[<-e];rfl|(simp;rfl)
def MH(aA:List (List Ch))(n:Int):Int:=(aA.map λb=>OB (LX b).size n).sum
def mm(l:Nat)(n:Int):0<=OB l n/\OB l n<=(l:Int)+1:=by
 unfold OB PB
 split
 ·split
  ·omega
  have h:=KY (l-1) (56-n).toNat
  obtain⟨q,hq⟩:∃q,q=(l-1) / (56-n).toNat:=⟨_,rfl⟩;rw[<-hq]at h⊢;omega
 omega
def XT(b:List Ch):(LX b).size<=2460:=by
 unfold LX
 split
 ·rename_i h
  obtain⟨h1,h2⟩:=VQ h;have:=kj b h2;omega
 simp
def wR(n:Int):MH [] n=0:=rfl
def ky(aA:List (List Ch))(b:List Ch)(n:Int):MH (aA++[b]) n=MH aA n+OB (LX b).size n:=by simp[MH]
def YQ(aA:List (List Ch))(n:Int):0<=MH aA n/\MH aA n<=2461*(aA.length:Int):=by
 induction aA with
 | nil=>exact⟨Int.le_refl _,by simp[MH]⟩
 | cons b r ih =>
  have e:MH (b::r) n=OB (LX b).size n+MH r n:=by simp[MH]
  have h1:=mm (LX b).size n;have h2:=XT b;rw[e,BY];omega
def XL{α:Type}(l:List α)(k:Nat)(d:α)(h:k<l.length):l.take (k+1)=l.take k++[l.getD k d]:=by
 rw[AQ h];simp[List.getD,h]
def jg(a:Option Addr)(rs:List Pr)(c:Nat)(n:Int)(w:World)(h:Prs w a rs)(hl:rs.length<=1048576)(hs:∀x∈rs,x.1.size<=1048576/\x.2.size<=1048576):Calls prog 104 #[.agg #[.slice a rs.length c],.int .i64 n] w λe w'=>e=.returned (.int .i64 (MH (MN rs) n))/\Below w.heap.size w w':=by
 have aH:Below w.heap.size w (w.alloc (.cells #[.slice a rs.length c] 48)):=LG _ _;have hv:=yu a rs c (w.alloc (.cells #[.slice a rs.length c] 48)) (h.I aH) hl hs;have HV:=LE hv;have aG:=LE aH;clear hv aH;obtain⟨aA,aD⟩:∃aA,aA=MN rs:=⟨_,rfl⟩;have aU:=WX rs
 have aS:Hid (∀b∈aA,b.length<=1048576/\∀x∈b,x.1.size<=1048576/\x.2.1.size<=1048576):=by
  intro b hb;rw[aD]at hb;obtain⟨h1,h2⟩:=fu hb;exact⟨by omega,λx hx=>hs _ (h2 x hx)⟩
 rw[<-aD]at HV aU⊢;clear aD;go_enter func104,ntmps104;go_wp2_with (go_at_call 146;refine HV.o.i ?_;rintro e w2 ⟨v,rfl,aF,aM⟩);obtain⟨va,vc,rfl,aP⟩:=aF.bts;have aQ:=LE aP;have aL:=LE (aG.o.j (aM.i aG.o.size));clear aF aM aP HV aG;go_loopw [5,7] (λy i wr=>∃k:Nat,k<=aA.length/\i=.int .i64 (k:Int)/\y=.int .i64 (MH (aA.take k) n)/\Below w2.heap.size w2 wr) (λ_ i _=>aA.length-(intOf i).toNat)
 case atStart=>exact⟨0,AH _,rfl,rfl,AB _ _⟩
 case round =>
  obtain⟨k,hk,rfl,rfl,aB⟩:=hrel
  by_cases aJ:k<aA.length
  ·obtain⟨g,p,cc,rfl,hg,hc,aI⟩:=(aQ.o.I aB).at aJ
   have aW:(k:Int)<(aA.length:Int):=by omega
   have aY:(0:Int)<=(k:Int):=by omega
   have aC:=aS.o (aA.getD k []) (by simp[List.getD,aJ]);have aE:=LE (ky (aA.take k) (aA.getD k []) n);rw[<-XL aA k [] aJ]at aE;have hR:=YQ (aA.take k) n;have aX:(aA.take k).length<=5:=by rw[BC];omega
   have hP:=mm (LX (aA.getD k [])).size n;have hO:=XT (aA.getD k []);obtain⟨b,hb⟩:∃b,b=aA.getD k []:=⟨_,rfl⟩;rw[<-hb]at hc aI aC aE hP hO;obtain⟨r,hr⟩:∃r,r=MH (aA.take k) n:=⟨_,rfl⟩;rw[<-hr]at aE hR⊢;have HF:=LE (λW (hW:Chs W p b)=>YW p b cc W hW aC.1 aC.2);have HG:=LE (λW=>qY (LX b) n W (by omega));have aR:=LE aI;have aK:=LE aB;obtain⟨q,hq⟩:∃q,q=OB (LX b).size n:=⟨_,rfl⟩;rw[<-hq]at HG hP aE;obtain⟨bo,aO⟩:∃bo,bo=LX b:=⟨_,rfl⟩;rw[<-aO]at HF HG hP hO;have aZ:IntKind.i64.wrap (r+q)=r+q:=by simp[IntKind.wrap,IntKind.bits,IntKind.signed];omega
   clear hb hr hq aO aC aI aB
   go_wp2_with (first|(go_at_call 148;refine(HF.o _ aR.o).i ?_;rintro e w3 ⟨rfl,aN⟩)|(go_at_call 147;refine(HG.o _).i ?_;rintro e w4 ⟨rfl,aT⟩))
   refine⟨⟨k+1,by omega,by go_num,?_,?_⟩,by simp[intOf];omega⟩
   ·rw[aE.o]
   exact aK.o.j ((aN.j (aT.i aN.size)).i aK.o.size)
  have aV:k=aA.length:=by omega
  subst aV;go_wp2;go_ret;exact⟨by simp,aL.o.j (aB.i aL.o.size)⟩
def vU(a:Option Addr)(rs:List Pr)(c:Nat)(n:Int)(w:World)(h:Prs w a rs)(aV:rs.length<=c)(hl:rs.length<=1048576)(hs:∀x∈rs,x.1.size<=1048576/\x.2.size<=1048576):Calls prog 172 #[.agg #[.slice a rs.length c],.int .i64 n] w λe w'=>e=.returned (.int .i64 (MH (MN rs) n))/\Below w.heap.size w w':=by
 have aH:Below w.heap.size w (w.alloc (.cells #[.slice a rs.length c] 48)):=LG _ _;have hv:=yg a rs c (w.alloc (.cells #[.slice a rs.length c] 48)) (h.I aH) aV hl hs;have HV:=LE hv;have aG:=LE aH;clear hv aH;obtain⟨aA,aD⟩:∃aA,aA=MN rs:=⟨_,rfl⟩;have aU:=WX rs
 have aS:Hid (∀b∈aA,b.length<=1048576/\∀x∈b,x.1.size<=1048576/\x.2.1.size<=1048576):=by
  intro b hb;rw[aD]at hb;obtain⟨h1,h2⟩:=fu hb;exact⟨by omega,λx hx=>hs _ (h2 x hx)⟩
 rw[<-aD]at HV aU⊢;clear aD;go_enter func172,ntmps172;go_wp2_with (go_at_call 175;refine HV.o.i ?_;rintro e w2 ⟨v,rfl,aF,aM⟩;obtain⟨va,vc,rfl,aP⟩:=aF.bts);have aQ:=LE aP;have aL:=LE (aG.o.j (aM.i aG.o.size));clear aF aM aP HV aG;go_loopw [5,11] (λy i wr=>∃k:Nat,k<=aA.length/\i=.int .i64 (k:Int)/\y=.int .i64 (MH (aA.take k) n)/\Below w2.heap.size w2 wr) (λ_ i _=>aA.length-(intOf i).toNat)
 case atStart=>exact⟨0,AH _,rfl,rfl,AB _ _⟩
 case round =>
  obtain⟨k,hk,rfl,rfl,aB⟩:=hrel
  by_cases aJ:k<aA.length
  ·obtain⟨g,p,cc,rfl,hg,hc,aI⟩:=(aQ.o.I aB).at aJ
   have aX:(k:Int)<(aA.length:Int):=by omega
   have aZ:(0:Int)<=(k:Int):=by omega
   have aC:=aS.o (aA.getD k []) (by simp[List.getD,aJ]);have aE:=LE (ky (aA.take k) (aA.getD k []) n);rw[<-XL aA k [] aJ]at aE;have hR:=YQ (aA.take k) n;have aY:(aA.take k).length<=5:=by rw[BC];omega
   have hP:=mm (LX (aA.getD k [])).size n;have hO:=XT (aA.getD k []);obtain⟨b,hb⟩:∃b,b=aA.getD k []:=⟨_,rfl⟩;rw[<-hb]at hc aI aC aE hP hO;obtain⟨r,hr⟩:∃r,r=MH (aA.take k) n:=⟨_,rfl⟩;rw[<-hr]at aE hR⊢;have HF:=LE (λW (hW:Chs W p b)=>nr p b cc W hW aC.1 aC.2);have HG:=LE (λW=>nc (LX b) n W (by omega));have aR:=LE aI;have aK:=LE aB;obtain⟨q,hq⟩:∃q,q=OB (LX b).size n:=⟨_,rfl⟩;rw[<-hq]at HG hP aE;obtain⟨bo,aO⟩:∃bo,bo=LX b:=⟨_,rfl⟩;rw[<-aO]at HF HG hP hO;have bC:IntKind.i64.wrap (r+q)=r+q:=by simp[IntKind.wrap,IntKind.bits,IntKind.signed];omega
   clear hb hr hq aO aC aI aB
   go_wp2_with (first|(go_at_call 131;refine(HF.o _ aR.o).i ?_;rintro e w3 ⟨rfl,aN⟩)|(go_at_call 132;refine(HG.o _).i ?_;rintro e w4 ⟨rfl,aT⟩))
   refine⟨⟨k+1,by omega,by go_num,?_,?_⟩,by simp[intOf];omega⟩
   ·rw[aE.o]
   exact aK.o.j ((aN.j (aT.i aN.size)).i aK.o.size)
  have aW:k=aA.length:=by omega
  subst aW;go_wp2;go_ret;exact⟨by simp,aL.o.j (aB.i aL.o.size)⟩
def SD(T H F R:Int):Bool:=decide (0<=T/\T<=1000000000) && decide (0<=R/\R<=60000) && decide (0<=H/\H<=1) && decide (1<=F/\F<=999999000)
def OF(W S L T H F R U O:Int)(rs:List Pr):Bool:=decide (1<=W/\W<=8) && decide (8<=S/\S<=200) && decide (1<=L/\L<=60000) && SD T H F R && decide (0<=U/\U<=hv S) && decide (0<=O/\O<=U) && MA rs && decide (MH (MN rs) W<=hv S-1)
def YT(n lo hi:Int)(b:Bool)(h:decide (lo<=n/\n<=hi)=b)(w:World):Calls prog 59 #[.int .i64 n,.int .i64 lo,.int .i64 hi] w λe w'=>e=.returned (.bool b)/\w'=w:=by
 subst h
 by_cases h1:lo<=n<;>by_cases h2:n<=hi<;>(go_enter func59,ntmps59;go_wp2;go_ret;simp[h1,h2])
def PH{S:Int}(h:8<=S/\S<=200):3<=hv S/\hv S<=99:=by unfold hv;rw[AK h];omega
def WE{S:Int}(h:¬(8<=S/\S<=200)):hv S=0:=by unfold hv;rw[AE h]
def yt(W S L T H F R U O:Int)(rs:List Pr)(h:¬(1<=W/\W<=8)\/¬(8<=S/\S<=200)\/¬(1<=L/\L<=60000)\/SD T H F R=false\/¬(0<=U/\U<=hv S)\/¬(0<=O/\O<=U)\/MA rs=false\/¬(MH (MN rs) W<=hv S-1)):OF W S L T H F R U O rs=false:=by
 unfold OF;rcases h with h|h|h|h|h|h|h|h<;>simp[h]
def ac(T H F R:Int)(h:¬(0<=T/\T<=1000000000)\/¬(0<=R/\R<=60000)\/¬(0<=H/\H<=1)\/¬(1<=F/\F<=999999000)):SD T H F R=false:=by
 unfold SD;rcases h with h|h|h|h<;>simp[h]
def fg(W S L T H F R U O:Int)(a:Option Addr)(rs:List Pr)(c:Nat)(w:World)(h:Prs w a rs)(hl:rs.length<=1048576)(hs:∀x∈rs,x.1.size<=1048576/\x.2.size<=1048576):Calls prog 60 #[LV W S L T H F R U O a rs.length c] w λe w'=>e=.returned (.bool (OF W S L T H F R U O rs))/\Below w.heap.size w w':=by
 unfold LV
 have aH:∀o,Below w.heap.size w (w.alloc o):=λo=>LG _ _
 have aC:∀o p,Below w.heap.size w ((w.alloc o).alloc p):=λo p=>(LG _ _).alloc (by simp) _
 have aE:=LE (λo p=>it a rs c ((w.alloc o).alloc p) (h.I (aC o p)) hl hs);have aD:=LE (λw2 (h2:Below w.heap.size w w2)=>jg a rs c W w2 (h.I h2) hl hs);obtain⟨E,HE⟩:∃E,Hid (E=OF W S L T H F R U O rs):=⟨_,LE rfl⟩;rw[<-HE.o];obtain⟨Q,hQ⟩:∃Q,Q=hv S:=⟨_,rfl⟩;have HQ:=LE hQ;have no:=yt W S L T H F R U O rs;rw[<-HE.o,<-hQ]at no;have NO:=LE no;clear no hQ
 by_cases c1:1<=W/\W<=8
 rotate_left
 focus
  have d1:decide (1<=W/\W<=8)=false:=AI c1;have he:E=false:=NO.o (.inl (c1))
 rotate_left
 focus
  have d1:decide (1<=W/\W<=8)=true:=AO c1
  by_cases c2:8<=S/\S<=200
  rotate_left
  focus
   have d2:decide (8<=S/\S<=200)=false:=AI c2;have aG:Q=0:=by rw[HQ.o];exact WE c2
   subst aG;have he:E=false:=NO.o (.inr (.inl (c2)))
  rotate_left
  focus
   have d2:decide (8<=S/\S<=200)=true:=AO c2;have aL:3<=Q/\Q<=99:=by rw[HQ.o];exact PH c2
   have aG:¬Q=0:=by omega
   by_cases c3:1<=L/\L<=60000
   rotate_left
   focus
    have d3:decide (1<=L/\L<=60000)=false:=AI c3;have he:E=false:=NO.o (.inr (.inr (.inl (c3))))
   rotate_left
   focus
    have d3:decide (1<=L/\L<=60000)=true:=AO c3
    by_cases c4:0<=T/\T<=1000000000
    rotate_left
    focus
     have d4:decide (0<=T/\T<=1000000000)=false:=AI c4;have he:E=false:=NO.o (.inr (.inr (.inr (.inl (ac T H F R (.inl (c4)))))))
    rotate_left
    focus
     have d4:decide (0<=T/\T<=1000000000)=true:=AO c4
     by_cases c5:0<=H/\H<=1
     rotate_left
     focus
      have d5:decide (0<=H/\H<=1)=false:=AI c5;have he:E=false:=NO.o (.inr (.inr (.inr (.inl (ac T H F R (.inr (.inr (.inl (c5)))))))))
     rotate_left
     focus
      have d5:decide (0<=H/\H<=1)=true:=AO c5
      by_cases c6:1<=F/\F<=999999000
      rotate_left
      focus
       have d6:decide (1<=F/\F<=999999000)=false:=AI c6;have he:E=false:=NO.o (.inr (.inr (.inr (.inl (ac T H F R (.inr (.inr (.inr (c6)))))))))
      rotate_left
      focus
       have d6:decide (1<=F/\F<=999999000)=true:=AO c6
       by_cases c7:0<=R/\R<=60000
       rotate_left
       focus
        have d7:decide (0<=R/\R<=60000)=false:=AI c7;have he:E=false:=NO.o (.inr (.inr (.inr (.inl (ac T H F R (.inr (.inl (c7))))))))
       rotate_left
       focus
        have d7:decide (0<=R/\R<=60000)=true:=AO c7
        by_cases c8:0<=U/\U<=Q
        rotate_left
        focus
         have d8:decide (0<=U/\U<=Q)=false:=AI c8;have he:E=false:=NO.o (.inr (.inr (.inr (.inr (.inl (c8))))))
        rotate_left
        focus
         have d8:decide (0<=U/\U<=Q)=true:=AO c8
         by_cases c9:0<=O/\O<=U
         rotate_left
         focus
          have d9:decide (0<=O/\O<=U)=false:=AI c9;have he:E=false:=NO.o (.inr (.inr (.inr (.inr (.inr (.inl (c9)))))))
         rotate_left
         focus
          have d9:decide (0<=O/\O<=U)=true:=AO c9
          cases dS:MA rs with
          | false =>
           have he:E=false:=NO.o (.inr (.inr (.inr (.inr (.inr (.inr (.inl (dS))))))));subst he;go_enter func60,ntmps60
           go_wp2_with (first|(go_at_call 103;refine(VA _ _).i ?_;rw[<-HQ.o];refine MT ?_)|(go_at_call 57;refine(PV _ _).i ?_;rw[d1];refine MT ?_)|(go_at_call 59;refine(YT _ _ _ _ (by assumption) _).i ?_;refine MT ?_)|(go_at_call 62;refine(aE.o _ _).i ?_;rw[dS];rintro e w2 ⟨rfl,aA⟩))
           go_ret;exact⟨rfl,(aC _ _).j (aA.i (by simp<;>omega))⟩
          | true =>
           have hR:=YQ (MN rs) W;have aK:=WX rs;obtain⟨G,HG⟩:∃G,Hid (G=MH (MN rs) W):=⟨_,LE rfl⟩;rw[<-HG.o]at hR aD NO
           have he:E=decide (G<=Q-1):=by
            rw[HE.o,HG.o,HQ.o];rw[HQ.o]at c8;unfold OF SD;simp[c1,c2,c3,c4,c5,c6,c7,c8,c9,dS]
           have aM:IntKind.i64.wrap (Q-1)=Q-1:=by simp[IntKind.wrap,IntKind.bits,IntKind.signed];omega
           clear NO HE
           by_cases cG:G<=Q-1
           ·have dG:decide (G<=Q-1)=true:=AO cG
            rw[dG]at he;subst he;go_enter func60,ntmps60
            go_wp2_with (first|(go_at_call 103;refine(VA _ _).i ?_;rw[<-HQ.o];refine MT ?_)|(go_at_call 57;refine(PV _ _).i ?_;rw[d1];refine MT ?_)|(go_at_call 59;refine(YT _ _ _ _ (by assumption) _).i ?_;refine MT ?_)|(go_at_call 62;refine(aE.o _ _).i ?_;rw[dS];rintro e w2 ⟨rfl,aA⟩;have aI:w2.cell? ⟨w.heap.size,0,none⟩=some (.int .i64 W):=LH aA (by go_simp);have aJ:w2.cell? ⟨w.heap.size,9,none⟩=some (.slice a rs.length c):=LH aA (by go_simp);have aB:=LE ((aC _ _).j (aA.i (by simp<;>omega))))|(go_at_call 104;refine(aD.o _ aB.o).i ?_;rintro e w3 ⟨rfl,aF⟩))
            go_ret;exact⟨rfl,aB.o.j (aF.i aB.o.size)⟩
           have dG:decide (G<=Q-1)=false:=AI cG
           rw[dG]at he;subst he;go_enter func60,ntmps60
           go_wp2_with (first|(go_at_call 103;refine(VA _ _).i ?_;rw[<-HQ.o];refine MT ?_)|(go_at_call 57;refine(PV _ _).i ?_;rw[d1];refine MT ?_)|(go_at_call 59;refine(YT _ _ _ _ (by assumption) _).i ?_;refine MT ?_)|(go_at_call 62;refine(aE.o _ _).i ?_;rw[dS];rintro e w2 ⟨rfl,aA⟩;have aI:w2.cell? ⟨w.heap.size,0,none⟩=some (.int .i64 W):=LH aA (by go_simp);have aJ:w2.cell? ⟨w.heap.size,9,none⟩=some (.slice a rs.length c):=LH aA (by go_simp);have aB:=LE ((aC _ _).j (aA.i (by simp<;>omega))))|(go_at_call 104;refine(aD.o _ aB.o).i ?_;rintro e w3 ⟨rfl,aF⟩))
           go_ret;exact⟨rfl,aB.o.j (aF.i aB.o.size)⟩
    all_goals
     subst he;go_enter func60,ntmps60
     go_wp2_with (first|(go_at_call 103;refine(VA _ _).i ?_;rw[<-HQ.o];refine MT ?_)|(go_at_call 57;refine(PV _ _).i ?_;rw[d1];refine MT ?_)|(go_at_call 59;refine(YT _ _ _ _ (by assumption) _).i ?_;refine MT ?_))
     go_ret;exact⟨rfl,aC _ _⟩
 all_goals
  subst he;go_enter func60,ntmps60
  go_wp2_with (first|(go_at_call 103;refine(VA _ _).i ?_;rw[<-HQ.o];refine MT ?_)|(go_at_call 57;refine(PV _ _).i ?_;rw[d1];refine MT ?_)|(go_at_call 59;refine(YT _ _ _ _ (by assumption) _).i ?_;refine MT ?_))
  go_ret;exact⟨rfl,aH _⟩
def ji(n:Int)(w:World):Calls prog 206 #[.int .i64 n] w λe w'=>e=.returned (.bool (decide (0<=n/\n<=1)))/\w'=w:=by
 go_enter func206,ntmps206
 by_cases h1:n=0
 ·subst h1;go_wp2;go_ret;simp
 by_cases h2:n=1
 ·subst h2;go_wp2;go_ret;simp
 have h3:decide (0<=n/\n<=1)=false:=by simp;omega
 rw[h3];go_wp2;go_ret;simp[h1,h2]
def te(n:Int)(w:World):Calls prog 207 #[.int .i64 n] w λe w'=>e=.returned (.bool (decide (1<=n/\n<=999999000)))/\w'=w:=by
 go_enter func207,ntmps207
 by_cases h1:1<=n<;>by_cases h2:n<=999999000<;>(go_wp2;go_ret;simp[h1,h2])
def kc(T H F R:Int)(w:World):Calls prog 160 #[.agg #[.int .i64 T,.int .i64 H,.int .i64 F,.int .i64 R]] w λe w'=>e=.returned (.bool (SD T H F R))/\Below w.heap.size w w':=by
 have aA:∀o,Below w.heap.size w (w.alloc o):=λo=>LG _ _
 obtain⟨E,HE⟩:∃E,Hid (E=SD T H F R):=⟨_,LE rfl⟩;rw[<-HE.o];unfold SD at HE
 by_cases c1:0<=T
 rotate_left
 focus
  have he:E=false:=by rw[HE.o];simp;omega
 rotate_left
 focus
  by_cases c2:T<=1000000000
  rotate_left
  focus
   have he:E=false:=by rw[HE.o];simp;omega
  rotate_left
  focus
   by_cases c3:0<=R
   rotate_left
   focus
    have he:E=false:=by rw[HE.o];simp;omega
   rotate_left
   focus
    by_cases c4:R<=60000
    rotate_left
    focus
     have he:E=false:=by rw[HE.o];simp;omega
    rotate_left
    focus
     by_cases c5:0<=H/\H<=1
     case neg =>
      have d5:decide (0<=H/\H<=1)=false:=AI c5;have he:E=false:=by rw[HE.o,d5];simp
      subst he;go_enter func160,ntmps160
      go_wp2_with (first|(go_at_call 206;refine(ji _ _).i ?_;rw[d5];refine MT ?_))
      go_ret;exact⟨rfl,aA _⟩
     have d5:decide (0<=H/\H<=1)=true:=AO c5
     by_cases c6:1<=F/\F<=999999000
     case neg =>
      have d6:decide (1<=F/\F<=999999000)=false:=AI c6;have he:E=false:=by rw[HE.o,d6];simp
      subst he;go_enter func160,ntmps160
      go_wp2_with (first|(go_at_call 206;refine(ji _ _).i ?_;rw[d5];refine MT ?_)|(go_at_call 207;refine(te _ _).i ?_;rw[d6];refine MT ?_))
      go_ret;exact⟨rfl,aA _⟩
     have d6:decide (1<=F/\F<=999999000)=true:=AO c6;have he:E=true:=by rw[HE.o,d5,d6];simp;omega
     subst he;go_enter func160,ntmps160
     go_wp2_with (first|(go_at_call 206;refine(ji _ _).i ?_;rw[d5];refine MT ?_)|(go_at_call 207;refine(te _ _).i ?_;rw[d6];refine MT ?_))
     go_ret;exact⟨rfl,aA _⟩
 all_goals
  subst he;go_enter func160,ntmps160;go_wp2;go_ret;exact⟨rfl,aA _⟩
def qp(n Q:Int)(h:Q=hv n)(w:World):Calls prog 123 #[.int .i64 n] w λe w'=>e=.returned (.int .i64 Q)/\w'=w:=by rw[h];exact ZI n w
def la(W S L T H F R U O:Int)(a:Option Addr)(rs:List Pr)(c:Nat)(w:World)(h:Prs w a rs)(hc:rs.length<=c)(hl:rs.length<=1048576)(hs:∀x∈rs,x.1.size<=1048576/\x.2.size<=1048576):Calls prog 125 #[LV W S L T H F R U O a rs.length c] w λe w'=>e=.returned (.bool (decide (MH (MN rs) W<=hv S-1)))/\Below w.heap.size w w':=by
 unfold LV;obtain⟨wb,aA⟩:∃wb,wb=w.alloc (.cells (sK W S L T H F R U O (.slice a rs.length c)) 50):=⟨_,rfl⟩;have q0:wb.cell? ⟨w.heap.size,0,none⟩=some (.int .i64 W):=by rw[aA];go_simp
 have q1:wb.cell? ⟨w.heap.size,1,none⟩=some (.int .i64 S):=by rw[aA];go_simp
 have q9:wb.cell? ⟨w.heap.size,9,none⟩=some (.slice a rs.length c):=by rw[aA];go_simp
 have aB:Below w.heap.size w wb:=by rw[aA];exact LG _ _
 have aC:w.heap.size<wb.heap.size:=by rw[aA];simp
 have HT:Hid (∀w',Below wb.heap.size wb w'->w'.cell? ⟨w.heap.size,0,none⟩=some (.int .i64 W)/\w'.cell? ⟨w.heap.size,1,none⟩=some (.int .i64 S)/\w'.cell? ⟨w.heap.size,9,none⟩=some (.slice a rs.length c)/\Below wb.heap.size wb w'):=λw' hb=>⟨(hb.cell (p:=⟨w.heap.size,0,none⟩) aC).j q0,(hb.cell (p:=⟨w.heap.size,1,none⟩) aC).j q1,(hb.cell (p:=⟨w.heap.size,9,none⟩) aC).j q9,hb⟩
 have aE:=LE (vU a rs c W wb.drew (h.I aB.drew) hc hl hs);have hR:=YQ (MN rs) W;have aG:=WX rs;have hQ:0<=hv S/\hv S<=99:=by by_cases h:8<=S/\S<=200;have:=PH h;omega;rw[WE h];omega
 obtain⟨G,HG⟩:∃G,Hid (G=MH (MN rs) W):=⟨_,LE rfl⟩;obtain⟨Q,HQ⟩:∃Q,Hid (Q=hv S):=⟨_,LE rfl⟩;rw[<-HG.o]at hR aE⊢;rw[<-HQ.o]at hQ⊢;have aH:IntKind.i64.wrap (Q-1)=Q-1:=by simp[IntKind.wrap,IntKind.bits,IntKind.signed];omega
 have aD:=LE aB;clear aB;go_enter func125,ntmps125;go_wp2_with fail;rw[<-aA];clear aA
 go_region_held3 (λw'=>w'.cell? ⟨w.heap.size,0,none⟩=some (.int .i64 W)/\w'.cell? ⟨w.heap.size,1,none⟩=some (.int .i64 S)/\w'.cell? ⟨w.heap.size,9,none⟩=some (.slice a rs.length c)/\Below wb.heap.size wb w')
  (first|assumption|exact HT.o _ ((AB _ _).drew)|exact HT.o _ ((AB _ _).drew.j aF))
  (first|(go_at_call 172;refine aE.o.i ?_;rintro e w3 ⟨rfl,aF⟩)|(go_at_call 123;refine(ZI _ _).i ?_;rw[<-HQ.o];rintro e wz ⟨rfl,rfl⟩))
 all_goals
  go_wp2;go_ret;exact⟨rfl,aD.o.j (((AB _ _).drew.j aF).i aD.o.size)⟩
def fh(W S L T H F R U O:Int)(a:Option Addr)(rs:List Pr)(c:Nat)(w:World)(h:Prs w a rs)(hc:rs.length<=c)(hl:rs.length<=1048576)(hs:∀x∈rs,x.1.size<=1048576/\x.2.size<=1048576):Calls prog 117 #[LV W S L T H F R U O a rs.length c] w λe w'=>e=.returned (.bool (OF W S L T H F R U O rs))/\Below w.heap.size w w':=by
 unfold LV;have aH:=LE (λw2 (h2:Below w.heap.size w w2)=>ig a rs c w2 (h.I h2) hl hs);have aB:=LE (λw2 (h2:Below w.heap.size w w2)=>la W S L T H F R U O a rs c w2 (h.I h2) hc hl hs);unfold LV at aB;clear h hs;obtain⟨E,HE⟩:∃E,Hid (E=OF W S L T H F R U O rs):=⟨_,LE rfl⟩;rw[<-HE.o];obtain⟨Q,hQ⟩:∃Q,Q=hv S:=⟨_,rfl⟩;have HQ:=LE hQ;have no:=yt W S L T H F R U O rs;rw[<-HE.o,<-hQ]at no;rw[<-hQ]at aB;have NO:=LE no;clear no hQ;go_enter func117,ntmps117;go_upto_region 1 with fail;generalize aA:w.alloc _=v1;obtain⟨hE,aC,b1⟩:=LJ aA;have r:=b1.l;clear aA aC b1;obtain⟨q0,q1,q2,q3,q4,q5,q6,q7,q8,q9,ql⟩:=c10 r
 by_cases c1:1<=W/\W<=8
 case neg =>
  have d1:=AI c1;obtain rfl:E=false:=NO.o (.inl c1);go_wp2_with (go_at_call 72;refine(QZ _ _).i ?_;rw[d1];refine MT ?_);go_ret;exact⟨rfl,hE⟩
 have d1:=AO c1
 by_cases c2:8<=S/\S<=200
 case neg =>
  have d2:=AI c2;obtain rfl:E=false:=NO.o (.inr (.inl c2))
  go_wp2_with (first|(go_at_call 72;refine(QZ _ _).i ?_;rw[d1];refine MT ?_)|(go_at_call 114;refine(gp _ _).i ?_;rw[d2];refine MT ?_))
  go_ret;exact⟨rfl,hE⟩
 have d2:=AO c2;have aJ:3<=Q/\Q<=99:=by rw[HQ.o];exact PH c2
 go_upto_region 3 with (first|(go_at_call 72;refine(QZ _ _).i ?_;rw[d1];refine MT ?_)|(go_at_call 114;refine(gp _ _).i ?_;rw[d2];refine MT ?_))
 by_cases c3:1<=L
 case neg =>
  obtain rfl:E=false:=NO.o (.inr (.inr (.inl (λhh=>c3 hh.1))));go_wp2;go_ret;exact⟨rfl,hE⟩
 by_cases aD:L<=60000
 case neg =>
  obtain rfl:E=false:=NO.o (.inr (.inr (.inl (λhh=>aD hh.2))));go_wp2;go_ret;exact⟨rfl,hE⟩
 go_wp2_with fail;clear q0 q1 q2 q3 q4 q5 q6 q7 q8 q9 ql;refine(kc T H F R _).i ?_;rintro e v2 ⟨rfl,hb⟩;replace r:=r.I hb;replace hE:=hE.j (hb.i hE.size);clear hb;obtain⟨q0,q1,q2,q3,q4,q5,q6,q7,q8,q9,ql⟩:=c10 r
 cases d4:SD T H F R with
 | false =>
  obtain rfl:E=false:=NO.o (.inr (.inr (.inr (.inl d4))));go_wp2_with fail;go_ret;exact⟨rfl,hE⟩
 | true =>
  have aF:=LE d4;clear d4;go_upto_region 7 with fail;go_cut [28] from 29 to 39 (λbv wx=>bv=.bool (decide (¬(0<=U/\U<=Q)))/\Below v2.heap.size v2 wx)
  case first =>
   by_cases c5:0<=U
   case neg =>
    go_quiet ((go_at_call 123;exact Calls.quiet_of_same (qp _ _ HQ.o _)));go_wp2_with fail;go_meet;exact⟨by rw[show decide (¬(0<=U/\U<=Q))=true by simp only[DO];omega],below_drewN (AB _ _) nq⟩
   by_cases aI:U<=Q
   case neg =>
    go_quiet ((go_at_call 123;exact Calls.quiet_of_same (qp _ _ HQ.o _)));go_wp2_with fail;go_meet;exact⟨by rw[show decide (¬(0<=U/\U<=Q))=true by simp only[DO];omega],below_drewN (AB _ _) nq⟩
   go_quiet ((go_at_call 123;exact Calls.quiet_of_same (qp _ _ HQ.o _)));go_wp2_with fail;go_meet
   exact⟨by rw[show decide (¬(0<=U/\U<=Q))=false by simp only[JH];omega,show decide (Q<U)=false by simp only[JH];omega];simp;try omega,below_drewN (AB _ _) nq⟩
  case rest =>
  clear q0 q1 q2 q3 q4 q5 q6 q7 q8 q9 ql;obtain⟨rfl,hb⟩:=hcut
  rename World=>v3
  replace r:=r.I hb;replace hE:=hE.j (hb.i hE.size);clear hb;obtain⟨q0,q1,q2,q3,q4,q5,q6,q7,q8,q9,ql⟩:=c10 r
  by_cases c5:0<=U/\U<=Q
  case neg =>
   obtain rfl:E=false:=NO.o (.inr (.inr (.inr (.inr (.inl c5)))));rw[show decide (¬(0<=U/\U<=Q))=true by simp only[DO];omega];go_wp2_with fail;go_ret;exact⟨rfl,hE⟩
  rw[show decide (¬(0<=U/\U<=Q))=false by simp only[JH];omega]
  by_cases c6:0<=O
  case neg =>
   obtain rfl:E=false:=NO.o (.inr (.inr (.inr (.inr (.inr (.inl (λhh=>c6 hh.1)))))));go_wp2_with fail;go_ret;exact⟨rfl,hE⟩
  by_cases aE:O<=U
  case neg =>
   obtain rfl:E=false:=NO.o (.inr (.inr (.inr (.inr (.inr (.inl (λhh=>aE hh.2)))))));go_wp2_with fail;go_ret;exact⟨rfl,hE⟩
  go_wp2_with fail;clear q0 q1 q2 q3 q4 q5 q6 q7 q8 q9 ql;have CV:=aH.o _ hE;refine CV.i ?_;rintro e v4 ⟨rfl,hb⟩;replace r:=r.I hb;replace hE:=hE.j (hb.i hE.size);clear hb CV;obtain⟨q0,q1,q2,q3,q4,q5,q6,q7,q8,q9,ql⟩:=c10 r
  cases d7:MA rs with
  | false =>
   obtain rfl:E=false:=NO.o (.inr (.inr (.inr (.inr (.inr (.inr (.inl d7)))))));go_wp2_with fail;go_ret;exact⟨rfl,hE⟩
  | true =>
   have aG:=LE d7;clear d7;go_wp2_with fail;refine(aB.o _ hE).i ?_;rintro e v5 ⟨rfl,hb⟩;replace hE:=hE.j (hb.i hE.size);clear hb
   have he:E=decide (MH (MN rs) W<=Q-1):=by
    rw[HE.o];unfold OF;rw[d1,d2,aF.o,aG.o,AO (⟨c3,aD⟩:1<=L/\L<=60000),AO (⟨c6,aE⟩:0<=O/\O<=U),<-HQ.o,AO c5];simp
   subst he;clear q0 q1 q2 q3 q4 q5 q6 q7 q8 q9 ql;go_wp2_with fail;go_ret;exact⟨rfl,hE⟩
