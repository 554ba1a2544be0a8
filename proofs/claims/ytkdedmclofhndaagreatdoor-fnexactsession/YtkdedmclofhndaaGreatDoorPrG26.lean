import Derived.Test.YtkdedmclofhndaaGreatDoorPrG44
import Derived.Test.YtkdedmclofhndaaGreatDoorPrWoE
import Derived.Test.YtkdedmclofhndaaGreatDoorPrPk
import Derived.Test.YtkdedmclofhndaaGreatDoorPrG42
import Derived.Lib.ItoaMem
import Derived.Lib.AtoiAllCases
import Derived.Lib.Bytealg
import Derived.Lib.Strings
import Derived.Lib.IndexLaws
import Derived.Shelf.LaysM
import Derived.Shelf.LaysC
import Derived.Shelf.Strconv.Itoa3
import Derived.Shelf.Strconv.AtoiAll
import Derived.Lib.AppendIntMem
set_option maxHeartbeats 16000000
set_option maxRecDepth 8000
set_option linter.all false
namespace Go.Proofs.YtkdedmclofhndaaGreatDoor
open _root_.ByteArray(empty)
section
open Tryz
open Go.RowKit
variable {s t:yZ}{ts ws:List yZ}{i k n:Nat}{v:qD}
theorem Hn(a:xA)(f:List yZ)(c:Nat)(j:xA)(ws:List (Int×yZ))(l:Nat)(d b first F n:Int)(w:xV)(h:Strs w a f)(K:Wrs w j ws)(B:f.length<=1048576)(G:ws.length<=1048576)(L:∀s∈f,s.size<=1048576)(H:∀x∈ws,x.2.size<=1048576)(y:-9223372036854775808<=d/\d<=9223372036854775807)(z:¬XR f ws d b n):Calls prog 166 #[LM a f.length c j ws.length l,Z d,Z b,Z first,Z F,Z n] w λe g=>aw w g e ([],0,0):=by
 have x:∀g m o,yX w (((w.alloc g).alloc m).alloc o):=λg m o=>((LG _ _).alloc σ _).alloc τ _
 have E:=Y (λ(o:xV) (A:yX w o)=>WA a f c j ws l o (h.I A) (K.I A) B G L H);have D:=Y (λo=>p8 f.length d b B y.1 y.2 o)
 cases hok:LO f ws
 focus
  have p:decide (1<=n/\n<=8)=decide (1<=n/\n<=8):=rfl;have r:decide (0<=d/\0<=b/\b<=(f.length:Int)-d)=decide (0<=d/\0<=b/\b<=(f.length:Int)-d):=rfl
 rotate_left
 focus
  by_cases q:1<=n/\n<=8
  focus
   have p:decide (1<=n/\n<=8)=true:=AM q;have r:decide (0<=d/\0<=b/\b<=(f.length:Int)-d)=false:=AH (λg=>z ⟨hok,q,g.1,g.2.1,ω,g.2.2⟩)
  rotate_left
  focus
   have p:decide (1<=n/\n<=8)=false:=AH q;have r:decide (0<=d/\0<=b/\b<=(f.length:Int)-d)=decide (0<=d/\0<=b/\b<=(f.length:Int)-d):=rfl
  rotate_left
 rotate_left 2
 all_goals
  clear z;go_enter func166,ntmps166;go_wp2;refine wp_scope_straight ?_
  go_wp2_with (first|(go_at_call 101;refine(E.j _ (x _ _ _)).J ?_;rw[hok];rintro e S ⟨rfl,m⟩;have u:=(((NZ w #[yI a f.length c,yI j ws.length l] 32 w.heap.size rfl).alloc (.cells #[Z first] 3)).alloc (.cells #[yI none 0 0,Z 0,Z 0] 174)).I m;have g:=(NZ ((w.alloc (.cells #[yI a f.length c,yI j ws.length l] 32)).alloc (.cells #[Z first] 3)) #[yI none 0 0,Z 0,Z 0] 174 (w.heap.size+1+1) σ).I m;have C:=Y ((x (.cells #[yI a f.length c,yI j ws.length l] 32) (.cells #[Z first] 3) (.cells #[yI none 0 0,Z 0,Z 0] 174)).E (m.J ξ));have Q:=u.y 0;have R:=u.lt;have b0:=g.y 0;have I:=g.y 1;have J:=g.y 2;have M:=g.A 0;have N:=g.A 1;have O:=g.A 2;have P:=g.lt;clear m u g)|(go_at_call 36;refine(RH _ _).J ?_;rw[p];refine NE ?_)|(go_at_call 219;refine(D.j _).J ?_;rw[r];refine NE ?_))
  try simp only[Exit.noGoto]
  refine AE (v:=.agg #[yI none 0 0,Z 0,Z 0]) (by simp[results,results166,go_sem,b0,I,J]) rfl ?_;exact⟨yI none 0 0,rfl,BT _ _ _ _,((C.j.setCell (by show w.heap.size<=w.heap.size+1+1;omega) _).setCell (by show w.heap.size<=w.heap.size+1+1;omega) _).setCell (by show w.heap.size<=w.heap.size+1+1;omega) _⟩
theorem Ap(a:xA)(f:List yZ)(c:Nat)(j:xA)(ws:List (Int×yZ))(m:Nat)(d b first g n:Int)(w:xV)(h:Strs w a f)(q:Wrs w j ws)(r:f.length<=1048576)(o:ws.length<=1048576)(u:∀s∈f,s.size<=1048576)(p:∀x∈ws,x.2.size<=1048576)(z:-9223372036854775808<=d/\d<=9223372036854775807)(y:-9223372036854775808<=first/\first<=9223372036854775807)
  (x:TypeId)(v:qD)(hv:w.cell? (yA 7 0)=some (.iface x v))(A:w.cell? (yA 1 0)=some (.iface 320 (.agg #[zW 10 57])))(B:7<w.heap.size):Calls prog 166 #[LM a f.length c j ws.length m,Z d,Z b,Z first,Z g,Z n] w λe l=>aw w l e (TG f ws d b first g n):=by
 by_cases l:XR f ws d b n
 ·exact J7 a f c j ws m d b first g n w h q r o u p y x v hv A B l
 have e:TG f ws d b first g n=([],0,0):=by unfold TG;rw[AF l]
 rw[e]
 exact Hn a f c j ws m d b first g n w h q r o u p z l
theorem Hd{P:List (List (yZ×yZ))}(k:Nat)(a:k<P.length)(b:LX (P.getD k [])=false):PW P=false:=by
 unfold PW;have:P.all LX=false:=FK.2 ⟨P.getD k [],by simp[List.getD,a],by rw[b];simp⟩;rw[this,IH]
theorem Kl{P:List (List (yZ×yZ))}(h:1<=P.length/\P.length<=200)(c:∀k,k<P.length->LX (P.getD k [])=true):PW P=true:=by
 unfold PW;rw[AM h,GK]
 refine DH.2 λd b=>?_
 obtain⟨k,a,rfl⟩:=EL b;have:=c k a;simpa[List.getD,a] using this
theorem Ha(k:Nat)(a:k<ts.length)(b:¬(ts.getD k empty).size=64):QP ts=false:=by
 unfold QP;have:(ts.all λs=>decide (s.size=64))=false:=FK.2 ⟨ts.getD k empty,by simp[List.getD,a],by simpa using b⟩;rw[this,IH]
theorem J4(h:ts.length<=2000)(c:∀k,k<ts.length->(ts.getD k empty).size=64):QP ts=true:=by
 unfold QP;rw[AM h,GK]
 refine DH.2 λs b=>?_
 obtain⟨k,a,rfl⟩:=EL b;have:=c k a;simpa[List.getD,a] using this
theorem N0{x:Wo}(h:decide (1<=x.w/\x.w<=8)=false):LW x=false:=by unfold LW;rw[h];rfl
theorem Eu{x:Wo}(h:LO x.ss x.ws=false):LW x=false:=by unfold LW;rw[h];simp
theorem Gb{x:Wo}(h:OW x=false):LW x=false:=by unfold LW;rw[h];simp
theorem yG{x:Wo}(h:PW x.P=false):LW x=false:=by unfold LW;rw[h];simp
theorem nX{x:Wo}(h:QP x.ts=false):LW x=false:=by unfold LW;rw[h];simp
theorem Oh{x:Wo}(a:decide (1<=x.w/\x.w<=8)=true)(b:LO x.ss x.ws=true)(c:OW x=true)(d:PW x.P=true)(e:QP x.ts=true):LW x=true:=by unfold LW;rw[a,b,c,d,e];rfl
theorem Nw{x:Wo}(a:x.up=true):OW x=(NX x.W x.S x.L x.T x.H x.F x.R x.U x.O x.rs && decide (x.W=x.w/\x.S=(x.ss.length:Int))):=by unfold OW;rw[AI a]
theorem Le{x:Wo}(a:x.up=false):OW x=QC x:=by unfold OW;rw[AF (by rw[a];simp)]
theorem mC(x:Wo)(q:Wp)(w:xV)(h:x.at w q)(f:x.le 1048576):Calls prog 60 #[LT x q] w λe a=>e=yT (yR (LW x))/\yX w a:=by
 have bY:=f.l4;have bZ:=f.l5;have bW:=f.l1;obtain⟨H,o⟩:∃d,decide (1<=x.w/\x.w<=8)=d:=⟨_,rfl⟩;obtain⟨I,F⟩:∃d,LO x.ss x.ws=d:=⟨_,rfl⟩;obtain⟨A,G⟩:∃d,decide ((1:Int)<=(x.P.length:Int)/\(x.P.length:Int)<=200)=d:=⟨_,rfl⟩;obtain⟨W,O⟩:∃d,NX x.W x.S x.L x.T x.H x.F x.R x.U x.O x.rs=d:=⟨_,rfl⟩;obtain⟨V,N⟩:∃d,QC x=d:=⟨_,rfl⟩;obtain⟨J,l⟩:∃d,decide (x.ts.length<=2000)=d:=⟨_,rfl⟩;obtain⟨K,p⟩:∃d,OW x=d:=⟨_,rfl⟩;have d:=Y (QH x.w);have L:=Y (λa b c=>WH q.a x.ss q.c q.a' x.ws q.c' a b c f.l1 f.l2 f.s1 f.s2);have R:=Y (λa=>cr (x.P.length:Int) 1 200 A G a);have B:=Y (λa=>Hi x q a f.l3);have C:=Y (λa k=>ky x.W x.S x.L x.T x.H x.F x.R x.U x.O q.s x.rs q.cs a k f.l3 f.s3);unfold MI at B C;rw[o]at d;rw[F]at L;rw[O]at C;rw[N]at B;obtain⟨E,g⟩:∃E,Hid (E=LW x):=⟨_,Y rfl⟩;rw[<-g.j];have M:=Y f;have m:=Y h;clear f h;unfold LT
 go_enter func60,ntmps60;go_upto_region 1 with fail;generalize a:w.alloc _=v1;obtain⟨c,j,b⟩:=LK a;have r:Row v1 w.heap.size (wL x q):=b.q;clear a j b;generalize Value.agg _=A0;go_cut [27] from 5 to 26 (λP Q=>P=yR (!(H && I && A && J))/\yX v1 Q)
 case first =>
  have u:=r.y 0;have b:=r.lt;go_wp2_with fail;refine(d.j _).J ?_;refine NE ?_
  cases H with
  | false=>go_wp2_with fail;go_meet;exact⟨rfl,AB _ _⟩
  | true =>
  have y:=r.y 1;have z:=r.y 2;go_wp2_with fail;refine(L.j _ (m.j.h1.I c) (m.j.h2.I c)).J ?_;rintro e v2 ⟨rfl,a⟩;clear u y z b
  cases I with
  | false=>go_wp2_with fail;go_meet;exact⟨rfl,a⟩
  | true =>
  have j:=(r.I a).y 14;have b:=(r.I a).lt;go_wp2_with fail;refine(R.j _).J ?_;refine NE ?_
  cases A with
  | false=>go_wp2_with fail;go_meet;exact⟨rfl,a⟩
  | true =>
  have D:=(r.I a).y 15
  cases J with
  | false =>
   have u:(2000:Int)<(x.ts.length:Int):=by have:=GT l;omega
   go_wp2_with fail;go_meet;exact⟨rfl,a⟩
  | true =>
   have u:¬(2000:Int)<(x.ts.length:Int):=by have:=AW l;omega
   go_wp2_with fail;go_meet;exact⟨by rw[AH (show ¬(2000:Int)<(x.ts.length:Int) by omega)];rfl,a⟩
 case rest =>
 obtain⟨rfl,a⟩:=hcut
 rename World=>v2
 replace r:=r.I a;replace c:=c.E (a.J c.size);clear a d L R
 cases hall:(H && I && A && J) with
 | false =>
  obtain rfl:E=false:=by
   rw[g.j]
   cases H with
   | false=>exact N0 o
   | true =>
   cases I with
   | false=>exact Eu F
   | true =>
   cases A with
   | false=>exact yG (by unfold PW;rw[AH (λk=>GT G ⟨ω,ω⟩)];rfl)
   | true =>
   cases J with
   | false=>exact nX (by unfold QP;rw[l];rfl)
   | true=>cases hall
  go_wp2;go_ret;exact⟨rfl,c⟩
 | true =>
  simp only[BD]at hall;obtain⟨⟨⟨rfl,rfl⟩,rfl⟩,rfl⟩:=hall;have hP:1<=x.P.length/\x.P.length<=200:=by have:=AW G;omega
  have bT:=AW l;have bB:=Y o;have bC:=Y F;clear o F G l;go_upto_region 3 with fail;go_cut [64] from 28 to 63 (λP Q=>P=yR (!K)/\yX v2 Q)
  case first =>
   obtain⟨u,y,z,l,L,P,Q,R,S,T,c10,F,c12,G,j,D,b⟩:=c16 r
   cases hup:x.up with
   | false =>
    rw[hup]at l;have d:=Y (show K=V by rw[<-p,Le hup];exact N);clear hup;go_wp2_with fail;clear u y z l L P Q R S T c10 F c12 G j D b;refine(B.j _).J ?_;rintro e U ⟨rfl,a⟩
    cases V with
    | false=>go_wp2_with fail;go_meet;exact⟨by rw[d.j];rfl,a⟩
    | true=>go_wp2_with fail;go_meet;exact⟨by rw[d.j];rfl,a⟩
   | true =>
    rw[hup]at l;have d:=Y (show K=(W && decide (x.W=x.w/\x.S=(x.ss.length:Int))) by rw[<-p,Nw hup,O]);go_wp2_with fail;clear u y z l L P Q R S T c10 F c12 G j D b;refine(C.j _ (m.j.h3.I c)).J ?_;rintro e U ⟨rfl,a⟩;replace r:=r.I a;obtain⟨u,y,z,l,L,P,Q,R,S,T,c10,F,c12,G,j,D,b⟩:=c16 r;rw[hup]at l;clear hup
    cases W with
    | false=>go_wp2_with fail;go_meet;exact⟨by rw[d.j];rfl,a⟩
    | true =>
    by_cases hw:x.W=x.w
    ·by_cases X:x.S=(x.ss.length:Int)
     ·have o:=Y (AG hw X)
      go_wp2_with fail;go_meet;exact⟨by rw[d.j,AM o.j];rfl,a⟩
     have o:=Y X
     go_wp2_with fail;go_meet;exact⟨by rw[d.j,AH (λk=>o.j k.2)];rfl,a⟩
    have o:=Y hw
    go_wp2_with fail;go_meet;exact⟨by rw[d.j,AH (λk=>o.j k.1)];rfl,a⟩
  case rest =>
  obtain⟨rfl,a⟩:=hcut
  rename World=>U
  replace r:=r.I a;replace c:=c.E (a.J c.size);clear a B C O N
  cases K with
  | false =>
   obtain rfl:E=false:=by rw[g.j];exact Gb p
   go_wp2;go_ret;exact⟨rfl,c⟩
  | true =>
   have L:=Y p;clear p;have j:=r.y 14;have b:=r.lt;go_wp2_with fail;clear j b;go_loopw [3] (λi wr=>∃k:Nat,k<=x.P.length/\i=Z (k:Int)/\Hid (∀j,j<k->LX (x.P.getD j [])=true)/\Hid (yX U wr)) (λi _=>x.P.length-(intOf i).toNat)
   case atStart=>exact⟨0,AL _,rfl,λj a=>absurd a ω,AB _ _⟩
   case round =>
    obtain⟨k,hk,rfl,F,y⟩:=hrel;have l:=c.E (y.j.J c.size);replace r:=r.I y.j;have R:=r.y 14;have ql:=r.lt
    by_cases D:k<x.P.length
    ·have O:(k:Int)<(x.P.length:Int):=ω
     obtain⟨b,o,p,P,G,Q,N,B⟩:=(m.j.h4.I l).at D;obtain⟨d,z⟩:∃d,Hid (d=x.P.getD k []):=⟨_,Y rfl⟩;rw[<-z.j]at N B;have C:d∈x.P:=by rw[z.j];simp[List.getD,D]
     have u:=Y (ew p d P wr B.j (M.j.s4 d C).1 (M.j.s4 d C).2);clear C B r;rw[G]at R;clear G
     cases hst:LX d with
     | false =>
      obtain rfl:E=false:=by rw[g.j];exact yG (Hd k D (by rw[<-z.j];exact hst))
      rw[hst]at u;go_wp2_with (go_at_call 82;refine u.j.J ?_;rintro e G ⟨rfl,B⟩);go_ret;exact⟨rfl,l.E (B.J l.size)⟩
     | true =>
      rw[hst]at u;have C:=Y hst;clear hst;go_wp2_with (go_at_call 82;refine u.j.J ?_;rintro e G ⟨rfl,B⟩);go_roundw
      case rel =>
       refine⟨_,_,_,_,_,_,_,_,_,_,_,_,_,_,_,_,?_,rfl⟩
       exact⟨k+1,ω,ν,λj a=>by
        by_cases e:j=k
        ·subst e;rw[<-z.j];exact C.j
        exact F.j j ω,y.j.E (B.J y.j.size)⟩
      case measure=>simp[intOf];omega
    have O:¬(k:Int)<(x.P.length:Int):=ω
    have N:=Y (Kl hP (λj a=>F.j j ω));have S:=r.y 15;go_wp2;go_loopw [4] (λi b=>∃k:Nat,k<=x.ts.length/\i=Z (k:Int)/\Hid (∀j,j<k->(x.ts.getD j empty).size=64)/\b=wr) (λi _=>x.ts.length-(intOf i).toNat)
    case atStart=>exact⟨0,AL _,rfl,λj a=>absurd a ω,by first|rfl|trivial⟩
    case round =>
     obtain⟨d,T,rfl,z,Q⟩:=hrel;subst Q
     by_cases u:d<x.ts.length
     ·have G:(d:Int)<(x.ts.length:Int):=ω
      obtain⟨b,o,s,P,hc,p⟩:=(m.j.h5.I l).at u;rw[P]at S;have X:=M.j.s5 s (by rw[p.j];simp[List.getD,u])
      by_cases B:s.size=64
      ·have C:(s.size:Int)=64:=ω
       go_wp2;go_roundw
       case rel=>exact⟨d+1,ω,ν,λj a=>by
        by_cases e:j=d
        ·subst e;rw[<-p.j];exact B
        exact z.j j ω,by first|rfl|trivial⟩
       case measure=>simp[intOf];omega
      have C:¬(s.size:Int)=64:=ω
      obtain rfl:E=false:=by rw[g.j];exact nX (Ha d u (by rw[<-p.j];exact B))
      go_wp2;go_ret;exact⟨rfl,l⟩
     have G:¬(d:Int)<(x.ts.length:Int):=ω
     obtain rfl:E=true:=by rw[g.j];exact Oh bB.j bC.j L.j N.j (J4 ω (λj a=>z.j j ω))
     go_wp2;go_ret;exact⟨rfl,l⟩
def TN(n:Int)(ts:List yZ)(s:yZ):Bool:=(NB s n).isSome && !(ts.any λt=>decide (s=t))
def VY(n:Int)(ts:List yZ):List yZ->yZ
 | []=>empty
 | s::r=>if TN n ts s=true then s else VY n ts r
def UE(x:Wo):yZ:=if LW x=true then VY x.w x.ts x.ss else empty
theorem jt{n:Int}{r:List yZ}(h:TN n ts s=false):VY n ts (s::r)=VY n ts r:=by rw[VY,AF (by rw[h];simp)]
theorem wG{n:Int}{r:List yZ}(h:TN n ts s=true):VY n ts (s::r)=s:=by rw[VY,AI h]
theorem xU(h:∀j,j<ts.length->¬s=ts.getD j empty):(ts.any λt=>decide (s=t))=false:=by
 refine List.any_eq_false.2 λt b=>?_
 obtain⟨k,a,rfl⟩:=EL b;have:=h k a;simpa[List.getD,a] using this
theorem oV(j:Nat)(a:j<ts.length)(h:s=ts.getD j empty):(ts.any λt=>decide (s=t))=true:=by
 refine List.any_eq_true.2 ⟨ts.getD j empty,by simp[List.getD,a],by simpa using h⟩
theorem oW(h:¬s=t):(s.toList == t.toList)=false:=by
 rw[BI];intro a;rw[CZ,CZ]at a;exact h (EQ (Array.toList_inj.1 a))
theorem An(a:xA)(ts:List yZ)(c:Nat)(s:yZ)(w:xV)(h:Strs w a ts)(x:ts.length<=1048576):Calls prog 80 #[yI a ts.length c,yQ s] w λe b=>(∃r:Int,e=yT (Z r)/\(ts.any λt=>decide (s=t))=decide (0<=r))/\b=w:=by
 go_enter func80,ntmps80;go_wp2;go_loopw [5,8] (λ_ i wr=>∃k:Nat,k<=ts.length/\i=Z (k:Int)/\Hid (∀j,j<k->¬s=ts.getD j empty)/\wr=w) (λ_ i _=>ts.length-(intOf i).toNat)
 case atStart=>exact⟨0,AL _,rfl,λj g=>absurd g ω,by first|rfl|trivial⟩
 case round =>
  obtain⟨k,u,rfl,l,rfl⟩:=hrel
  by_cases p:k<ts.length
  ·have q:(k:Int)<(ts.length:Int):=ω
   obtain⟨b,o,t,rfl,r,m⟩:=h.at p
   by_cases f:s=t
   ·have d:=oV k p (f.E m.j)
    go_wp2;go_ret
    exact⟨⟨(k:Int),rfl,by first|(rw[d,AM ω])|omega|(simp[d];done)⟩,by first|rfl|trivial⟩
   have d:=oW f
   go_wp2;go_roundw
   case rel=>exact⟨k+1,ω,ν,λj g=>by
    by_cases e:j=k
    ·subst e;rw[<-m.j];exact f
    exact l.j j ω,by first|rfl|trivial⟩
   case measure=>simp[intOf];omega
  have q:¬(k:Int)<(ts.length:Int):=ω
  have d:=xU (ts:=ts) (s:=s) (λj g=>l.j j ω);go_wp2;go_ret
  exact⟨⟨-1,rfl,by first|(rw[d,AH ω])|omega|(simp[d];done)⟩,by first|rfl|trivial⟩
theorem oC(a:xA)(ts:List yZ)(c:Nat)(s:yZ)(w:xV)(h:Strs w a ts)(f:ts.length<=1048576):Calls prog 50 #[yI a ts.length c,yQ s] w λe b=>e=yT (yR (ts.any λt=>decide (s=t)))/\b=w:=by
 obtain⟨B,d⟩:∃B,Hid (B=(ts.any λt=>decide (s=t))):=⟨_,Y rfl⟩;have b:=Y (An a ts c s w h f);rw[<-d.j]at b⊢;go_enter func50,ntmps50;go_wp2_with (go_at_call 80;refine b.j.J ?_;rintro e j ⟨⟨r,rfl,g⟩,rfl⟩);go_ret;exact⟨by rw[g];rfl,rfl⟩
theorem Io(x:Wo)(q:Wp)(w:xV)(h:x.at w q)(X:x.rs.length<=q.cs)(R:x.le 1048576)(ty:TypeId)(v:qD)(hv:w.cell? (yA 7 0)=some (.iface ty v))(h0:w.cell? (yA 1 0)=some (.iface 320 (.agg #[zW 10 57])))(hg:7<w.heap.size):Calls prog 77 #[LT x q] w λe a=>e=yT (yQ (UE x))/\yX w a:=by
 have l:=Y (λa k=>qf x q a k X R);have CR:=Y (λs u (b:yX w u)=>xt s x.w u ty v ((b.cell (p:=(yA 7 0)) hg).E hv) ((b.cell (p:=(yA 1 0)) (by show 1<_;omega)).E h0) (by have:=b.size;omega));have T:=Y (λs u k=>oC q.t x.ts q.ct s u k R.l5);have a:yX w w:=AB _ _
 cases hok:LW x with
 | false =>
  have e:UE x=empty:=by unfold UE;rw[AF (by rw[hok];simp)]
  rw[e];rw[hok]at l;unfold LT at l⊢;clear e;go_enter func77,ntmps77;go_wp2_with fail;obtain⟨f,c⟩:∃m,m=(w.alloc (.cells (wA x q) 42)):=⟨_,rfl⟩;have bV:f.heap.size=w.heap.size+1:=by rw[c];simp
  have b:yX w f:=by show Below (w.heap.size) w f;rw[c];exact(AB _ _).alloc (by exact AA _) _
  have g:Row f (w.heap.size) (wL x q):=by rw[c];exact(kj w (wA x q) 42 (w.heap.size) σ)
  have d:Dep f (w.heap.size) (w.heap.size+1) (λW=>Row W (w.heap.size) (wL x q)):=bi g (AA _) ω ω;clear g;rw[<-c];clear c;have c:=a.E (b.J a.size);clear a;have a:=c;clear c;clear b;refine(l.j _ (h.I a)).J ?_;rintro e M ⟨rfl,b⟩;have bU:f.heap.size<=M.heap.size:=b.size;have c:=d.I b;clear d;have d:=c;clear c;have c:=a.E (b.J a.size);clear a;have a:=c;clear c;clear b;go_wp2;go_ret;exact⟨rfl,a⟩
 | true =>
  have cC:0<x.ss.length:=by
   have c:LO x.ss x.ws=true:=by
    unfold LW at hok;simp only[BD]at hok;exact hok.2.1
   have:=(OV c).1;omega
  obtain⟨r,j⟩:∃r,Hid (r=UE x):=⟨_,Y rfl⟩;have HF:Hid (VY x.w x.ts x.ss=r):=by show _=_;rw[j.j];unfold UE;rw[AI hok]
  rw[<-j.j];rw[hok]at l;have cI:=R.l1;obtain⟨qa,I,C,D,K,F,J,E,L,G⟩:=q;obtain⟨b0,H,cJ,V,_,_⟩:=h.h1.at cC;simp only at V;subst V;unfold LT at l⊢;simp only at l T X⊢;go_enter func77,ntmps77;go_wp2_with fail;obtain⟨f,c⟩:∃m,m=(w.alloc (.cells #[Z x.w,yI (zY b0 H) x.ss.length I,yI C x.ws.length D,yR x.up,Z x.W,Z x.S,Z x.L,Z x.T,Z x.H,Z x.F,Z x.R,Z x.U,Z x.O,yI K x.rs.length F,yI J x.P.length E,yI L x.ts.length G] 42)):=⟨_,rfl⟩;have bV:f.heap.size=w.heap.size+1:=by rw[c];simp
  have b:yX w f:=by show Below (w.heap.size) w f;rw[c];exact(AB _ _).alloc (by exact AA _) _
  have g:Row f (w.heap.size) [Z x.w,yI (zY b0 H) x.ss.length I,yI C x.ws.length D,yR x.up,Z x.W,Z x.S,Z x.L,Z x.T,Z x.H,Z x.F,Z x.R,Z x.U,Z x.O,yI K x.rs.length F,yI J x.P.length E,yI L x.ts.length G]:=by rw[c];exact(kj w #[Z x.w,yI (zY b0 H) x.ss.length I,yI C x.ws.length D,yR x.up,Z x.W,Z x.S,Z x.L,Z x.T,Z x.H,Z x.F,Z x.R,Z x.U,Z x.O,yI K x.rs.length F,yI J x.P.length E,yI L x.ts.length G] 42 (w.heap.size) σ)
  have d:Dep f (w.heap.size) (w.heap.size+1) (λW=>Row W (w.heap.size) [Z x.w,yI (zY b0 H) x.ss.length I,yI C x.ws.length D,yR x.up,Z x.W,Z x.S,Z x.L,Z x.T,Z x.H,Z x.F,Z x.R,Z x.U,Z x.O,yI K x.rs.length F,yI J x.P.length E,yI L x.ts.length G]):=bi g (AA _) ω ω;clear g;rw[<-c];clear c;have c:=a.E (b.J a.size);clear a;have a:=c;clear c;clear b;refine(l.j _ (h.I a)).J ?_;rintro e M ⟨rfl,b⟩;have bU:f.heap.size<=M.heap.size:=b.size;have c:=d.I b;clear d;have d:=c;clear c;have c:=a.E (b.J a.size);clear a;have a:=c;clear c;clear b;obtain⟨y,z,A,B,N,O,P,Q,S,U,b,c,g,m,o,p⟩:=d.q.k16;have W:=d.q.lt;go_wp2;clear y z A B N O P Q S U b c g m o p W;have p:=Y d;have U:=Y a
  clear d a j;go_loopw [4,5,6,14] (λ_ _ _ i wr=>∃k:Nat,k<=x.ss.length/\i=Z (k:Int)/\Hid (VY x.w x.ts (x.ss.drop k)=r)/\Hid (yX M wr)) (λ_ _ _ i _=>x.ss.length-(intOf i).toNat)
  case atStart=>exact⟨0,AL _,rfl,by show _=_;rw[FH];exact HF.j,AB _ _⟩
  case round =>
   obtain⟨k,hk,rfl,z,a⟩:=hrel;have A:=U.j.E (a.j.J U.j.size)
   by_cases W:k<x.ss.length
   ·have bZ:(k:Int)<(x.ss.length:Int):=ω
    obtain⟨b,o,s,he,cF,HS⟩:=(h.h1.I A).at W;simp only at he
    cases he
    have N:Hid (x.ss.drop k=s::x.ss.drop (k+1)):=by show _=_;rw[YG x.ss k empty W,<-HS.j]
    have q0:=(p.j.I a.j).q.y 0;have cH:=(p.j.I a.j).q.lt;have g:=Y A;clear A;have j:=Y (CR.j s wr g.j)
    cases hR:NB s x.w with
    | none =>
     have y:TN x.w x.ts s=false:=by unfold TN;rw[hR];rfl
     rw[hR]at j;unfold TS ND at j;go_wp2_with (go_at_call 121;refine j.j.J ?_;rintro e m ⟨rfl,d⟩;have c:=Y d;clear d);go_roundw
     case rel=>exact⟨k+1,ω,ν,by show _=_;rw[<-z.j,N.j,jt y],a.j.E ((c.j.J a.j.size).E ((Oq m _).J (AJ a.j.size c.j.size)))⟩
     case measure=>simp[intOf];omega
    | some pg =>
     rw[hR]at j;obtain⟨pk,pl,pm,pp⟩:=pg;unfold TS ND at j;simp only at j;obtain⟨B,Q⟩:∃B,(x.ts.any λt=>decide (s=t))=B:=⟨_,rfl⟩;have P:=Y (λu k=>T.j s u k);rw[Q]at P
     cases B with
     | true =>
      have y:TN x.w x.ts s=false:=by unfold TN;rw[hR,Q];rfl
      go_wp2_with (first|(go_at_call 121;refine j.j.J ?_;rintro e m ⟨rfl,d⟩;have cE:=((p.j.I a.j).I d).q.y 15;have cA:=((p.j.I a.j).I d).q.lt;have c:=Y d;clear d)|(go_at_call 50;refine(P.j _ (h.h5.I (g.j.E ((c.j.J g.j.size).E ((Oq m _).J (AJ g.j.size c.j.size)))))).J ?_;rintro e S ⟨rfl,u⟩;rw[u];clear u S))
      go_roundw
      case rel=>exact⟨k+1,ω,ν,by show _=_;rw[<-z.j,N.j,jt y],a.j.E ((c.j.J a.j.size).E ((Oq m _).J (AJ a.j.size c.j.size)))⟩
      case measure=>simp[intOf];omega
     | false =>
      have y:TN x.w x.ts s=true:=by unfold TN;rw[hR,Q];rfl
      have O:r=s:=by rw[<-z.j,N.j,wG y]
      go_wp2_with (first|(go_at_call 121;refine j.j.J ?_;rintro e m ⟨rfl,d⟩;have cE:=((p.j.I a.j).I d).q.y 15;have cA:=((p.j.I a.j).I d).q.lt;have c:=Y d;clear d)|(go_at_call 50;refine(P.j _ (h.h5.I (g.j.E ((c.j.J g.j.size).E ((Oq m _).J (AJ g.j.size c.j.size)))))).J ?_;rintro e S ⟨rfl,u⟩;rw[u];clear u S))
      go_ret
      exact⟨by first|rfl|(rw[O];rfl),g.j.E ((c.j.J g.j.size).E ((Oq m _).J (AJ g.j.size c.j.size)))⟩
   have bZ:¬(k:Int)<(x.ss.length:Int):=ω
   have O:r=empty:=by rw[<-z.j,DY ω];rfl
   go_wp2;go_ret
   exact⟨by first|rfl|(rw[O];rfl),A⟩
theorem Nn(x:Wo)(q:Wp)(w:xV)(h:x.at w q)(E:x.le 1048576):Calls prog 58 #[LT x q] w λe a=>e=yT (yQ (UE x))/\yX w a:=by
 have u:=Y (λa k=>mC x q a k E);have CR:=Y (λs wx (hs:s.size<=1048576)=>ux s x.w wx hs);have a:yX w w:=AB _ _;have cX:=E.l1;have cZ:=E.l5;unfold LT at u⊢
 cases hok:LW x with
 | false =>
  have e:UE x=empty:=by unfold UE;rw[AF (by rw[hok];simp)]
  rw[e];rw[hok]at u;clear e;go_enter func58,ntmps58;go_wp2_with fail;obtain⟨f,c⟩:∃j,j=(w.alloc (.cells (wA x q) 42)):=⟨_,rfl⟩;have bU:f.heap.size=w.heap.size+1:=by rw[c];simp
  have b:yX w f:=by show Below (w.heap.size) w f;rw[c];exact(AB _ _).alloc (by exact AA _) _
  have g:Row f (w.heap.size) (wL x q):=by rw[c];exact(kj w (wA x q) 42 (w.heap.size) σ)
  have d:Dep f (w.heap.size) (w.heap.size+1) (λW=>Row W (w.heap.size) (wL x q)):=bi g (AA _) ω ω;clear g;rw[<-c];clear c;have c:=a.E (b.J a.size);clear a;have a:=c;clear c;clear b;refine(u.j _ (h.I a)).J ?_;rintro e F ⟨rfl,b⟩;have bT:f.heap.size<=F.heap.size:=b.size;have c:=d.I b;clear d;have d:=c;clear c;have c:=a.E (b.J a.size);clear a;have a:=c;clear c;clear b;go_wp2;go_ret;exact⟨rfl,a⟩
 | true =>
  obtain⟨r,l⟩:∃r,Hid (r=UE x):=⟨_,Y rfl⟩;have HF:Hid (VY x.w x.ts x.ss=r):=by show _=_;rw[l.j];unfold UE;rw[AI hok]
  rw[<-l.j];rw[hok]at u;go_enter func58,ntmps58;go_wp2_with fail;obtain⟨f,c⟩:∃j,j=(w.alloc (.cells (wA x q) 42)):=⟨_,rfl⟩;have bU:f.heap.size=w.heap.size+1:=by rw[c];simp
  have b:yX w f:=by show Below (w.heap.size) w f;rw[c];exact(AB _ _).alloc (by exact AA _) _
  have g:Row f (w.heap.size) (wL x q):=by rw[c];exact(kj w (wA x q) 42 (w.heap.size) σ)
  have d:Dep f (w.heap.size) (w.heap.size+1) (λW=>Row W (w.heap.size) (wL x q)):=bi g (AA _) ω ω;clear g;rw[<-c];clear c;have c:=a.E (b.J a.size);clear a;have a:=c;clear c;clear b;refine(u.j _ (h.I a)).J ?_;rintro e F ⟨rfl,b⟩;have bT:f.heap.size<=F.heap.size:=b.size;have c:=d.I b;clear d;have d:=c;clear c;have c:=a.E (b.J a.size);clear a;have a:=c;clear c;clear b;obtain⟨y,z,A,B,C,D,G,H,I,J,b,c,g,m,o,p⟩:=d.q.k16;have K:=d.q.lt;go_wp2;clear y z A B C D G H I J b c g m o p K;have g:=Y d;have Q:=Y a;clear d a l;go_loopw [3,4,5,6,7] (λi _ _ _ _ wr=>∃k:Nat,k<=x.ss.length/\i=Z (k:Int)/\Hid (VY x.w x.ts (x.ss.drop k)=r)/\Hid (yX F wr)) (λi _ _ _ _ _=>x.ss.length-(intOf i).toNat)
  case atStart=>exact⟨0,AL _,rfl,by show _=_;rw[FH];exact HF.j,AB _ _⟩
  case round =>
   obtain⟨k,hk,rfl,z,a⟩:=hrel;have D:=Q.j.E (a.j.J Q.j.size);have O:=(g.j.I a.j).q.y 1;have cW:=(g.j.I a.j).q.lt
   by_cases I:k<x.ss.length
   ·have cO:(k:Int)<(x.ss.length:Int):=ω
    obtain⟨b,o,s,c,C,S⟩:=(h.h1.I D).at I;rw[c]at O;clear c;have cP:=E.s1 s (by rw[S.j];simp[List.getD,I]);have G:Hid (x.ss.drop k=s::x.ss.drop (k+1)):=by show _=_;rw[YG x.ss k empty I,<-S.j]
    have P:=(g.j.I a.j).q.y 0;have T:=Y D;clear D;have A:=Y (CR.j s wr cP);obtain⟨R,J⟩:∃R,NB s x.w=R:=⟨_,rfl⟩;rw[J]at A
    obtain⟨K,L,M,N,B,hV,H⟩:∃K L M N B,TS R=.tuple #[ND K L M N,yR B]/\B=R.isSome:=by
     cases R with
     | none=>exact⟨_,_,_,_,_,rfl,rfl⟩
     | some y=>obtain⟨k,l,m,p⟩:=y;exact⟨_,_,_,_,_,rfl,rfl⟩
    rw[hV]at A;unfold ND at A;go_wp2_with (go_at_call 86;refine A.j.J ?_;rintro e X ⟨rfl,c⟩;have l:=Y c;clear c);obtain⟨w3,c⟩:∃j,j=X.alloc (.cells #[Z K,Z L,Z M,yQ N] 127):=⟨_,rfl⟩;rw[<-c];have d:Hid (yX wr w3):=by rw[c];exact l.j.E ((Oq X _).J l.j.size)
    clear c l P O C;have cS:=((g.j.I a.j).I d.j).q.y 15;have O:=((g.j.I a.j).I d.j).q.y 1;have cY:=((g.j.I a.j).I d.j).q.lt;have U:=T.j.E (d.j.J T.j.size);go_loopw [6,7] (λc j l=>∃(n:Nat) (C:Bool),n<=x.ts.length/\j=Z (n:Int)/\c=yR C/\Hid ((C=true/\R.isSome=true/\∀i,i<n->¬s=x.ts.getD i empty)\/(C=false/\TN x.w x.ts s=false))/\Hid (l=w3)) (λ_ j _=>x.ts.length-(intOf j).toNat)
    case atStart =>
     refine⟨0,B,AL _,rfl,by first|rfl|(rw[H]),?_,by first|rfl|trivial⟩
     cases B with
     | true=>exact .inl ⟨rfl,H.symm,λi W=>absurd W ω⟩
     | false=>exact .inr ⟨rfl,by unfold TN;rw[J,<-H];rfl⟩
    case round =>
     obtain⟨n,C,hn,rfl,rfl,m,cI⟩:=hrel;have cQ:=cI.j;subst cQ
     by_cases l:n<x.ts.length/\C=true
     ·obtain⟨P,rfl⟩:=l
      have V:(n:Int)<(x.ts.length:Int):=ω
      obtain⟨bt,ot,t,c,cV,p⟩:=(h.h5.I U).at P;rw[c]at cS;clear c;rcases m.j with ⟨_,cL,cM⟩|⟨cJ,_⟩
      rotate_left
      ·cases cJ
      by_cases c:t=s
      ·have y:TN x.w x.ts s=false:=by unfold TN;rw[oV n P (by rw[<-p.j];exact c.symm)];simp
       have cH:=Y y;clear y;go_wp2;go_roundw
       case rel=>exact⟨n+1,false,ω,ν,by first|rfl|simp[c],.inr ⟨rfl,cH.j⟩,by first|rfl|trivial⟩
       case measure=>simp[intOf];omega
      have cT:=oW c
      have y:Hid (∀i,i<n+1->¬s=x.ts.getD i empty):=λi W=>by
       by_cases e:i=n
       ·subst e;rw[<-p.j];exactλe=>c e.symm
       exact cM i ω
      go_wp2;go_roundw
      case rel=>exact⟨n+1,true,ω,ν,by first|rfl|simp[c],.inl ⟨rfl,cL,y.j⟩,by first|rfl|trivial⟩
      case measure=>simp[intOf];omega
     have p:Hid (TN x.w x.ts s=C):=by
      rcases m.j with ⟨rfl,c,y⟩|⟨rfl,c⟩
      ·have V:¬n<x.ts.length:=λP=>l ⟨P,rfl⟩
       show _=_;unfold TN;rw[J,c,xU (λj P=>y j ω)];rfl
      exact c
     clear m
     have m:∀(P:Prop),(¬n<x.ts.length->P)->(n<x.ts.length->C=false->P)->P:=λP j y=>by
      by_cases c:n<x.ts.length
      ·cases C with
       | true=>exact absurd ⟨c,rfl⟩ l
       | false=>exact y c rfl
      exact j c
     refine m _ (λc=>?_) (λc y=>?_)
     ·have V:¬(n:Int)<(x.ts.length:Int):=ω
      clear l m
      cases C with
      | true =>
       have j:r=s:=by rw[<-z.j,G.j,wG p.j]
       go_wp2;go_ret
       exact⟨by first|rfl|(rw[j];rfl),U⟩
      | false =>
       go_wp2;go_roundw
       case rel=>exact⟨k+1,ω,ν,by show _=_;rw[<-z.j,G.j,jt p.j],a.j.E (d.j.J a.j.size)⟩
       case measure=>simp[intOf];omega
     have V:(n:Int)<(x.ts.length:Int):=ω
     subst y;clear l m;go_wp2;go_roundw
     case rel=>exact⟨k+1,ω,ν,by show _=_;rw[<-z.j,G.j,jt p.j],a.j.E (d.j.J a.j.size)⟩
     case measure=>simp[intOf];omega
   have cO:¬(k:Int)<(x.ss.length:Int):=ω
   have j:r=empty:=by rw[<-z.j,DY ω];rfl
   go_wp2;go_ret
   exact⟨by first|rfl|(rw[j];rfl),D⟩
def LH(n:Nat):yZ:=if h:n<10 then strOfNums [((48+n:Nat):Int)] else LH (n / 10)++strOfNums [((48+n % 10:Nat):Int)]
theorem p7:∀(k n:Nat),n<10 ^ (k+1)->(LH n).size<=k+1:=by
 intro k
 induction k with
 | zero=>intro n a;unfold LH;rw[dif_pos ω,CY];simp
 | succ k b =>
  intro n a;unfold LH
  split
  ·rw[CY];simp
  rw[BW,CY]
  have:=b (n / 10) (by rw[Nat.pow_succ]at a;omega);simp only[EI];omega
theorem jd(w:xV)(b:Nat)(n:Int)(h:w.cell? (yA b 0)=some (.int .u8 n)):(convert 24 9 (yI (zY b 0) 1 1)).run prog w=.ok (yQ (strOfNums [n])) w :=ES (P:=prog) _ 24 5 underlying24 underlying5 b 0 1 1 [n] rfl (λi a=>by
  have:i=0:=ω
  subst this
  simpa using h) 9 underlying9
theorem uY(x:Int)(a:0<=x)(b:x<=255):IntKind.u8.wrap x=x:=by simp[IntKind.wrap,IntKind.bits,IntKind.signed];omega
theorem gx:∀(k n:Nat) (w:xV),n<10 ^ k->k<=15->Calls prog 28 #[Z (n:Int)] w λe c=>e=yT (yQ (LH n))/\yX w c:=by
 intro k
 induction k with
 | zero =>
  intro n w a F;have b:n=0:=by simpa using a
  subst b;have j:=jd (w.alloc (.cells #[.int .u8 48] 5)) w.heap.size 48 σ;go_enter func28,ntmps28;go_wp2;go_ret;exact⟨by unfold LH;rfl,VP _ _⟩
 | succ k h =>
  intro n w a F;have r:(10:Nat) ^ (k+1)<=10 ^ 15:=Nat.pow_le_pow_right ω F;have l:(10:Nat) ^ 15=1000000000000000:=δ
  by_cases E:n<10
  ·have H:(n:Int)<10:=ω
   have J:IntKind.i64.wrap (48+(n:Int))=48+(n:Int):=eh _ ω ω;have I:IntKind.u8.wrap (48+(n:Int))=48+(n:Int):=uY _ ω ω;have j:=jd (w.alloc (.cells #[.int .u8 (48+(n:Int))] 5)) w.heap.size (48+(n:Int)) σ;have b:LH n=strOfNums [48+(n:Int)]:=by unfold LH;rw[dif_pos E];congr 2
   have o:=Y b;clear b;go_enter func28,ntmps28;go_wp2;go_ret;exact⟨by rw[o.j];rfl,VP _ _⟩
  have H:¬(n:Int)<10:=ω
  obtain⟨d,b⟩:∃d:Nat,n / 10=d:=⟨_,rfl⟩;obtain⟨m,f⟩:∃m:Nat,n % 10=m:=⟨_,rfl⟩;have O:(n:Int).tdiv 10=(d:Int):=by rw[<-b];rfl
  have P:(n:Int).tmod 10=(m:Int):=by rw[<-f];rfl
  have M:IntKind.i64.wrap (d:Int)=(d:Int):=eh _ ω ω;have J:IntKind.i64.wrap (48+(m:Int))=48+(m:Int):=eh _ ω ω;have I:IntKind.u8.wrap (48+(m:Int))=48+(m:Int):=uY _ ω ω;have g:=Y (p7 14 d ω);have o:Hid (LH n=LH d++strOfNums [48+(m:Int)]):=Y (by rw[show LH n=LH (n / 10)++strOfNums [((48+n % 10:Nat):Int)] by rw[LH,dif_neg E],b,f];congr 2);have B:=Y (λc=>h d c (by rw[Nat.pow_succ]at a;omega) ω);obtain⟨p,D⟩:∃t,Hid (t=LH d):=⟨_,Y rfl⟩;obtain⟨z,q⟩:∃t,Hid (t=strOfNums [48+(m:Int)]):=⟨_,Y rfl⟩;have L:z.size=1:=by rw[q.j,CY];rfl
  have K:p.size<=15:=by rw[D.j];exact g.j
  rw[<-D.j]at B;rw[<-D.j,<-q.j]at o;have N:p.size<=9223372036854775806:=ω
  have Q:¬(9223372036854775807<p.size+z.size):=ω
  clear b f h r l a g;go_enter func28,ntmps28;go_upto_region 3 with fail;refine AN (S:=λc=>True) κ (trivial) (λb=>?_);refine TY 0 (Z (n:Int)) rfl b (TY 1 (Z (d:Int)) rfl b (TY 3 (Z (n:Int)) rfl b (TY 4 (Z (m:Int)) rfl b (TY 5 (Z (48+(m:Int))) rfl b (TY 6 (.int .u8 (48+(m:Int))) rfl b ?_)))));simp only[PS];refine ET (rs:=[2,7]) κ σ ?_;refine DC rfl (λf a=>?_) (DC rfl (λf a=>?_) EP)
  ·obtain⟨l,c⟩:∃y,y=w.drew:=⟨_,rfl⟩
   rw[<-c];have u:yX w l:=by show Below (w.heap.size) w l;rw[c];exact(AB _ _).drew
   clear c;refine LI ρ 28 #[Z (d:Int)] γ (B.j _) ?_;rintro e A ⟨rfl,C⟩;refine⟨_,rfl,?_⟩;have h:=u.E (C.J u.size);refine a.j _ _ b (λ_=>?_)
   try simp only[PS]
   refine RD 7 rfl (λf a=>?_);go_simp;have g:=VP A (.cells #[.int .u8 (48+(m:Int))] 5);have c:=LS A #[.int .u8 (48+(m:Int))] 5;obtain⟨G,r⟩:∃y,y=A.alloc (.cells #[.int .u8 (48+(m:Int))] 5):=⟨_,rfl⟩;obtain⟨X,j⟩:∃y,y=A.heap.size:=⟨_,rfl⟩;rw[<-r]at g c⊢;rw[<-j]at c⊢;have x:=h.E (g.J h.size);clear r j;refine a.j _ _ b (λ_=>?_)
   try simp only[PS]
   refine RD 8 rfl (λf a=>?_);have j:=jd _ _ _ (c.y 0);rw[<-q.j]at j;go_simp;refine a.j _ _ b (λ_=>?_)
   try simp only[PS]
   refine TY 9 (yQ (p++z)) rfl b ?_;simp only[PS];refine RD 10 rfl (λf a=>?_);go_simp;refine a.j _ _ b (λ_=>?_)
   try simp only[PS]
   refine DN ?_;go_wp2;go_ret;exact⟨by rw[o.j];rfl,x⟩
  obtain⟨l,c⟩:∃y,y=w.drew:=⟨_,rfl⟩
  rw[<-c];have u:yX w l:=by show Below (w.heap.size) w l;rw[c];exact(AB _ _).drew
  clear c;go_simp;have C:=VP l (.cells #[.int .u8 (48+(m:Int))] 5);have c:=LS l #[.int .u8 (48+(m:Int))] 5;obtain⟨A,r⟩:∃y,y=l.alloc (.cells #[.int .u8 (48+(m:Int))] 5):=⟨_,rfl⟩;obtain⟨X,j⟩:∃y,y=l.heap.size:=⟨_,rfl⟩;rw[<-r]at C c⊢;rw[<-j]at c⊢;have h:=u.E (C.J u.size);clear r j;refine a.j _ _ b (λ_=>?_)
  try simp only[PS]
  refine ET (rs:=[2,8]) κ σ ?_;refine DC rfl (λf a=>?_) (DC rfl (λf a=>?_) EP)
  ·refine LI ρ 28 #[Z (d:Int)] γ (B.j _) ?_
   rintro e G ⟨rfl,g⟩;refine⟨_,rfl,?_⟩;have x:=h.E (g.J h.size);have c:=c.I g;refine a.j _ _ b (λ_=>?_)
   try simp only[PS]
   refine RD 8 rfl (λf a=>?_);have j:=jd _ _ _ (c.y 0);rw[<-q.j]at j;go_simp;refine a.j _ _ b (λ_=>?_)
   try simp only[PS]
   refine TY 9 (yQ (p++z)) rfl b ?_;simp only[PS];refine RD 10 rfl (λf a=>?_);go_simp;refine a.j _ _ b (λ_=>?_)
   try simp only[PS]
   refine DN ?_;go_wp2;go_ret;exact⟨by rw[o.j];rfl,x⟩
  have j:=jd _ _ _ (c.y 0)
  rw[<-q.j]at j;go_simp;refine a.j _ _ b (λ_=>?_)
  try simp only[PS]
  refine RD 2 rfl (λf a=>?_);refine LI ρ 28 #[Z (d:Int)] γ (B.j _) ?_;rintro e G ⟨rfl,g⟩;refine⟨_,rfl,?_⟩;have x:=h.E (g.J h.size);have c:=c.I g;refine a.j _ _ b (λ_=>?_)
  try simp only[PS]
  refine TY 9 (yQ (p++z)) rfl b ?_;simp only[PS];refine RD 10 rfl (λf a=>?_);go_simp;refine a.j _ _ b (λ_=>?_)
  try simp only[PS]
  refine DN ?_;go_wp2;go_ret;exact⟨by rw[o.j];rfl,x⟩
theorem yw(n:Nat)(h:n<256):(strOfNums [(n:Int)]).data.toList=[UInt8.ofNat n]:=by
 simp[strOfNums]
theorem zi:∀(k n:Nat),n<10 ^ (k+1)->(LH n).data.toList=Lib.decDigits n:=by
 intro k
 induction k with
 | zero =>
  intro n a;rw[LH,Lib.decDigits,dif_pos ω,dif_pos ω];exact yw (48+n) ω
 | succ k b =>
  intro n a
  by_cases h:n<10
  ·rw[LH,Lib.decDigits,dif_pos h,dif_pos h]
   exact yw (48+n) ω
  rw[LH,Lib.decDigits,dif_neg h,dif_neg h]
  have:=b (n / 10) (by rw[Nat.pow_succ]at a;omega);rw[ByteArray.data_append,Array.toList_append,this,yw (48+n % 10) ω]
def UP(l:List UInt8):Nat:=l.foldl (λa c=>a*10+(c.toNat-48)) 0
def UY(l:List UInt8):Bool:=l.all λc=>decide (48<=c.toNat/\c.toNat<=57)
theorem zH(l:List UInt8)(c:UInt8):UP (l++[c])=UP l*10+(c.toNat-48):=by simp[UP]
theorem zh(d:Nat)(h:d<10):(UInt8.ofNat (48+d)).toNat=48+d:=τ
theorem gu:∀(k n:Nat),n<10 ^ (k+1)->UP (Lib.decDigits n)=n/\UY (Lib.decDigits n)=true/\1<=(Lib.decDigits n).length:=by
 intro k
 induction k with
 | zero =>
  intro n b;rw[Lib.decDigits,dif_pos ω];have:=zh n ω;refine⟨?_,?_,σ⟩
  ·simp only[UP,GV,List.foldl_nil];omega
  simp only[UY,List.all_cons,List.all_nil,Bool.and_true,BG];omega
 | succ k d =>
  intro n b
  by_cases h:n<10
  ·have:=zh n h
   rw[Lib.decDigits,dif_pos h];refine⟨?_,?_,σ⟩
   ·simp only[UP,GV,List.foldl_nil];omega
   simp only[UY,List.all_cons,List.all_nil,Bool.and_true,BG];omega
  rw[Lib.decDigits,dif_neg h]
  obtain⟨c,a,e⟩:=d (n / 10) (by rw[Nat.pow_succ]at b;omega);have:=zh (n % 10) ω;refine⟨?_,?_,σ⟩
  ·rw[zH,c];omega
  unfold UY at a⊢
  rw[List.all_append,a];simp only[List.all_cons,List.all_nil,Bool.and_true,GK,BG];omega
def SQ(s:yZ):Option Nat:=if s.size<=6/\Lib.decDigits (UP s.data.toList)=s.data.toList then some (UP s.data.toList) else none
theorem qS:∀(l:List UInt8) (aA:Nat),UY l=true->l.foldl (λa c=>a*10+(c.toNat-48)) aA<(aA+1)*10 ^ l.length
 | [],aA,_=>σ
 | c::r,aA,hd=>by
  unfold UY at hd;rw[List.all_cons,BD,BG]at hd;rw[GV,BJ,Nat.pow_succ,Nat.mul_comm (10 ^ r.length),<-Nat.mul_assoc];exact AC (qS r _ hd.2) (Nat.mul_le_mul_right _ ω)
theorem pQ(l:List UInt8)(k:Nat)(b:l.length<=k)(a:UY l=true):UP l<10 ^ k:=by
 have:=qS l 0 a;rw[BK,JY]at this;exact AC this (Nat.pow_le_pow_right ω b)
theorem kh(h:SQ s=some n):s.size<=6/\s.data.toList=Lib.decDigits n/\n<1000000:=by
 unfold SQ at h
 split at h
 ·rename_i a
  injection h with h;subst h;refine⟨a.1,a.2.symm,?_⟩;obtain⟨k,c⟩:∃k,UP s.data.toList<10 ^ (k+1):=⟨UP s.data.toList,AC (Nat.lt_pow_self ω) (Nat.pow_le_pow_right ω ω)⟩;have b:=(gu k _ c).2.1;rw[a.2]at b;exact pQ s.data.toList 6 a.1 b
 cases h
theorem Lu(b:s.size<=6)(a:s.data.toList=Lib.decDigits n)(c:n<10 ^ 19):SQ s=some n:=by
 have hv:UP s.data.toList=n:=by rw[a];exact(gu 18 n c).1
 unfold SQ;rw[AI ⟨b,by rw[hv,a]⟩,hv]
theorem nF:∀(l:List UInt8) (aA:Nat),UY l=true->(aA+1)*10 ^ l.length<=1000000000->Lib.parseUint10 aA l=.ok (l.foldl (λa c=>a*10+(c.toNat-48)) aA)
 | [],aA,_,_=>rfl
 | c::r,aA,hd,hl=>by
  unfold UY at hd;rw[List.all_cons,BD,BG]at hd;have hp:(aA+1)*10<=(aA+1)*10 ^ (c::r).length:=Nat.mul_le_mul_left _ (by rw[BJ,Nat.pow_succ];have:=Nat.pow_pos (n:=r.length) (show 0<10 by omega);omega);unfold Lib.parseUint10;rw[AI hd.1,AF ω,AF ω,nF r _ hd.2 ?_]
  ·rfl
  rw[BJ,Nat.pow_succ]at hl
  refine AJ (Nat.mul_le_mul_right _ (show aA*10+(c.toNat-48)+1<=(aA+1)*10 by omega)) ?_;rw[Nat.mul_assoc,Nat.mul_comm 10];exact hl
theorem vI(h:SQ s=some n):Lib.atoiAll s.data.toList=.ok (n:Int)/\Lib.itoa (n:Int)=s.data.toList:=by
 obtain⟨g,d,j⟩:=kh h;have b:=gu 18 n ω;rw[<-d]at b;refine⟨?_,by rw[Lib.itoa_nonneg,d]⟩;have m:s.data.toList.length=s.size:=rfl;have f:=nF s.data.toList 0 b.2.1 (by have:=Nat.pow_le_pow_right (show 0<10 by omega) (show s.data.toList.length<=6 by omega);omega)
 obtain⟨c,r,e⟩:∃c r,s.data.toList=c::r:=by
  cases hh:s.data.toList with
  | nil=>rw[hh]at b;simp at b
  | cons c r=>exact⟨c,r,rfl⟩
 have l:48<=c.toNat/\c.toNat<=57:=by have:=b.2.1;rw[e]at this;unfold UY at this;rw[List.all_cons,BD,BG]at this;exact this.1
 have hv:List.foldl (λa c=>a*10+(c.toNat-48)) 0 s.data.toList=n:=b.1;rw[hv]at f;rw[e,Lib.atoiAll_plain c r ω ω,<-e];unfold Lib.parseMag;rw[AF (by rw[e];simp),f];simp[Lib.signless];omega
theorem Ei{v:Int}(c:0<=v)(d:v<=9223372036854775807)(a:s.size<=6)(b:(⟨(Lib.itoa v).toArray⟩:yZ)=s):SQ s=some v.toNat:=by
 obtain⟨n,rfl⟩:∃n:Nat,v=(n:Int):=⟨v.toNat,ω⟩;refine Lu a ?_ τ;rw[<-b,Lib.itoa_nonneg];simp
theorem XG{P:Program}(w:xV){B:Array Oper}{A:List Oper}{o:Oper}{a:Act}{Q:Exit->Act->xV->Prop}(E:o.guard=none)(s x:Operand)(t:TypeId)
  (K:o.op=.call { callee:=.builtin .append,args:=#[s,x],argTypes:=#[t,t] })
  (f:Nat){e:TypeId}{i:TypeInfo}{z:qD}{b q:Nat}(M:P.underlying t=some (.slice e))(p:P.info? e=some i/\i.zero=some z/\i.size=b/\i.bytes=q)(G:z.cells.size=b)(F:0<b)
 (n:Nat){r:List qD}(y:w.ownsRow f e b v n r)(L:a.eval s=v)
  (C:TypeId)(d:List qD)(m c:Nat)(N:a.eval x=yI (zY w.heap.size 0) m c)(I:d.length=m*b)(H:∀u∈d,u.oneCell'=true)
  (S:f<=w.heap.size)(J:0<m)(D:n+m<=1048576)(u:q<=64)
  (h:∀g j l,l.ownsRow f e b (yI (zY g 0) (n+m) j) (n+m) (r++d)->Below f w l->wpList P B Q A (a.put o.dst (yI (zY g 0) (n+m) j)) l):wpList P B Q (o::A) a (w.alloc (.cells d.toArray C)):=by
 refine wpList_append_lies _ E s x t K f e i z b q M p.1 p.2.1 p.2.2.1 p.2.2.2 G F v n r L (y.alloc _) (yA w.heap.size 0) m c d N I (World.news_of_block (by simpa using AU w (.cells d.toArray C))) H J (by unfold maxLen;omega) ?_ τ (w.heap.size+1) σ ?_
 ·exact AJ (Nat.mul_le_mul D u) ω
 intro g j l O R k3 T
 exact h g j l O (RU ((AB _ _).alloc ω _) (y.alloc _) R τ)
theorem sn{P:Program}(w:xV){G:Array Oper}{o:Oper}{a:Act}{K:Act->xV->Prop}{Q:Exit->Act->xV->Prop}{E:Prop}(C:o.guard=none)(s x:Operand)(t:TypeId)
  (L:o.op=.call { callee:=.builtin .append,args:=#[s,x],argTypes:=#[t,t] })
  (f:Nat){e:TypeId}{i:TypeInfo}{z:qD}{b q:Nat}(N:P.underlying t=some (.slice e))(p:P.info? e=some i/\i.zero=some z/\i.size=b/\i.bytes=q)(F:z.cells.size=b)(D:0<b)
 (n:Nat){r:List qD}(y:w.ownsRow f e b v n r)(M:a.eval s=v)
  (A:TypeId)(d:List qD)(m c:Nat)(O:a.eval x=yI (zY w.heap.size 0) m c)(I:d.length=m*b)(H:∀u∈d,u.oneCell'=true)
  (T:f<=w.heap.size)(J:0<m)(B:n+m<=1048576)(u:q<=64)
  (h:∀g j l,l.ownsRow f e b (yI (zY g 0) (n+m) j) (n+m) (r++d)->Below f w l->K (a.put o.dst (yI (zY g 0) (n+m) j)) l):if Region.wanted o (yielded G a.tmps)=true then Oper.wp P o a (w.alloc (.cells d.toArray A)) K Q else E:=by
 refine step_append_lies _ C s x t L f e i z b q N p.1 p.2.1 p.2.2.1 p.2.2.2 F D v n r M (y.alloc _) (yA w.heap.size 0) m c d O I (World.news_of_block (by simpa using AU w (.cells d.toArray A))) H J (by unfold maxLen;omega) ?_ τ (w.heap.size+1) σ ?_
 ·exact AJ (Nat.mul_le_mul B u) ω
 intro g j l R S k3 U
 exact h g j l R (RU ((AB _ _).alloc ω _) (y.alloc _) S τ)
def zQ(s:yZ)(b:UInt8)(w wr:xV)(d a c:qD):Prop:=∃(i f:Nat) (Q:List yZ),a=Z (f:Int)/\c=Z (i:Int)/\YE s b i f Q/\wr.ownsRow w.heap.size 9 1 d Q.length (Q.map Value.string)/\yX w wr
theorem um:(prog.info? 9).map (λi=>(i.zero,i.size,i.bytes))=some (some (yQ empty),1,16):=κ
theorem xv(s:yZ):∀u∈[yQ s],u.oneCell'=true:=by intro u a;rw[DK.1 a];rfl
theorem mY(s:yZ)(b:UInt8)(w:xV)(E:s.size<=30000):Calls prog 8 #[yQ s,.int .u8 (b.toNat:Int)] w λr a=>∃v,r=yT v/\a.ownsRow w.heap.size 9 1 v (MB b s).length ((MB b s).map Value.string)/\yX w a:=by
 obtain⟨F,m,a,c,d⟩:=VI um;have o:=Y (AG m (AG a (AG c d)));clear m a c d;go_enter func8,ntmps8;go_wp2;go_loopw [5,6,7] (λd c a wr=>zQ s b w wr d c a) (λ_ _ a _=>s.size-(intOf a).toNat)
 case atStart=>exact⟨0,0,[],rfl,rfl,As s b,DG _ #[] 0 (AA _) σ σ,(AB _ _).alloc (AA _) _⟩
 case round =>
  obtain⟨i,f,Q,rfl,rfl,a,d,c⟩:=hrel;have C:=Dw a;have A:=a.1;have B:=a.2.1;have e:=Y a;have l:=Y d;have j:=Y c;have q:=c.size;clear a d c
  by_cases p:i<s.size
  ·have z:(i:Int)<(s.size:Int):=ω
   have m:(0:Int)<=(i:Int):=ω
   have D:IntKind.i64.wrap ((i:Int)+1)=((i+1:Nat):Int):=by rw[OP _ ω ω];omega
   by_cases d:s[i]=b
   ·have u:((s[i].toNat:Int)=(b.toNat:Int)):=by rw[d]
    go_upto_region 7 with fail;refine AV ?_;go_wp2_with (at_builtin;refine XG wr rfl _ _ 27 rfl w.heap.size underlying27 o.j rfl ω Q.length l.j rfl _ [yQ (s.extract f i)] 1 1 rfl rfl (xv _) q ω ω ω ?_;intro x r y a c;have h:=Y a;have g:=Y c;clear a c);go_roundw
    case rel=>exact⟨i+1,i+1,_,rfl,ν,I2 e.j p d,by simpa using h.j,j.j.E g.j⟩
    case measure=>simp[intOf];omega
   have u:¬((s[i].toNat:Int)=(b.toNat:Int)):=λh=>d (by have:s[i].toNat=b.toNat:=ω;exact UInt8.toNat_inj.1 this)
   go_wp2;go_roundw
   case rel=>exact⟨i+1,f,Q,rfl,ν,Ds e.j p d,l.j,j.j⟩
   case measure=>simp[intOf];omega
  obtain rfl:i=s.size:=ω
  go_wp2_with (at_builtin;refine XG wr rfl _ _ 27 rfl w.heap.size underlying27 o.j rfl ω Q.length l.j rfl _ [yQ (s.extract f s.size)] 1 1 rfl rfl (xv _) q ω ω ω ?_;intro x r y a c;have h:=Y a;have g:=Y c;clear a c);go_ret;rw[Fg e.j];exact⟨_,rfl,by simpa using h.j,j.j.E g.j⟩
def RE(s:yZ):Int:=match SQ s with
 | some n=>(n:Int)
 | none=>-1
theorem zE(h:s.size=0\/6<s.size):SQ s=none:=by
 cases e:SQ s with
 | none=>rfl
 | some n =>
  obtain⟨b,a,c⟩:=kh e;have:=(gu 18 n ω).2.2;rw[<-a]at this;have d:s.data.toList.length=s.size:=rfl;omega
theorem yD(c:i<s.size)(h:¬(48<=s[i].toNat/\s[i].toNat<=57)):SQ s=none:=by
 cases e:SQ s with
 | none=>rfl
 | some n =>
  obtain⟨d,b,f⟩:=kh e;have a:=(gu 18 n ω).2.1;rw[<-b]at a;unfold UY at a;rw[DH]at a;have:=a s[i] (GA (show i<s.data.toList.length from c));exact absurd (AW this) h
theorem qm(a:i<s.size):s.data.toList.take (i+1)=s.data.toList.take i++[s[i]]:=by
 rw[List.take_add_one,AO (show i<s.data.toList.length from a)];rfl
def fo(s:yZ)(i n:Nat):Prop:=i<=s.size/\UY (s.data.toList.take i)=true/\n=UP (s.data.toList.take i)
theorem Aa(h:fo s i n)(b:i<s.size)(d:48<=s[i].toNat/\s[i].toNat<=57):fo s (i+1) (n*10+(s[i].toNat-48)):=by
 obtain⟨e,a,c⟩:=h;refine⟨ω,?_,by rw[qm b,zH,c]⟩;rw[qm b];unfold UY at a⊢;rw[List.all_append,a];simp[d]
theorem xM(h:fo s i n)(a:s.size<=6):n<1000000:=by
 rw[h.2.2];exact pQ _ 6 (by rw[AX];have:=h.1;omega) h.2.1
theorem Md(h:fo s s.size n)(b:s.size<=6):SQ s=if LH n=s then some n else none:=by
 have d:=xM h b;have e:UP s.data.toList=n:=by rw[h.2.2,AR (show s.data.toList.length<=s.size from AA _)]
 unfold SQ;rw[e];have a:=zi 5 n ω
 by_cases k:LH n=s
 ·rw[AI k,AI ⟨b,by rw[<-a,k]⟩]
 rw[AF k,AF (λc=>k (TE (by rw[a,c.2])))]
theorem Kv(s:yZ)(w:xV)(x:s.size<=30000):Calls prog 59 #[yQ s] w λr b=>r=yT (Z (RE s))/\yX w b:=by
 go_enter func59,ntmps59
 by_cases m:s.size=0
 ·have j:(s.size:Int)=0:=ω
  go_wp2;go_ret;exact⟨by unfold RE;rw[zE (.inl m)];rfl,AB _ _⟩
 have j:¬(s.size:Int)=0:=ω
 by_cases o:6<s.size
 ·have l:(6:Int)<(s.size:Int):=ω
  go_wp2;go_ret;exact⟨by unfold RE;rw[zE (.inr o)];rfl,AB _ _⟩
 have l:¬(6:Int)<(s.size:Int):=ω
 go_wp2;go_loop [3,4] (λc a=>∃i n:Nat,c=Z (n:Int)/\a=Z (i:Int)/\fo s i n) (λ_ a=>s.size-(intOf a).toNat)
 case atStart=>exact⟨0,0,rfl,rfl,AL _,rfl,rfl⟩
 case round =>
  obtain⟨i,n,rfl,rfl,a⟩:=hrel;have r:=a.1;have u:=xM a ω;have g:=Y a;clear a
  by_cases c:i<s.size
  ·have p:(i:Int)<(s.size:Int):=ω
   have q:(0:Int)<=(i:Int):=ω
   by_cases f:48<=s[i].toNat
   ·have d:¬((s[i].toNat:Int)<48):=ω
    by_cases h:s[i].toNat<=57
    ·have e:¬((57:Int)<(s[i].toNat:Int)):=ω
     have y:IntKind.u8.wrap ((s[i].toNat:Int)-48)=((s[i].toNat-48:Nat):Int):=by simp[IntKind.wrap,IntKind.bits,IntKind.signed];omega
     have z:IntKind.i64.wrap ((n:Int)*10)=((n*10:Nat):Int):=by rw[OP _ ω ω];omega
     have A:IntKind.i64.wrap ((s[i].toNat-48:Nat):Int)=((s[i].toNat-48:Nat):Int):=OP _ ω ω;have B:IntKind.i64.wrap (((n*10:Nat):Int)+((s[i].toNat-48:Nat):Int))=((n*10+(s[i].toNat-48):Nat):Int):=by rw[OP _ ω ω];omega
     have a:=Y (Aa g.j c ⟨f,h⟩);go_wp2;go_round
     case rel=>exact⟨i+1,_,rfl,ν,a.j⟩
     case measure=>simp[intOf];omega
    have e:(57:Int)<(s[i].toNat:Int):=ω
    go_wp2;go_ret;exact⟨by unfold RE;rw[yD c ω];rfl,AB _ _⟩
   have d:(s[i].toNat:Int)<48:=ω
   go_wp2;go_ret;exact⟨by unfold RE;rw[yD c ω];rfl,AB _ _⟩
  obtain rfl:i=s.size:=ω
  have f:=Y (Md g.j ω);have d:=Y (λb=>gx 6 n b ω ω)
  by_cases k:LH n=s
  ·have p:((LH n).toList == s.toList)=true:=by rw[k];simp
   go_wp2_with (go_at_call 28;refine(d.j _).J ?_;rintro e q ⟨rfl,a⟩;have b:=Y a;clear a);go_ret;exact⟨by unfold RE;rw[f.j,AI k];rfl,b.j⟩
  have p:((LH n).toList == s.toList)=false:=by rw[GE];intro h;exact k (EQ (by have:=beq_iff_eq.1 h;simpa[CZ] using BC List.toArray this))
  go_wp2_with (go_at_call 28;refine(d.j _).J ?_;rintro e q ⟨rfl,a⟩;have b:=Y a;clear a);go_ret;exact⟨by unfold RE;rw[f.j,AF k];rfl,b.j⟩
theorem ix(c:UInt8)(w:xV):Calls prog 81 #[.int .u8 (c.toNat:Int)] w λr a=>r=yT (Z (MO c))/\a=w:=by
 go_enter func81,ntmps81;have l:=c.toNat_lt;unfold MO
 by_cases e:48<=c.toNat/\c.toNat<=57
 ·rw[AI e]
  have a:(48:Int)<=(c.toNat:Int):=ω
  have b:(c.toNat:Int)<=57:=ω
  have h:IntKind.u8.wrap ((c.toNat:Int)-48)=(c.toNat:Int)-48:=by simp[IntKind.wrap,IntKind.bits,IntKind.signed];omega
  have j:IntKind.i64.wrap ((c.toNat:Int)-48)=(c.toNat:Int)-48:=OP _ ω ω;go_wp2;go_ret;exact⟨rfl,rfl⟩
 rw[AF e]
 by_cases f:97<=c.toNat/\c.toNat<=102
 ·rw[AI f]
  have a:(48:Int)<=(c.toNat:Int):=ω
  have b:¬(c.toNat:Int)<=57:=ω
  have d:(97:Int)<=(c.toNat:Int):=ω
  have g:(c.toNat:Int)<=102:=ω
  have h:IntKind.u8.wrap ((c.toNat:Int)-97)=(c.toNat:Int)-97:=by simp[IntKind.wrap,IntKind.bits,IntKind.signed];omega
  have j:IntKind.i64.wrap ((c.toNat:Int)-97)=(c.toNat:Int)-97:=OP _ ω ω;have m:IntKind.i64.wrap ((c.toNat:Int)-97+10)=(c.toNat:Int)-87:=by rw[OP _ ω ω];omega
  go_wp2;go_ret;exact⟨rfl,rfl⟩
 rw[AF f]
 by_cases a:(48:Int)<=(c.toNat:Int)
 ·have b:¬(c.toNat:Int)<=57:=ω
  by_cases d:(97:Int)<=(c.toNat:Int)
  ·have g:¬(c.toNat:Int)<=102:=ω
   go_wp2;go_ret;exact⟨rfl,rfl⟩
  go_wp2
  go_ret;exact⟨rfl,rfl⟩
 have d:¬(97:Int)<=(c.toNat:Int):=ω
 go_wp2;go_ret;exact⟨rfl,rfl⟩
theorem xL:(prog.info? 3).map (λi=>(i.zero,i.size,i.bytes))=some (some (Z 0),1,8):=κ
theorem qi:(prog.info? 5).map (λi=>(i.zero,i.size,i.bytes))=some (some (.int .u8 0),1,1):=κ
theorem ai(k:IntKind)(n:Int):∀u∈[Value.int k n],u.oneCell'=true:=by intro u a;rw[DK.1 a];rfl
def MZ(ws:List yZ):Bool:=ws.all λs=>decide (0<=RE s)
def OZ(ws:List yZ):List Int:=ws.map RE
theorem vf(a:k<ws.length)(h:RE (ws.getD k empty)<0):MZ ws=false:=by
 unfold MZ;refine FK.2 ⟨ws.getD k empty,by simp[List.getD,a],by rw[BG];omega⟩
theorem oQ(h:∀k,k<ws.length->0<=RE (ws.getD k empty)):MZ ws=true:=by
 unfold MZ;rw[DH];intro s b;obtain⟨k,a,rfl⟩:=EL b;have:=h k a;simpa[List.getD,a] using this
theorem uP(a:k<ws.length):OZ (ws.take (k+1))=OZ (ws.take k)++[RE (ws.getD k empty)]:=by
 unfold OZ;rw[List.take_add_one,DA];simp[List.getD,a]
def n4(ws:List yZ)(w wr:xV)(b a:qD):Prop:=∃i:Nat,i<=ws.length/\a=Z (i:Int)/\(∀k,k<i->0<=RE (ws.getD k empty))/\wr.ownsRow w.heap.size 3 1 b i ((OZ (ws.take i)).map (Value.int .i64))/\yX w wr
theorem Nk(a:xA)(ws:List yZ)(c:Nat)(w:xV)(h:Strs w a ws)(S:ws.length<=30000)(K:∀s∈ws,s.size<=30000):Calls prog 30 #[yI a ws.length c] w λr d=>∃v,r=yT (.tuple #[v,yR (MZ ws)])/\(MZ ws=true->d.ownsRow w.heap.size 3 1 v ws.length ((OZ ws).map (Value.int .i64)))/\yX w d:=by
 obtain⟨T,y,b,e,z⟩:=VI xL;have G:=Y (AG y (AG b (AG e z)));clear y b e z;go_enter func30,ntmps30;go_wp2;go_loopw [4,5] (λe b wr=>n4 ws w wr e b) (λ_ b _=>ws.length-(intOf b).toNat)
 case atStart=>exact⟨0,AL _,rfl,λk p=>ω,DG _ #[] 0 (AA _) σ σ,(AB _ _).alloc (AA _) _⟩
 case round =>
  obtain⟨i,R,rfl,A,r,f⟩:=hrel;have E:=f.size;have B:=Y A;have x:=Y r;have u:=Y f
  by_cases m:i<ws.length
  ·obtain⟨b,o,s,rfl,Q,j⟩:=(h.I f).at m
   have M:(i:Int)<(ws.length:Int):=ω
   have y:(0:Int)<=(i:Int):=ω
   have O:IntKind.i64.wrap ((i:Int)+1)=((i+1:Nat):Int):=by rw[OP _ ω ω];omega
   have q:=Y (λd=>Kv s d (by rw[j.j];have:=K (ws.getD i empty) (by simp[List.getD,m]);exact this));obtain⟨N,g⟩:∃N,Hid (N=RE s):=⟨_,Y rfl⟩;rw[<-g.j]at q;clear A r f h
   by_cases J:N<0
   ·go_wp2_with (go_at_call 59;refine(q.j _).J ?_;rintro e F ⟨rfl,d⟩;have l:=Y d;clear d)
    have e:MZ ws=false:=vf m (by rw[<-j.j,<-g.j];exact J);refine AE (by simp[results,results30,go_sem];rfl) rfl ⟨_,by rw[e],(λk=>(by rw[e]at k;cases k)),u.j.E (l.j.J E)⟩
   go_wp2_with (first|(go_at_call 59;refine(q.j _).J ?_;rintro e F ⟨rfl,d⟩;have l:=Y d;have z:=d.size;clear d)|(at_builtin;refine XG F rfl _ _ 73 rfl w.heap.size underlying73 G.j rfl ω i (LZ x.j l.j) rfl _ [Z N] 1 1 rfl rfl (ai _ _) ω ω ω ω ?_;intro P L U C D;have I:=Y C;have H:=Y D;clear C D))
   go_roundw
   case rel =>
    refine⟨i+1,ω,ν,λk p=>?_,?_,(u.j.E (l.j.J E)).E H.j⟩
    ·rcases Nat.lt_succ_iff_lt_or_eq.1 p with p|rfl
     ·exact B.j k p
     rw[<-j.j,<-g.j];omega
    rw[uP m,<-j.j,<-g.j,DA];exact I.j
   case measure=>simp[intOf];omega
  obtain rfl:i=ws.length:=ω
  rw[DF]at x;clear A r f h;have e:MZ ws=true:=oQ B.j;go_wp2;refine AE (by simp[results,results30,go_sem];rfl) rfl ⟨_,by rw[e],λ_=>x.j,u.j⟩
def uv(c:UInt8):qD:=.int .u8 (c.toNat:Int)
theorem fk{w:xV}{a:Nat}{D:List UInt8}(h:w.ownsRow a 5 1 v D.length (D.map uv)):(convert 24 9 v).run prog w=.ok (yQ ⟨D.toArray⟩) w:=by
 rcases MC h with ⟨rfl,d⟩|⟨g,b,rfl,_,_,j⟩
 ·rw[AD d]
  exact run_convert_bytes_nil w _ 5 underlying24 underlying5 0 0 _ underlying9
 have e:strOfNums (D.map λc=>(c.toNat:Int))=⟨D.toArray⟩:=TE (by
  rw[strOfNums_data,IM];refine(IG λc _=>?_).E (List.map_id _)
  simp)
 rw[<-e]
 exact ES (P:=prog) _ 24 5 underlying24 underlying5 g 0 D.length b (D.map λc=>(c.toNat:Int)) σ (λi f=>by
  rw[BK];refine j.cell i _ ?_
  simp[List.getD,f,uv]) 9 underlying9
def C9(s:yZ)(w wr:xV)(b a:qD):Prop:=∃(i:Nat) (D:List UInt8),a=Z (i:Int)/\US s i D/\wr.ownsRow w.heap.size 5 1 b D.length (D.map uv)/\yX w wr
theorem xJ(a:s.data.toList≠[45])(h:PU s.data.toList=none):MU s=none:=by unfold MU;rw[AF a,h];rfl
theorem uK{D:List UInt8}(a:s.data.toList≠[45])(h:PU s.data.toList=some D):MU s=some ⟨D.toArray⟩:=by unfold MU;rw[AF a,h];rfl
theorem RA(s:yZ):s.toList=s.data.toList:=CZ s
theorem Lx(x y:Int)(a:0<=x/\x<=15)(b:0<=y/\y<=15):IntKind.u8.wrap (16*x+y)=((UInt8.ofNat (16*x.toNat+y.toNat)).toNat:Int):=by
 have:(UInt8.ofNat (16*x.toNat+y.toNat)).toNat=16*x.toNat+y.toNat:=τ
 rw[this];simp[IntKind.wrap,IntKind.bits,IntKind.signed];omega
theorem zI(h:MU s=none):(Value.tuple #[yQ ((MU s).getD empty),yR (MU s).isSome])=.tuple #[yQ ⟨#[]⟩,yR false]:=by rw[h];rfl
theorem yp(s:yZ)(w:xV)(W:s.size<=30000):Calls prog 54 #[yQ s] w λr g=>r=yT (.tuple #[yQ ((MU s).getD empty),yR (MU s).isSome])/\yX w g:=by
 obtain⟨X,x,a,b,c⟩:=VI qi;have A:=Y (AG x (AG a (AG b c)));clear x a b c;obtain⟨O,m⟩:∃R,Hid (R=Value.tuple #[yQ ((MU s).getD empty),yR (MU s).isSome]):=⟨_,Y rfl⟩;rw[<-m.j];go_enter func54,ntmps54
 by_cases l:s.data.toList=[45]
 ·have e:(s.toList == [45])=true:=by rw[RA,l];rfl
  go_wp2;refine AE (v:=.tuple #[yQ ⟨#[]⟩,yR true]) (by simp[results,results54,go_sem]) rfl ⟨?_,AB _ _⟩;rw[m.j];unfold MU;rw[AI l];rfl
 have e:(s.toList == [45])=false:=by rw[RA];exact BI.2 l
 have j:=Y (λ(k:PU s.data.toList=none)=>m.j.E (zI (xJ l k)));have G:=Y (λD (k:PU s.data.toList=some D)=>m.j.E (show _=Value.tuple #[yQ ⟨D.toArray⟩,yR true] by rw[uK l k];rfl));go_wp2;go_loopw [4,5] (λb a wr=>C9 s w wr b a) (λ_ a _=>s.size-(intOf a).toNat)
 case atStart=>exact⟨0,[],rfl,wR s,DG _ #[] 0 (AA _) σ σ,(AB _ _).alloc (AA _) _⟩
 case round =>
  obtain⟨i,D,rfl,a,c,b⟩:=hrel;have P:=a.1;have S:=a.2.1;have d:=Y a;have u:=Y c;have f:=Y b;have E:=b.size;clear a c b e
  by_cases o:i<s.size
  ·have N:(i:Int)<(s.size:Int):=ω
   have x:(0:Int)<=(i:Int):=ω
   by_cases k1:33<=s[i].toNat
   rotate_left
   ·have H:(s[i].toNat:Int)<33:=ω
    go_wp2;refine AE (v:=.tuple #[yQ ⟨#[]⟩,yR false]) (by simp[results,results54,go_sem]) rfl ⟨by rw[j.j (uy d.j o (by unfold QK;rw[AH ω]) ω)],f.j⟩
   have H:¬(s[i].toNat:Int)<33:=ω
   by_cases k2:s[i].toNat<=126
   rotate_left
   ·have I:(126:Int)<(s[i].toNat:Int):=ω
    go_wp2;refine AE (v:=.tuple #[yQ ⟨#[]⟩,yR false]) (by simp[results,results54,go_sem]) rfl ⟨by rw[j.j (uy d.j o (by unfold QK;rw[AH ω]) ω)],f.j⟩
   have I:¬(126:Int)<(s[i].toNat:Int):=ω
   by_cases k3:s[i].toNat=37
   rotate_left
   ·have J:¬(s[i].toNat:Int)=37:=ω
    have b:IntKind.i64.wrap ((i:Int)+1)=((i+1:Nat):Int):=by rw[OP _ ω ω];omega
    go_wp2_with (at_builtin;refine XG wr rfl _ _ 24 rfl w.heap.size underlying24 A.j rfl ω D.length u.j rfl _ [.int .u8 (s[i].toNat:Int)] 1 1 rfl rfl (ai _ _) E ω ω ω ?_;intro F B M a c;have r:=Y a;have q:=Y c;clear a c);go_roundw
    case rel=>exact⟨i+1,_,ν,wX d.j o (by unfold QK;exact AM ω),by simpa[uv] using r.j,f.j.E q.j⟩
    case measure=>simp[intOf];omega
   have J:(s[i].toNat:Int)=37:=ω
   have U:IntKind.i64.wrap ((i:Int)+2)=((i+2:Nat):Int):=by rw[OP _ ω ω];omega
   by_cases L:s.size<=i+2
   ·have K:(s.size:Int)<=((i+2:Nat):Int):=ω
    go_wp2;refine AE (v:=.tuple #[yQ ⟨#[]⟩,yR false]) (by simp[results,results54,go_sem]) rfl ⟨by rw[j.j (qC d.j o k3 L)],f.j⟩
   have K:¬(s.size:Int)<=((i+2:Nat):Int):=ω
   have T:IntKind.i64.wrap ((i:Int)+1)=((i+1:Nat):Int):=by rw[OP _ ω ω];omega
   have l1:((i+1:Nat):Int)<(s.size:Int):=ω
   have l2:((i+2:Nat):Int)<(s.size:Int):=ω
   have l3:(0:Int)<=((i+1:Nat):Int):=ω
   have l4:(0:Int)<=((i+2:Nat):Int):=ω
   have m1:i+1<s.size:=ω
   have t2:((i:Int)+2).toNat=i+2:=ω
   have y:i+2<s.size:=ω
   have Q:=mp s[i+1];have R:=mp s[i+2]
   by_cases k5:MO s[i+1]<0
   ·go_wp2_with (go_at_call 81;refine(ix _ _).J ?_;rintro e c ⟨rfl,a⟩;rw[a];clear a c)
    refine AE (v:=.tuple #[yQ ⟨#[]⟩,yR false]) (by simp[results,results54,go_sem]) rfl ⟨by rw[j.j (uc d.j y k3 ω)],f.j⟩
   by_cases k6:MO s[i+2]<0
   ·go_wp2_with (go_at_call 81;refine(ix _ _).J ?_;rintro e c ⟨rfl,a⟩;rw[a];clear a c)
    refine AE (v:=.tuple #[yQ ⟨#[]⟩,yR false]) (by simp[results,results54,go_sem]) rfl ⟨by rw[j.j (uc d.j y k3 ω)],f.j⟩
   go_upto_region 13 with (go_at_call 81;refine(ix _ _).J ?_;rintro e c ⟨rfl,a⟩;rw[a];clear a c);obtain⟨C,z⟩:∃C,Hid (C=UInt8.ofNat (16*(MO s[i+1]).toNat+(MO s[i+2]).toNat)):=⟨_,Y rfl⟩;have x1:IntKind.i64.wrap (16*MO s[i+1])=16*MO s[i+1]:=OP _ ω ω;have x2:IntKind.i64.wrap (16*MO s[i+1]+MO s[i+2])=16*MO s[i+1]+MO s[i+2]:=OP _ ω ω;have x3:IntKind.u8.wrap (16*MO s[i+1]+MO s[i+2])=(C.toNat:Int):=by rw[z.j];exact Lx _ _ ω ω
   have V:IntKind.i64.wrap (((i+2:Nat):Int)+1)=((i+3:Nat):Int):=by rw[OP _ ω ω];omega
   refine AN (S:=λg=>True) κ (trivial) (λb=>?_);refine TY 0 (u4) rfl b (TY 1 (yQ s) rfl b (TY 2 (Z (i:Int)) rfl b (TY 3 (Z ((i+1:Nat):Int)) rfl b (TY 4 (.int .u8 (s[i+1].toNat:Int)) rfl b (TY 7 (yQ s) rfl b (TY 8 (Z (i:Int)) rfl b (TY 9 (Z ((i+2:Nat):Int)) rfl b (TY 10 (.int .u8 (s[i+2].toNat:Int)) rfl b ?_))))))));simp only[PS];have g:=b;refine RD 5 rfl (λp h=>?_);refine LI ρ 81 #[.int .u8 (s[i+1].toNat:Int)] γ (ix _ _) ?_;rintro e c ⟨rfl,a⟩;rw[a];clear a c;refine⟨_,rfl,?_⟩;refine h.j _ _ g (λ_=>?_)
   try simp only[PS]
   refine TY 6 (Z (16*MO s[i+1])) rfl g ?_;simp only[PS];refine RD 11 rfl (λp h=>?_);refine LI ρ 81 #[.int .u8 (s[i+2].toNat:Int)] γ (ix _ _) ?_;rintro e c ⟨rfl,a⟩;rw[a];clear a c;refine⟨_,rfl,?_⟩;refine h.j _ _ g (λ_=>?_)
   try simp only[PS]
   refine TY 12 (Z (16*MO s[i+1]+MO s[i+2])) rfl g (TY 13 (.int .u8 (C.toNat:Int)) rfl g ?_);simp only[PS];refine RD 14 rfl (λp h=>?_);go_simp;refine h.j _ _ g (λ_=>?_)
   try simp only[PS]
   refine RD 15 rfl (λp h=>?_);refine sn wr.drew rfl _ _ 24 rfl w.heap.size underlying24 A.j rfl ω D.length (u.j.drew) rfl _ [.int .u8 (C.toNat:Int)] 1 1 rfl rfl (ai _ _) E ω ω ω ?_;intro F B M a c;have r:=Y a;have q:=Y c;clear a c;refine h.j _ _ g (λ_=>?_)
   try simp only[PS]
   refine TY 16 (yI (zY F 0) (D.length+1) B) rfl g ?_;simp only[PS];refine DN ?_
   all_goals
    go_wp2_with fail;go_roundw
    case rel=>exact⟨i+3,_,ν,sW d.j y k3 ω ω,by rw[<-z.j];simpa[uv] using r.j,f.j.E ((AB _ _).drew.E q.j)⟩
    case measure=>simp[intOf];omega
  obtain rfl:i=s.size:=ω
  have a:=fk u.j;go_wp2;refine AE (v:=.tuple #[yQ ⟨D.toArray⟩,yR true]) (by simp[results,results54,go_sem]) rfl ⟨by rw[G.j D (wO d.j)],f.j⟩
@[reducible] def TV:yZ:=⟨#[48,49,50,51,52,53,54,55,56,57,97,98,99,100,101,102]⟩
theorem nz(j:Nat)(h:k=j)(b:j<16)(a:k<TV.size:=by(show _<16;omega)):TV[k]'a=TQ j:=by
 subst h;have:k=0\/k=1\/k=2\/k=3\/k=4\/k=5\/k=6\/k=7\/k=8\/k=9\/k=10\/k=11\/k=12\/k=13\/k=14\/k=15:=ω
 rcases this with rfl|rfl|rfl|rfl|rfl|rfl|rfl|rfl|rfl|rfl|rfl|rfl|rfl|rfl|rfl|rfl<;>rfl
theorem pT{a b c:Int}:∀u∈[Value.int .u8 a,.int .u8 b,.int .u8 c],u.oneCell'=true:=by intro u d;simp at d;rcases d with rfl|rfl|rfl<;>rfl
def C0(s:yZ)(w wr:xV)(b a:qD):Prop:=∃i:Nat,i<=s.size/\a=Z (i:Int)/\wr.ownsRow w.heap.size 5 1 b (SA (s.data.toList.take i)).length ((SA (s.data.toList.take i)).map uv)/\yX w wr
theorem Dv(s:yZ)(w:xV)(S:s.size<=30000):Calls prog 52 #[yQ s] w λr E=>r=yT (yQ (SR s))/\yX w E:=by
 obtain⟨T,u,a,b,c⟩:=VI qi;have x:=Y (AG u (AG a (AG b c)));clear u a b c;obtain⟨G,h⟩:∃R,Hid (R=SR s):=⟨_,Y rfl⟩;rw[<-h.j];go_enter func52,ntmps52
 by_cases g:s.size=0
 ·have d:(s.toList == [])=true:=by rw[RA,AD (show s.data.toList.length=0 from g)];rfl
  go_wp2;go_ret;exact⟨by rw[h.j];unfold SR;rw[AI g];rfl,AB _ _⟩
 have f:(s.toList == [])=false:=by rw[RA];exact BI.2 (λe=>g (BC List.length e))
 by_cases j:s.data.toList=[45]
 ·have d:(s.toList == [45])=true:=by rw[RA,j];rfl
  go_wp2;go_ret;exact⟨by rw[h.j];unfold SR;rw[AF g,AI j];rfl,AB _ _⟩
 have d:(s.toList == [45])=false:=by rw[RA];exact BI.2 j
 have F:=Y (show G=⟨(SA s.data.toList).toArray⟩ by rw[h.j];unfold SR;rw[AF g,AF j]);go_wp2;go_loopw [4,5] (λb a wr=>C0 s w wr b a) (λ_ a _=>s.size-(intOf a).toNat)
 case atStart=>exact⟨0,AL _,rfl,DG _ #[] 0 (AA _) σ σ,(AB _ _).alloc (AA _) _⟩
 case round =>
  obtain⟨i,Q,rfl,a,b⟩:=hrel;obtain⟨D,c⟩:∃D,Hid (D=SA (s.data.toList.take i)):=⟨_,Y rfl⟩;rw[<-c.j]at a;have N:D.length<=90000:=by rw[c.j];have:=lU (s.data.toList.take i);rw[AX]at this;omega
  have q:=Y a;have o:=Y b;have B:=b.size;clear a b d f
  by_cases H:i<s.size
  ·have M:(i:Int)<(s.size:Int):=ω
   have u:(0:Int)<=(i:Int):=ω
   have O:IntKind.i64.wrap ((i:Int)+1)=((i+1:Nat):Int):=by rw[OP _ ω ω];omega
   have e:=Y (show SA (s.data.toList.take (i+1))=_ by rw[qm H,qN,<-c.j])
   by_cases l:QK s[i]=true
   ·have I:=AW l
    have b:(33:Int)<=(s[i].toNat:Int):=ω
    have r:(s[i].toNat:Int)<=126:=ω
    have k3:¬(s[i].toNat:Int)=37:=ω
    rw[AI l]at e;go_wp2_with (at_builtin;refine XG wr rfl _ _ 24 rfl w.heap.size underlying24 x.j rfl ω D.length q.j rfl _ [.int .u8 (s[i].toNat:Int)] 1 1 rfl rfl (ai _ _) B ω ω ω ?_;intro C A J d f;have p:=Y d;have m:=Y f;clear d f);go_roundw
    case rel=>exact⟨i+1,ω,ν,by rw[e.j];simpa[uv] using p.j,o.j.E m.j⟩
    case measure=>simp[intOf];omega
   have I:¬(33<=s[i].toNat/\s[i].toNat<=126/\s[i].toNat≠37):=λk=>l (AM k)
   rw[AF l]at e;have P:=s[i].toNat_lt;have R:IntKind.u8.wrap ((s[i].toNat:Int) / 16)=(s[i].toNat:Int) / 16:=by simp[IntKind.wrap,IntKind.bits,IntKind.signed];omega
   have U:((s[i].toNat:Int)).tmod 16=(s[i].toNat:Int) % 16:=by rw[GF ω]
   have V:0<=(s[i].toNat:Int) / 16/\(s[i].toNat:Int) / 16<16:=ω
   have W:0<=(s[i].toNat:Int) % 16/\(s[i].toNat:Int) % 16<16:=ω
   have K:TV[((s[i].toNat:Int) / 16).toNat]'(by show _<16;omega)=TQ (s[i].toNat / 16):=nz _ ω ω;have L:TV[((s[i].toNat:Int) % 16).toNat]'(by show _<16;omega)=TQ (s[i].toNat % 16):=nz _ ω ω;obtain⟨X,y⟩:∃X,Hid (X=TQ (s[i].toNat / 16)):=⟨_,Y rfl⟩;obtain⟨a,z⟩:∃a,Hid (a=TQ (s[i].toNat % 16)):=⟨_,Y rfl⟩;rw[<-y.j]at K;rw[<-z.j]at L;rw[<-y.j,<-z.j]at e;go_upto_region 10 with fail;go_cut [32] from 17 to 32 (λb d=>b=yR false/\d=wr)
   case first =>
    by_cases b:(33:Int)<=(s[i].toNat:Int)
    ·by_cases r:(s[i].toNat:Int)<=126
     ·have k3:(s[i].toNat:Int)=37:=ω
      go_wp2_with fail;go_meet;exact⟨rfl,rfl⟩
     go_wp2_with fail
     go_meet;exact⟨rfl,rfl⟩
    go_wp2_with fail
    go_meet;exact⟨rfl,rfl⟩
   case rest =>
   obtain⟨rfl,b⟩:=hcut;rw[b];clear b wc;go_upto_region 12 with fail;refine AN (S:=λE=>True) κ (trivial) (λb=>?_);refine TY 0 (u4) rfl b (TY 1 (yQ TV) rfl b (TY 2 (yQ s) rfl b (TY 3 (Z (i:Int)) rfl b (TY 4 (.int .u8 (s[i].toNat:Int)) rfl b (TY 5 (.int .u8 (s[i].toNat / 16:Nat)) rfl b (TY 6 (.int .u8 (X.toNat:Int)) rfl b (TY 7 (yQ TV) rfl b (TY 8 (yQ s) rfl b (TY 9 (Z (i:Int)) rfl b (TY 10 (.int .u8 (s[i].toNat:Int)) rfl b (TY 11 (.int .u8 (s[i].toNat % 16:Nat)) rfl b ?_)))))))))));simp only[PS];refine TY 12 (.int .u8 (a.toNat:Int)) rfl b ?_;simp only[PS];refine RD 13 rfl (λE r=>?_);go_simp;refine r.j _ _ b (λ_=>?_)
   try simp only[PS]
   refine RD 14 rfl (λE r=>?_);refine sn wr.drew rfl _ _ 24 rfl w.heap.size underlying24 x.j rfl ω D.length (q.j.drew) rfl _ [.int .u8 37,.int .u8 (X.toNat:Int),.int .u8 (a.toNat:Int)] 3 3 rfl rfl pT B ω ω ω ?_;intro C A J d f;have p:=Y d;have m:=Y f;clear d f;refine r.j _ _ b (λ_=>?_)
   try simp only[PS]
   refine TY 15 (yI (zY C 0) (D.length+3) A) rfl b ?_;simp only[PS];refine DN ?_;go_wp2_with fail;go_roundw
   case rel=>exact⟨i+1,ω,ν,by rw[e.j];simpa[uv] using p.j,o.j.E ((AB _ _).drew.E m.j)⟩
   case measure=>simp[intOf];omega
  obtain rfl:i=s.size:=ω
  rw[AR (show s.data.toList.length<=s.size from AA _)]at c;have a:=fk q.j;go_wp2;go_ret;exact⟨by rw[F.j,<-c.j];rfl,o.j⟩
theorem tA(s:yZ)(c:UInt8)(w:xV):Calls prog 190 #[yQ s,.int .u8 (c.toNat:Int)] w λe a=>e=yT (Z (Lib.indexByte s.data.toList c))/\a=w:=by
 have a:((c.toNat:Int)).toNat.toUInt8=c:=σ
 have b:∀w,(callFunc 244 #[yQ s,.int .u8 (c.toNat:Int)]).run prog w=.ok (.value (Z (Lib.indexByte s.data.toList c))) w:=λw=>by
  rw[EF func244 κ κ κ (e:=Extern.BytealgIndexByte.indexByte) κ,Lib.run_indexByteString,a];rfl
 go_enter func190,ntmps190;go_wp2;go_ret;exact⟨rfl,rfl⟩
theorem uT(s:yZ)(c:UInt8)(w:xV):Calls prog 200 #[yQ s,.int .u8 (c.toNat:Int)] w λe a=>e=yT (Z (Lib.indexByte s.data.toList c))/\a=w:=by
 go_enter func200,ntmps200;go_wp2_with (go_at_call 190;refine(tA _ _ _).J ?_;rintro e a ⟨rfl,b⟩;rw[b];clear b a);go_ret;exact⟨rfl,rfl⟩
theorem Aj(s:yZ)(c:UInt8)(w:xV):Calls prog 98 #[yQ s,yQ ⟨#[c]⟩] w λe a=>e=yT (Z (s.data.toList.count c:Int))/\a=w:=by
 have b:∀w,(callFunc 142 #[yQ s,.int .u8 (c.toNat:Int)]).run prog w=.ok (.value (Z (s.data.toList.count c:Int))) w:=λw=>by
  rw[EF func142 κ κ κ (e:=Extern.BytealgCount.count) κ,Lib.run_countString];simp[Lib.countByte,Result.andThen]
 obtain⟨K,a⟩:∃K,Hid (K=(s.data.toList.count c:Int)):=⟨_,Y rfl⟩;rw[<-a.j]at b⊢;have d:(⟨#[c]⟩:yZ)[0]'(by show 0<1;omega)=c:=rfl;go_enter func98,ntmps98;go_wp2;go_ret;exact⟨rfl,rfl⟩
theorem M0(s:yZ)(c:UInt8)(w:xV):Calls prog 99 #[yQ s,yQ ⟨#[c]⟩] w λe a=>e=yT (Z (Lib.indexByte s.data.toList c))/\a=w:=by
 have g:Calls prog 143 #[yQ s,yQ ⟨#[c]⟩] w λe a=>e=yT (Z (Lib.indexByte s.data.toList c))/\a=w:=by
  go_enter func143,ntmps143
  by_cases d:s.data.toList=[c]
  ·have h:([c] == s.toList)=true:=by rw[RA,d];exact beq_self_eq_true _
   go_wp2;go_ret;exact⟨by rw[d];simp[Lib.indexByte],rfl⟩
  have h:([c] == s.toList)=false:=by rw[RA];exact BI.2 (λe=>d e.symm)
  have f:=Y (λw=>tA s c w);go_wp2_with (go_at_call 190;refine(f.j _).J ?_;rintro e a ⟨rfl,b⟩;rw[b];clear b a);go_ret;exact⟨rfl,rfl⟩
 go_enter func99,ntmps99;go_wp2_with (go_at_call 143;refine g.J ?_;rintro e a ⟨rfl,b⟩;rw[b];clear b a);go_ret;exact⟨rfl,rfl⟩
theorem yF(c:UInt8)(w:xV):Calls prog 116 #[.int .u8 (c.toNat:Int)] w λe a=>e=yT (yR (QK c))/\a=w:=by
 go_enter func116,ntmps116;unfold QK
 by_cases b:(32:Int)<(c.toNat:Int)
 ·by_cases d:(c.toNat:Int)<=126
  ·by_cases k3:(c.toNat:Int)=37
   ·have a:((c.toNat:Int) != 37)=false:=by simp[k3]
    rw[AH ω];go_wp2;go_ret;exact⟨rfl,rfl⟩
   have a:((c.toNat:Int) != 37)=true:=by simpa using k3
   rw[AM ω];go_wp2;go_ret;exact⟨rfl,rfl⟩
  rw[AH ω]
  go_wp2;go_ret;exact⟨rfl,rfl⟩
 rw[AH ω]
 go_wp2;go_ret;exact⟨rfl,rfl⟩
theorem pL{c:UInt8}:∀ {l:List UInt8},Lib.indexByte l c=-1->c ∉ l
 | [],_=>σ
 | x::l,h=>by
  unfold Lib.indexByte at h
  split at h
  ·omega
  rename_i hx
  split at h
  ·rename_i hl
   rw[DX,not_or];exact⟨λe=>hx (by rw[e];exact beq_self_eq_true _),pL (by simpa using hl)⟩
  have:=Lib.indexByte_ge l c;omega
theorem wZ{c:UInt8}:∀ {l:List UInt8} {m:Nat},Lib.indexByte l c=m->∃p q,l=p++c::q/\p.length=m/\c ∉ p
 | [],m,h=>by unfold Lib.indexByte at h;omega
 | x::l,m,h=>by
  unfold Lib.indexByte at h
  split at h
  ·rename_i a
   exact⟨[],l,by rw[eq_of_beq a];rfl,τ,σ⟩
  rename_i a
  split at h
  ·omega
  rename_i b
  have b:Lib.indexByte l c≠-1:=by simpa using b
  have f:=Lib.indexByte_ge l c;obtain⟨p,q,rfl,g,d⟩:=wZ (c:=c) (l:=l) (m:=(Lib.indexByte l c).toNat) ω;refine⟨x::p,q,rfl,τ,?_⟩;rw[DX,not_or];exact⟨λe=>a (by rw[e];exact beq_self_eq_true _),d⟩
def kn(s:yZ)(c:UInt8)(Q:List yZ)(t:yZ):Prop:=t.size<=s.size/\MB c s=Q++MB c t/\Q.length+t.data.toList.count c=s.data.toList.count c
theorem Bi{c:UInt8}{Q:List yZ}(h:kn s c Q t)(o:Q.length<s.data.toList.count c):∃m:Nat,Lib.indexByte t.data.toList c=m/\m<t.size/\kn s c (Q++[t.extract 0 m]) (t.extract (m+1) t.size):=by
 obtain⟨l,d,f⟩:=h;have m:=Lib.indexByte_ge t.data.toList c
 have j:Lib.indexByte t.data.toList c≠-1:=λe=>by have:=List.count_eq_zero.2 (pL e);omega
 obtain⟨p,q,e,r,b⟩:=wZ (c:=c) (l:=t.data.toList) (m:=(Lib.indexByte t.data.toList c).toNat) ω;have u:t.size=p.length+1+q.length:=by have:t.data.toList.length=t.size:=rfl;rw[<-this,e];simp;omega
 have a:(t.extract (p.length+1) t.size).data.toList=q:=by rw[Lib.extract_to_end,e,List.drop_append];simp
 have g:t.extract 0 p.length=⟨p.toArray⟩:=TE (by rw[Lib.extract_from_zero,e];simp);refine⟨p.length,ω,ω,by rw[AQ];omega,?_,?_⟩
 ·have:MB c t=t.extract 0 p.length::MB c (t.extract (p.length+1) t.size):=by
   unfold MB;rw[a,e,nf q b,g];rfl
  rw[d,this,BV];rfl
 rw[a,AK,EI]
 rw[e,List.count_append,List.count_cons_self,List.count_eq_zero.2 b]at f;omega
theorem L4{c:UInt8}{Q:List yZ}(h:kn s c Q t)(f:¬Q.length<s.data.toList.count c):MB c s=Q++[t]/\Q.length=s.data.toList.count c:=by
 obtain⟨d,b,e⟩:=h;have a:t.data.toList.count c=0:=ω
 refine⟨?_,ω⟩;rw[b];unfold MB;rw[nu (List.count_eq_zero.1 a)];rfl
def WG(Q:List yZ)(n:Nat):List qD:=Q.map Value.string++List.replicate n (yQ empty)
theorem o7(Q:List yZ)(n:Nat)(t:yZ):(WG Q (n+1)).set Q.length (yQ t)=WG (Q++[t]) n:=by
 unfold WG;rw[IR _ _ σ];simp[LB]
theorem Jn(Q:List yZ)(n:Nat):(WG Q n).length=Q.length+n:=by simp[WG]
def C6(s:yZ)(c:UInt8)(w wr:xV)(b a:qD):Prop:=∃(Q:List yZ) (t:yZ),b=yQ t/\a=Z (Q.length:Int)/\kn s c Q t/\Row wr w.heap.size (WG Q (s.data.toList.count c+1-Q.length))/\yX w wr
theorem Bg(s:yZ)(c:UInt8)(w:xV)(U:s.size<=30000):Calls prog 64 #[yQ s,yQ ⟨#[c]⟩,Z 0,Z (-1)] w λr b=>r=yT (yI (zY w.heap.size 0) (MB c s).length (MB c s).length)/\Row b w.heap.size ((MB c s).map Value.string)/\yX w b:=by
 obtain⟨K,d⟩:∃K,Hid (K=s.data.toList.count c):=⟨_,Y rfl⟩;have S:K<=s.size:=by rw[d.j];exact List.count_le_length
 have o:=Y (λb=>Aj s c b);rw[<-d.j]at o;have h:IntKind.i64.wrap ((K:Int)+1)=((K+1:Nat):Int):=by rw[OP _ ω ω];omega
 have j:IntKind.i64.wrap ((s.size:Int)+1)=((s.size+1:Nat):Int):=by rw[OP _ ω ω];omega
 have l:IntKind.i64.wrap (K:Int)=(K:Int):=OP _ ω ω;have f:min (K:Int) (s.size:Int)=(K:Int):=ω
 go_enter func64,ntmps64
 go_wp2_with (first|(go_at_call 98;refine(o.j _).J ?_;rintro e b ⟨rfl,g⟩;rw[g];clear g b)|(at_make;refine py rfl _ _ 27 rfl 9 _ 1 16 underlying27 um (K+1) rfl rfl ω ω ?_;intro G a z J;rw[L8]at a))
 have B:Row G w.heap.size (WG [] (K+1)):=a;clear a f h j l;go_loopw [0,10] (λb a wr=>C6 s c w wr b a) (λ_ a _=>K-(intOf a).toNat)
 case atStart=>exact⟨[],s,rfl,rfl,⟨AA _,rfl,σ⟩,by rw[<-d.j];exact B,z⟩
 case round =>
  obtain⟨Q,t,rfl,rfl,f,a,l⟩:=hrel;rw[<-d.j]at a;have r:=Y l;have L:=f.1;have A:=f.2.2;rw[<-d.j]at A;have q:=Jn Q (K+1-Q.length);obtain⟨u,V⟩:∃u,wr.cell? (yA w.heap.size Q.length)=some u:=⟨_,a.cell Q.length _ (AO ω)⟩;have T:=a.froz Q.length ω;have H:=a.lt
  by_cases x:Q.length<K
  ·obtain⟨m,F,I,g⟩:=Bi f (by rw[<-d.j];exact x)
   have y:=Y g;have C:(Q.length:Int)<(K:Int):=ω
   have M:¬((m:Int)<0):=ω
   have N:IntKind.i64.wrap (m:Int)=(m:Int):=OP _ ω ω;have O:IntKind.i64.wrap ((m:Int)+1)=((m+1:Nat):Int):=by rw[OP _ ω ω];omega
   have D:IntKind.i64.wrap ((Q.length:Int)+1)=((Q.length+1:Nat):Int):=by rw[OP _ ω ω];omega
   have P:(m:Int)<=(t.size:Int):=ω
   have R:(m:Int)+1<=(t.size:Int):=ω
   have E:(Q.length:Int)<(K:Int)+1:=ω
   have h:=Y (a.set Q.length ω (yQ (t.extract 0 m)));have j:=Y (show(WG Q (K+1-Q.length)).set Q.length (yQ (t.extract 0 m))=WG (Q++[t.extract 0 m]) (K+1-(Q++[t.extract 0 m]).length) by rw[show K+1-Q.length=(K-Q.length)+1 by omega,o7];simp);have p:=Y (λb=>M0 t c b);rw[F]at p;clear a f g q l;go_wp2_with (go_at_call 99;refine(p.j _).J ?_;rintro e b ⟨rfl,g⟩;rw[g];clear g b);exact⟨⟨_,_,rfl,σ,y.j,by rw[<-d.j,<-j.j];exact h.j,r.j.setCell (AA _) _⟩,by simp[intOf];omega⟩
  obtain⟨b,g⟩:=L4 f (by rw[<-d.j];exact x)
  rw[<-d.j]at g;have C:¬(Q.length:Int)<(K:Int):=ω
  have E:(Q.length:Int)<(K:Int)+1:=ω
  have D:IntKind.i64.wrap ((Q.length:Int)+1)=((Q.length+1:Nat):Int):=by rw[OP _ ω ω];omega
  have y:(Q.length:Int)+1<=(K:Int)+1:=ω
  have h:=Y (a.set Q.length ω (yQ t));have j:=Y (show(WG Q (K+1-Q.length)).set Q.length (yQ t)=(MB c s).map yQ by rw[show K+1-Q.length=0+1 by omega,o7,b];simp[WG]);have m:=Y (show(MB c s).length=Q.length+1 by rw[b];simp);have p:=Y g;clear a f q l b g;go_wp2;go_ret;rw[m.j,<-j.j];exact⟨by rw[p.j];rfl,h.j,r.j.setCell (AA _) _⟩
theorem uM(s:yZ)(c:UInt8)(w:xV)(h:s.size<=30000):Calls prog 34 #[yQ s,yQ ⟨#[c]⟩] w λr a=>r=yT (yI (zY w.heap.size 0) (MB c s).length (MB c s).length)/\Row a w.heap.size ((MB c s).map Value.string)/\yX w a:=by
 go_enter func34,ntmps34;go_wp2_with (go_at_call 64;refine(Bg s c _ h).J ?_;rintro e a ⟨rfl,b,d⟩;have f:=Y b;have g:=Y d;clear b d);go_ret;exact⟨rfl,f.j,g.j⟩
def TW(s:yZ):List yZ:=if (MB 10 s).getD ((MB 10 s).length-1) empty=empty then (MB 10 s).dropLast else MB 10 s
theorem uV:s=empty<->s.data.toList=[]:=⟨λh=>by rw[h];rfl,λh=>TE (by rw[h];rfl)⟩
theorem zP{w:xV}{g:Nat}{a:List qD}(h:Row w g a)(k:Nat):Row w g (a.take k):=⟨h.lt,λi v hv=>h.cell i v (by rw[FO]at hv;split at hv;exact hv;cases hv),λi b=>h.froz i (by rw[AX]at b;omega)⟩
theorem Av(s:yZ)(w:xV)(z:s.size<=20000):Calls prog 11 #[yQ s] w λr d=>∃f,r=yT (yI (zY w.heap.size 0) (TW s).length f)/\Row d w.heap.size ((TW s).map Value.string)/\yX w d:=by
 have g:=Y (λd=>uM s 10 d ω);obtain⟨L,j⟩:∃L,Hid (L=MB 10 s):=⟨_,Y rfl⟩;have q:=kg 10 s;have p:=ib 10 s;rw[<-j.j]at g q p;have x:IntKind.i64.wrap ((L.length:Int)-1)=((L.length-1:Nat):Int):=by rw[OP _ ω ω];omega
 have o:=Y (λ(k:TW s=if L.getD (L.length-1) empty=empty then L.dropLast else L)=>k);have b:=Y (show TW s=if L.getD (L.length-1) empty=empty then L.dropLast else L by unfold TW;rw[<-j.j]);clear o;go_enter func11,ntmps11;go_wp2_with (go_at_call 34;refine(g.j _).J ?_;rintro e A ⟨rfl,c,m⟩;have h:=Y m;have l:=Y c;have y:=c.cell (L.length-1) (yQ (L.getD (L.length-1) empty)) (by simp[List.getD,AO (show L.length-1<L.length by omega)]);have u:=c.lt;clear m c)
 ·rename_i a
  have a:L.getD (L.length-1) empty=empty:=uV.2 (by rw[<-RA];exact List.isEmpty_iff.1 a);rw[AI a]at b;go_ret;exact⟨L.length,by rw[b.j,List.length_dropLast];rfl,by rw[b.j,List.dropLast_eq_take,GS];exact zP l.j _,h.j⟩
 rename_i a
 have a:¬L.getD (L.length-1) empty=empty:=λe=>by
  have:=uV.1 e;rw[<-RA]at this;exact absurd (List.isEmpty_iff.2 this) (by simpa using a)
 rw[AF a]at b;go_ret;exact⟨L.length,by rw[b.j];rfl,by rw[b.j];exact l.j,h.j⟩
theorem Jr(c:UInt8):Lib.indexByte TV.data.toList c=MO c:=by
 have h:(List.range 256).all (λn=>decide (Lib.indexByte TV.data.toList (UInt8.ofNat n)=MO (UInt8.ofNat n)))=true:=κ
 have:=DH.1 h c.toNat (FP.2 c.toNat_lt);simpa using this
theorem M1(x y:Int)(e:0<=x/\x<=15)(f:0<=y/\y<=15):bits BinOp.or IntKind.i64 (x*16) y % 256=((UInt8.ofNat (16*x.toNat+y.toNat)).toNat:Int):=by
 have h:(List.range 16).all (λa=>(List.range 16).all λb=>decide (bits BinOp.or IntKind.i64 ((a:Int)*16) (b:Int)=(a:Int)*16+(b:Int)))=true:=κ
 have d:=DH.1 (DH.1 h x.toNat (FP.2 ω)) y.toNat (FP.2 ω);have c:=AW d;rw[show((x.toNat:Nat):Int)=x by omega,show((y.toNat:Nat):Int)=y by omega]at c;have:(UInt8.ofNat (16*x.toNat+y.toNat)).toNat=16*x.toNat+y.toNat:=τ
 rw[c,this];omega
def TO(t:yZ)(h:0<t.size):UInt8×Nat :=if QK t[0]=true then (t[0],1)
 else if h3:t[0].toNat=37/\3<=t.size then
  (if (0:Int)<=MO t[1]/\(0:Int)<=MO t[2] then (UInt8.ofNat (16*(MO t[1]).toNat+(MO t[2]).toNat),3) else (0,0))
 else (0,0)
theorem Kk(t:yZ)(h:0<t.size)(w:xV)(G:t.size<=30000):Calls prog 149 #[yQ t] w λr a=>r=yT (.tuple #[.int .u8 ((TO t h).1.toNat:Int),Z ((TO t h).2:Int)])/\yX w a:=by
 have E:(0:Int)<(t.size:Int):=ω
 have d:=Y (λa=>yF t[0] a);obtain⟨B,l⟩:∃B,Hid (B=QK t[0]):=⟨_,Y rfl⟩;rw[<-l.j]at d;obtain⟨F,f⟩:∃F,Hid (F=TO t h):=⟨_,Y rfl⟩;rw[<-f.j];go_enter func149,ntmps149
 cases B with
 | true =>
  have e:F=(t[0],1):=by rw[f.j];unfold TO;rw[AI l.j.symm]
  subst e;go_wp2_with (go_at_call 116;refine(d.j _).J ?_;rintro e a ⟨rfl,b⟩;rw[b];clear b a);refine AE (v:=.tuple #[.int .u8 (t[0].toNat:Int),Z 1]) (by simp[results,results149,go_sem]) rfl ⟨rfl,AB _ _⟩
 | false =>
 have o:¬QK t[0]=true:=by rw[<-l.j];simp
 by_cases g:t[0].toNat=37
 rotate_left
 ·have e:F=(0,0):=by rw[f.j];unfold TO;rw[AF o,dif_neg (λk=>g k.1)]
  subst e;have y:¬(t[0].toNat:Int)=37:=ω
  go_wp2_with (go_at_call 116;refine(d.j _).J ?_;rintro e a ⟨rfl,b⟩;rw[b];clear b a);refine AE (v:=.tuple #[.int .u8 0,Z 0]) (by simp[results,results149,go_sem]) rfl ⟨rfl,AB _ _⟩
 have y:((t[0].toNat:Int) != 37)=false:=by simp[g]
 by_cases u:3<=t.size
 rotate_left
 ·have e:F=(0,0):=by rw[f.j];unfold TO;rw[AF o,dif_neg (λk=>u k.2)]
  subst e;have z:(t.size:Int)<3:=ω
  clear g;go_wp2_with (go_at_call 116;refine(d.j _).J ?_;rintro e a ⟨rfl,b⟩;rw[b];clear b a);refine AE (v:=.tuple #[.int .u8 0,Z 0]) (by simp[results,results149,go_sem]) rfl ⟨rfl,AB _ _⟩
 have z:¬(t.size:Int)<3:=ω
 have I:(1:Int)<(t.size:Int):=ω
 have J:(2:Int)<(t.size:Int):=ω
 have A:=mp t[1];have D:=mp t[2];have q:=Y (λa=>uT TV t[1] a);have r:=Y (λa=>uT TV t[2] a);rw[Jr]at q r;have c:=Y (show F=if (0:Int)<=MO t[1]/\(0:Int)<=MO t[2] then (UInt8.ofNat (16*(MO t[1]).toNat+(MO t[2]).toNat),3) else (0,0) by rw[f.j];unfold TO;rw[AF o,dif_pos ⟨g,u⟩]);clear g;go_upto_region 5 with (go_at_call 116;refine(d.j _).J ?_;rintro e a ⟨rfl,b⟩;rw[b];clear b a);refine AN (S:=λa=>True) κ (trivial) (λb=>?_);refine TY 0 (yQ t) rfl b (TY 1 (.int .u8 (t[1].toNat:Int)) rfl b (TY 3 (yQ t) rfl b (TY 4 (.int .u8 (t[2].toNat:Int)) rfl b ?_)));simp only[PS];have j:=b;refine RD 2 rfl (λx m=>?_);refine LI ρ 200 #[yQ TV,.int .u8 (t[1].toNat:Int)] γ (q.j _) ?_;rintro e p ⟨rfl,g⟩;rw[g];clear g p;refine⟨_,rfl,?_⟩;refine m.j _ _ j (λ_=>?_)
 try simp only[PS]
 refine RD 5 rfl (λx m=>?_);refine LI ρ 200 #[yQ TV,.int .u8 (t[2].toNat:Int)] γ (r.j _) ?_;rintro e p ⟨rfl,g⟩;rw[g];clear g p;refine⟨_,rfl,?_⟩;refine m.j _ _ j (λ_=>?_)
 try simp only[PS]
 refine TY 6 (Z (MO t[1])) rfl j (TY 7 (Z (MO t[2])) rfl j ?_);simp only[PS];refine DN ?_
 all_goals
  by_cases k3:MO t[1]<0
  ·rw[AF ω]at c
   obtain rfl:=c.j;go_wp2_with fail;refine AE (v:=.tuple #[.int .u8 0,Z 0]) (by simp[results,results149,go_sem]) rfl ⟨rfl,(AB _ _).drew⟩
  by_cases H:MO t[2]<0
  ·rw[AF ω]at c
   obtain rfl:=c.j;go_wp2_with fail;refine AE (v:=.tuple #[.int .u8 0,Z 0]) (by simp[results,results149,go_sem]) rfl ⟨rfl,(AB _ _).drew⟩
  rw[AI ω]at c;obtain⟨C,g⟩:∃C,Hid (C=UInt8.ofNat (16*(MO t[1]).toNat+(MO t[2]).toNat)):=⟨_,Y rfl⟩;rw[<-g.j]at c;have p:=Y (M1 (MO t[1]) (MO t[2]) ω ω);rw[<-g.j]at p;obtain rfl:=c.j;go_wp2_with fail;refine AE (v:=.tuple #[.int .u8 (C.toNat:Int),Z 3]) (by simp[results,results149,go_sem,p.j]) rfl ⟨rfl,(AB _ _).drew⟩
theorem uk(a:i+k<s.size)(h:k<(s.extract i s.size).size):(s.extract i s.size)[k]'h=s[i+k]:=by
 have e:(s.extract i s.size).data.toList=s.data.toList.drop i:=Lib.extract_to_end s i;show(s.extract i s.size).data.toList[k]'h=s.data.toList[i+k]'a;simp only[e,List.getElem_drop]
theorem Gx(s:yZ)(i k:Nat):(s.extract i s.size).extract k (s.extract i s.size).size=s.extract (i+k) s.size:=TE (by rw[Lib.extract_to_end,Lib.extract_to_end,Lib.extract_to_end,GN])
theorem vK(s:yZ)(i:Nat):(s.extract i s.size).size=s.size-i:=by rw[AQ];omega
theorem Oj{D:List UInt8}(h:US s i D)(e:i<s.size)(a:0<(s.extract i s.size).size):((TO (s.extract i s.size) a).2=0/\PU s.data.toList=none)\/(0<(TO (s.extract i s.size) a).2/\i+(TO (s.extract i s.size) a).2<=s.size/\US s (i+(TO (s.extract i s.size) a).2) (D++[(TO (s.extract i s.size) a).1])):=by
 have p:=vK s i;have c:(s.extract i s.size)[0]'a=s[i]:=uk (k:=0) e a;unfold TO
 by_cases f:QK s[i]=true
 ·rw[AI (by rw[c];exact f),c]
  exact .inr ⟨σ,τ,wX h e f⟩
 have l:QK s[i]=false:=by simpa using f
 have g:¬QK ((s.extract i s.size)[0]'a)=true:=by rw[c];exact f
 by_cases b:s[i].toNat=37
 rotate_left
 ·rw[AF g,dif_neg (λk=>b (by rw[<-c];exact k.1))]
  exact .inl ⟨rfl,uy h e l b⟩
 by_cases j:3<=(s.extract i s.size).size
 rotate_left
 ·rw[AF g,dif_neg (λk=>j k.2)]
  exact .inl ⟨rfl,qC h e b ω⟩
 have m:(s.extract i s.size)[1]' ω=s[i+1]:=uk (k:=1) ω ω;have o:(s.extract i s.size)[2]' ω=s[i+2]:=uk (k:=2) ω ω;rw[AF g,dif_pos ⟨by rw[c];exact b,j⟩,m,o]
 by_cases d:0<=MO s[i+1]/\0<=MO s[i+2]
 ·rw[AI d]
  exact .inr ⟨σ,τ,sW h ω b d.1 d.2⟩
 rw[AF d]
 exact .inl ⟨rfl,uc h ω b d⟩
def C7(s:yZ)(w wr:xV)(b a:qD):Prop:=∃(i:Nat) (D:List UInt8),b=yQ (s.extract i s.size)/\US s i D/\wr.ownsRow w.heap.size 5 1 a D.length (D.map uv)/\yX w wr
def nW:qD->Nat
 | .string s=>s.size
 | _=>0
theorem Bu(s:yZ)(w:xV)(W:s.size<=30000):Calls prog 105 #[yQ s] w λr c=>r=yT (.tuple #[yQ ((MU s).getD empty),yR (MU s).isSome])/\yX w c:=by
 obtain⟨X,a,b,o,d⟩:=VI qi;have E:=Y (AG a (AG b (AG o d)));clear a b o d;obtain⟨N,g⟩:∃R,Hid (R=Value.tuple #[yQ ((MU s).getD empty),yR (MU s).isSome]):=⟨_,Y rfl⟩;rw[<-g.j];go_enter func105,ntmps105
 by_cases d:s.data.toList=[45]
 ·have a:(s.toList == [45])=true:=by rw[RA,d];rfl
  go_wp2;refine AE (v:=.tuple #[yQ ⟨#[]⟩,yR true]) (by simp[results,results105,go_sem]) rfl ⟨?_,AB _ _⟩;rw[g.j];unfold MU;rw[AI d];rfl
 have a:(s.toList == [45])=false:=by rw[RA];exact BI.2 d
 have G:=Y (λ(k:PU s.data.toList=none)=>g.j.E (zI (xJ d k)));have H:=Y (λD (k:PU s.data.toList=some D)=>g.j.E (show _=Value.tuple #[yQ ⟨D.toArray⟩,yR true] by rw[uK d k];rfl));go_wp2;clear a;go_loopw [0,4] (λa b wr=>C7 s w wr a b) (λa _ _=>nW a)
 case atStart=>exact⟨0,[],by rw[show s.extract 0 s.size=s from TE (by rw[Lib.extract_to_end];rfl)],wR s,BT _ _ _ _,AB _ _⟩
 case round =>
  obtain⟨i,D,rfl,a,e,b⟩:=hrel;have S:=a.1;have T:=a.2.1;have p:=Y a;have u:=Y e;have m:=Y b;have y:=b.size;have A:=vK s i;have r:=Y (Gx s i);clear a e b
  by_cases L:i<s.size
  ·have a:0<(s.extract i s.size).size:=ω
   have j:=Y (Oj p.j L a);have f:=Y (λc=>Kk (s.extract i s.size) a c ω);obtain⟨c,C⟩:∃c,Hid (c=(TO (s.extract i s.size) a).1):=⟨_,Y rfl⟩;obtain⟨k,F⟩:∃k,Hid (k=(TO (s.extract i s.size) a).2):=⟨_,Y rfl⟩;rw[<-C.j,<-F.j]at f j;obtain⟨t,l⟩:∃t,Hid (t=s.extract i s.size):=⟨_,Y rfl⟩;rw[<-l.j]at f r A a⊢;have O:(0:Int)<(t.size:Int):=ω
   by_cases z:k=0
   ·subst z
    go_wp2_with (go_at_call 149;refine(f.j _).J ?_;rintro e B ⟨rfl,b⟩;have h:=Y b;clear b);refine AE (v:=.tuple #[yQ ⟨#[]⟩,yR false]) (by simp[results,results105,go_sem]) rfl ⟨by rw[G.j (j.j.resolve_right (λx=>ω)).2],m.j.E (h.j.J y)⟩
   obtain⟨_,U,b⟩:=j.j.resolve_left (λx=>z x.1)
   have P:¬(k:Int)=0:=ω
   have R:(k:Int)<=(t.size:Int):=ω
   have Q:(0:Int)<=(k:Int):=ω
   have J:=Y b;clear b
   go_wp2_with (first|(go_at_call 149;refine(f.j _).J ?_;rintro e B ⟨rfl,b⟩;have h:=Y b;have o:=b.size;clear b)|(at_builtin;refine XG B rfl _ _ 24 rfl w.heap.size underlying24 E.j rfl ω D.length (LZ u.j h.j) rfl _ [.int .u8 (c.toNat:Int)] 1 1 rfl rfl (ai _ _) ω ω ω ω ?_;intro V M Z q x;have K:=Y q;have I:=Y x;clear q x))
   go_roundw
   case rel=>exact⟨i+k,_,by rw[<-r.j k,A],J.j,by simpa[uv] using K.j,(m.j.E (h.j.J y)).E I.j⟩
   case measure=>simp[nW,AQ];omega
  have b:i=s.size:=ω
  have c:=Y (b ▸ p.j);have a:¬(0:Int)<((s.extract i s.size).size:Int):=ω
  obtain⟨t,l⟩:∃t,Hid (t=s.extract i s.size):=⟨_,Y rfl⟩;rw[<-l.j]at a⊢;have e:=fk u.j;clear b;go_wp2;refine AE (v:=.tuple #[yQ ⟨D.toArray⟩,yR true]) (by simp[results,results105,go_sem]) rfl ⟨by rw[H.j D (wO c.j)],m.j⟩
def QX(ws:List yZ):Bool:=ws.all λs=>(MU s).isSome
def PD(ws:List yZ):List yZ:=ws.map λs=>(MU s).getD empty
theorem Cs(a:k<ws.length)(h:(MU (ws.getD k empty)).isSome=false):QX ws=false:=by
 unfold QX;exact FK.2 ⟨ws.getD k empty,by simp[List.getD,a],by rw[h];simp⟩
theorem Gd(h:∀k,k<ws.length->(MU (ws.getD k empty)).isSome=true):QX ws=true:=by
 unfold QX;rw[DH];intro s b;obtain⟨k,a,rfl⟩:=EL b;have:=h k a;simpa[List.getD,a] using this
theorem No(a:k<ws.length):PD (ws.take (k+1))=PD (ws.take k)++[(MU (ws.getD k empty)).getD empty]:=by
 unfold PD;rw[List.take_add_one,DA];simp[List.getD,a]
def C8(ws:List yZ)(w wr:xV)(b a:qD):Prop:=∃i:Nat,i<=ws.length/\a=Z (i:Int)/\(∀k,k<i->(MU (ws.getD k empty)).isSome=true)/\wr.ownsRow w.heap.size 9 1 b i ((PD (ws.take i)).map Value.string)/\yX w wr
theorem ze(a:xA)(ws:List yZ)(c:Nat)(w:xV)(h:Strs w a ws)(S:ws.length<=30000)(L:∀s∈ws,s.size<=30000):Calls prog 68 #[yI a ws.length c] w λr d=>∃v,r=yT (.tuple #[v,yR (QX ws)])/\(QX ws=true->d.ownsRow w.heap.size 9 1 v ws.length ((PD ws).map Value.string))/\yX w d:=by
 obtain⟨T,y,b,e,z⟩:=VI um;have I:=Y (AG y (AG b (AG e z)));clear y b e z;go_enter func68,ntmps68;go_wp2;go_loopw [4,11] (λe b wr=>C8 ws w wr e b) (λ_ b _=>ws.length-(intOf b).toNat)
 case atStart=>exact⟨0,AL _,rfl,λk m=>ω,BT _ _ _ _,AB _ _⟩
 case round =>
  obtain⟨i,R,rfl,A,r,f⟩:=hrel;have G:=f.size;have C:=Y A;have x:=Y r;have u:=Y f
  by_cases l:i<ws.length
  ·obtain⟨b,o,s,rfl,Q,g⟩:=(h.I f).at l
   have N:(i:Int)<(ws.length:Int):=ω
   have y:(0:Int)<=(i:Int):=ω
   have O:IntKind.i64.wrap ((i:Int)+1)=((i+1:Nat):Int):=by rw[OP _ ω ω];omega
   have p:=Y (λd=>Bu s d (by rw[g.j];have:=L (ws.getD i empty) (by simp[List.getD,l]);exact this));obtain⟨X,D⟩:∃X,Hid (X=(MU s).getD empty):=⟨_,Y rfl⟩;obtain⟨B,q⟩:∃B,Hid (B=(MU s).isSome):=⟨_,Y rfl⟩;rw[<-D.j,<-q.j]at p;clear A r f h
   cases B with
   | false =>
    go_wp2_with (go_at_call 105;refine(p.j _).J ?_;rintro e H ⟨rfl,d⟩;have j:=Y d;clear d);have e:QX ws=false:=Cs l (by rw[<-g.j];exact q.j.symm);refine AE (by simp[results,results68,go_sem];rfl) rfl ⟨_,by rw[e],(λk=>(by rw[e]at k;cases k)),u.j.E (j.j.J G)⟩
   | true =>
    go_wp2_with (first|(go_at_call 105;refine(p.j _).J ?_;rintro e H ⟨rfl,d⟩;have j:=Y d;have z:=d.size;clear d)|(at_builtin;refine XG H rfl _ _ 27 rfl w.heap.size underlying27 I.j rfl ω i (LZ x.j j.j) rfl _ [yQ X] 1 1 rfl rfl (xv _) ω ω ω ω ?_;intro P M U E F;have K:=Y E;have J:=Y F;clear E F))
    go_roundw
    case rel =>
     refine⟨i+1,ω,ν,λk m=>?_,?_,(u.j.E (j.j.J G)).E J.j⟩
     ·rcases Nat.lt_succ_iff_lt_or_eq.1 m with m|rfl
      ·exact C.j k m
      rw[<-g.j,<-q.j]
     rw[No l,<-g.j,<-D.j,DA];exact K.j
    case measure=>simp[intOf];omega
  obtain rfl:i=ws.length:=ω
  rw[DF]at x;clear A r f h;have e:QX ws=true:=Gd C.j;go_wp2;refine AE (by simp[results,results68,go_sem];rfl) rfl ⟨_,by rw[e],λ_=>x.j,u.j⟩
def Dc(s:yZ)(w wr:xV)(b a:qD):Prop:=∃i:Nat,i<=s.size/\a=Z (i:Int)/\wr.ownsRow w.heap.size 5 1 b (SA (s.data.toList.take i)).length ((SA (s.data.toList.take i)).map uv)/\yX w wr
theorem Nj(c:UInt8):bits BinOp.and IntKind.u8 (c.toNat:Int) 15=(c.toNat:Int) % 16:=by
 have h:(List.range 256).all (λn=>decide (bits BinOp.and IntKind.u8 (n:Int) 15=(n:Int) % 16))=true:=κ
 exact AW (DH.1 h c.toNat (FP.2 c.toNat_lt))
theorem Ax(s:yZ)(w:xV)(hs:s.size<=30000):Calls prog 73 #[yQ s] w λr d=>r=yT (yQ (SR s))/\yX w d:=by
 obtain⟨i0,A,a,b,c⟩:=VI qi;have F:=Y (AG A (AG a (AG b c)));clear A a b c;obtain⟨Q,m⟩:∃R,Hid (R=SR s):=⟨_,Y rfl⟩;rw[<-m.j];go_enter func73,ntmps73
 by_cases l:s.size=0
 ·have a:(s.toList == [])=true:=by rw[RA,AD (show s.data.toList.length=0 from l)];rfl
  go_wp2;go_ret;exact⟨by rw[m.j];unfold SR;rw[AI l];rfl,AB _ _⟩
 have g:(s.toList == [])=false:=by rw[RA];exact BI.2 (λe=>l (BC List.length e))
 by_cases q:s.data.toList=[45]
 ·have a:(s.toList == [45])=true:=by rw[RA,q];rfl
  go_wp2;go_ret;exact⟨by rw[m.j];unfold SR;rw[AF l,AI q];rfl,AB _ _⟩
 have a:(s.toList == [45])=false:=by rw[RA];exact BI.2 q
 have M:=Y (show Q=⟨(SA s.data.toList).toArray⟩ by rw[m.j];unfold SR;rw[AF l,AF q]);obtain⟨R,C,c,b,Z,f,V⟩:=wQ w s;go_wp2;clear a g c;have O:=Y f;have P:=Y b;clear f b;go_loopw [3,14] (λb a wr=>Dc s C wr b a) (λ_ a _=>s.size-(intOf a).toNat)
 case atStart=>exact⟨0,AL _,rfl,BT _ _ _ _,AB _ _⟩
 case round =>
  obtain⟨i,hi,rfl,a,b⟩:=hrel;obtain⟨D,g⟩:∃D,Hid (D=SA (s.data.toList.take i)):=⟨_,Y rfl⟩;rw[<-g.j]at a;have bE:D.length<=90000:=by rw[g.j];have:=lU (s.data.toList.take i);rw[AX]at this;omega
  have y:=Y a;have o:=Y b;have J:=b.size;clear a b
  by_cases p:i<s.size
  ·have W:(i:Int)<(s.size:Int):=ω
   have A:(0:Int)<=(i:Int):=ω
   have bF:IntKind.i64.wrap ((i:Int)+1)=((i+1:Nat):Int):=by rw[OP _ ω ω];omega
   have f:=Y (show SA (s.data.toList.take (i+1))=_ by rw[qm p,qN,<-g.j]);obtain⟨c,E⟩:∃c,Hid (c=s[i]):=⟨_,Y rfl⟩;rw[<-E.j]at f
   have hc:wr.cell? (yA w.heap.size i)=some (.int .u8 (c.toNat:Int)):=by
    rw[o.j.cell (p:=(yA w.heap.size i)) (by show w.heap.size<_;omega),O.j.cell i (by rw[MR];exact p),E.j];simp[LF,List.getD,p,AO (show i<s.data.toList.length from p)];rfl
   have lw:w.heap.size<wr.heap.size:=ω
   have r:=Y (λd=>yF c d);obtain⟨B,L⟩:∃B,Hid (B=QK c):=⟨_,Y rfl⟩;rw[<-L.j]at r f
   cases B with
   | true =>
    rw[AI rfl]at f
    go_wp2_with (first|(go_at_call 116;refine(r.j _).J ?_;rintro e d ⟨rfl,b⟩;rw[b];clear b d)|(at_builtin;refine XG wr rfl _ _ 24 rfl C.heap.size underlying24 F.j rfl ω D.length y.j rfl _ [.int .u8 (c.toNat:Int)] 1 1 rfl rfl (ai _ _) J ω ω ω ?_;intro K I S h j;have x:=Y h;have u:=Y j;clear h j))
    go_roundw
    case rel=>exact⟨i+1,ω,ν,by rw[f.j];simpa[uv] using x.j,o.j.E u.j⟩
    case measure=>simp[intOf];omega
   | false =>
    rw[AF σ]at f;have bC:=c.toNat_lt;have y3:0<=(c.toNat:Int) / 16/\(c.toNat:Int) / 16<16:=ω
    have y4:0<=(c.toNat:Int) % 16/\(c.toNat:Int) % 16<16:=ω
    have T:TV[((c.toNat:Int) / 16).toNat]'(by show _<16;omega)=TQ (c.toNat / 16):=nz _ ω ω;have U:TV[((c.toNat:Int) % 16).toNat]'(by show _<16;omega)=TQ (c.toNat % 16):=nz _ ω ω;have y7:=Nj c;obtain⟨X,G⟩:∃X,Hid (X=TQ (c.toNat / 16)):=⟨_,Y rfl⟩;obtain⟨a,H⟩:∃a,Hid (a=TQ (c.toNat % 16)):=⟨_,Y rfl⟩;rw[<-G.j]at T;rw[<-H.j]at U;rw[<-G.j,<-H.j]at f;go_upto_region 12 with (go_at_call 116;refine(r.j _).J ?_;rintro e d ⟨rfl,b⟩;rw[b];clear b d);refine AN (S:=λd=>True) κ (trivial) (λb=>?_);refine TY 0 (u3) rfl b (TY 1 (.int .u8 (c.toNat:Int)) rfl b (TY 2 (.int .u8 ((c.toNat:Int) / 16)) rfl b (TY 3 (.int .u8 (X.toNat:Int)) rfl b (TY 4 (.int .u8 (c.toNat:Int)) rfl b (TY 5 (.int .u8 ((c.toNat:Int) % 16)) rfl b (TY 6 (.int .u8 (a.toNat:Int)) rfl b ?_))))));simp only[PS];refine RD 7 rfl (λN z=>?_)
    go_simp;refine z.j _ _ b (λ_=>?_)
    try simp only[PS]
    refine RD 8 rfl (λN z=>?_);refine sn wr.drew rfl _ _ 24 rfl C.heap.size underlying24 F.j rfl ω D.length (y.j.drew) rfl _ [.int .u8 37,.int .u8 (X.toNat:Int),.int .u8 (a.toNat:Int)] 3 3 rfl rfl pT J ω ω ω ?_;intro K I S h j;have x:=Y h;have u:=Y j;clear h j;refine z.j _ _ b (λ_=>?_)
    try simp only[PS]
    refine TY 9 (yI (zY K 0) (D.length+3) I) rfl b ?_;simp only[PS];refine DN ?_;go_wp2_with fail;go_roundw
    case rel=>exact⟨i+1,ω,ν,by rw[f.j];simpa[uv] using x.j,o.j.E ((AB _ _).drew.E u.j)⟩
    case measure=>simp[intOf];omega
  obtain rfl:i=s.size:=ω
  rw[AR (show s.data.toList.length<=s.size from AA _)]at g;have c:=fk y.j;go_wp2;go_ret;exact⟨by rw[M.j,<-g.j];rfl,P.j.E (o.j.J ω)⟩
end
section
open Tryz
open Go.Shelf
def Ic:Go.Shelf.Ren:=⟨fun|171=>75|243=>118|246=>173|283=>230|284=>231|285=>232|286=>233|129=>278|317=>277|318=>279|319=>280|320=>281|337=>301|338=>302|n=>n,fun|3=>3|9=>9|2=>2|4=>4|171=>254|0=>0|53=>255|37=>24|5=>5|173=>258|212=>314|51=>155|20=>20|213=>315|46=>90|232=>352|233=>142|n=>n,fun|17=>6|18=>8|19=>9|n=>n⟩
theorem mX:Go.Proofs.LaysM.n171 prog Ic:={
 mixed:=κ
 f129:=func278.E (BC some κ)
 f171:=func75.E (BC some κ)
 f243:=func118.E (BC some κ)
 f246:=func173.E (BC some κ)
 f283:=func230.E (BC some κ)
 f284:=func231.E (BC some κ)
 f285:=func232.E (BC some κ)
 f286:=func233.E (BC some κ)
 f317:=func277.E (BC some κ)
 f318:=func279.E (BC some κ)
 f319:=func280.E (BC some κ)
 f320:=func281.E (BC some κ)
 f337:=func301.E (BC some κ)
 f338:=func302.E (BC some κ)
 t0:=underlying0
 a0:=isAgg0
 z0:=sizeOf0
 v0:=zeroValue0
 t2:=underlying2
 a2:=isAgg2
 z2:=sizeOf2
 v2:=zeroValue2
 t3:=underlying3
 a3:=isAgg3
 z3:=sizeOf3
 v3:=zeroValue3
 t4:=underlying4
 a4:=isAgg4
 z4:=sizeOf4
 v4:=zeroValue4
 t5:=underlying5
 a5:=isAgg5
 z5:=sizeOf5
 v5:=zeroValue5
 t9:=underlying9
 a9:=isAgg9
 z9:=sizeOf9
 v9:=zeroValue9
 t20:=underlying20
 a20:=isAgg20
 z20:=sizeOf20
 v20:=zeroValue20
 t37:=underlying24
 a37:=isAgg24
 z37:=sizeOf24
 v37:=zeroValue24
 t46:=underlying90
 a46:=isAgg90
 z46:=sizeOf90
 v46:=zeroValue90
 t51:=underlying155
 a51:=isAgg155
 z51:=sizeOf155
 v51:=zeroValue155
 t53:=underlying255
 a53:=isAgg255
 z53:=sizeOf255
 v53:=zeroValue255
 t171:=underlying254
 a171:=isAgg254
 z171:=sizeOf254
 v171:=zeroValue254
 t173:=underlying258
 a173:=isAgg258
 z173:=sizeOf258
 v173:=zeroValue258
 t212:=underlying314
 a212:=isAgg314
 z212:=sizeOf314
 v212:=zeroValue314
 t213:=underlying315
 a213:=isAgg315
 z213:=sizeOf315
 t232:=underlying352
 a232:=isAgg352
 z232:=sizeOf352
 v232:=zeroValue352
 t233:=underlying142
 a233:=isAgg142
 z233:=sizeOf142
 v233:=zeroValue142
 g17:=κ
 g18:=κ
 g19:=κ
 i0:=κ
 i2:=κ
 i3:=κ
 i4:=κ
 i5:=κ
 i9:=κ
 i20:=κ
 i37:=κ
 i46:=κ
 i51:=κ
 i53:=κ
 i171:=κ
 i173:=κ
 i212:=κ
 i232:=κ
 i233:=κ
 m17:=κ
 m18:=κ
 m19:=by kernel_rfl }
def Ik:Go.Shelf.Ren:=⟨fun|172=>100|244=>144|245=>145|247=>194|279=>195|280=>196|281=>197|282=>198|287=>246|316=>247|171=>75|205=>248|321=>287|322=>288|243=>118|246=>173|283=>230|284=>231|285=>232|286=>233|129=>278|317=>277|318=>279|319=>280|320=>281|337=>301|338=>302|n=>n,fun|9=>9|3=>3|75=>57|76=>58|4=>4|5=>5|167=>222|37=>24|0=>0|85=>223|2=>2|168=>225|53=>255|175=>282|46=>90|210=>285|127=>87|145=>336|143=>334|21=>21|171=>254|173=>258|212=>314|51=>155|20=>20|213=>315|232=>352|233=>142|80=>62|n=>n,fun|15=>4|16=>5|17=>6|18=>8|19=>9|n=>n⟩
theorem yj:Go.Proofs.LaysC.n172 prog Ik:={
 mixed:=κ
 f129:=func278.E (BC some κ)
 f171:=func75.E (BC some κ)
 f172:=func100.E (BC some κ)
 f205:=func248.E (BC some κ)
 f243:=func118.E (BC some κ)
 f244:=func144.E (BC some κ)
 f245:=func145.E (BC some κ)
 f246:=func173.E (BC some κ)
 f247:=func194.E (BC some κ)
 f279:=func195.E (BC some κ)
 f280:=func196.E (BC some κ)
 f281:=func197.E (BC some κ)
 f282:=func198.E (BC some κ)
 f283:=func230.E (BC some κ)
 f284:=func231.E (BC some κ)
 f285:=func232.E (BC some κ)
 f286:=func233.E (BC some κ)
 f287:=func246.E (BC some κ)
 f316:=func247.E (BC some κ)
 f317:=func277.E (BC some κ)
 f318:=func279.E (BC some κ)
 f319:=func280.E (BC some κ)
 f320:=func281.E (BC some κ)
 f321:=func287.E (BC some κ)
 f322:=func288.E (BC some κ)
 f337:=func301.E (BC some κ)
 f338:=func302.E (BC some κ)
 t0:=underlying0
 a0:=isAgg0
 z0:=sizeOf0
 v0:=zeroValue0
 t2:=underlying2
 a2:=isAgg2
 z2:=sizeOf2
 v2:=zeroValue2
 t3:=underlying3
 a3:=isAgg3
 z3:=sizeOf3
 v3:=zeroValue3
 t4:=underlying4
 a4:=isAgg4
 z4:=sizeOf4
 v4:=zeroValue4
 t5:=underlying5
 a5:=isAgg5
 z5:=sizeOf5
 v5:=zeroValue5
 t9:=underlying9
 a9:=isAgg9
 z9:=sizeOf9
 v9:=zeroValue9
 t20:=underlying20
 a20:=isAgg20
 z20:=sizeOf20
 v20:=zeroValue20
 t21:=underlying21
 a21:=isAgg21
 z21:=sizeOf21
 v21:=zeroValue21
 t37:=underlying24
 a37:=isAgg24
 z37:=sizeOf24
 v37:=zeroValue24
 t46:=underlying90
 a46:=isAgg90
 z46:=sizeOf90
 v46:=zeroValue90
 t51:=underlying155
 a51:=isAgg155
 z51:=sizeOf155
 v51:=zeroValue155
 t53:=underlying255
 a53:=isAgg255
 z53:=sizeOf255
 v53:=zeroValue255
 t75:=underlying57
 a75:=isAgg57
 z75:=sizeOf57
 v75:=zeroValue57
 t76:=underlying58
 a76:=isAgg58
 z76:=sizeOf58
 v76:=zeroValue58
 t85:=underlying223
 a85:=isAgg223
 z85:=sizeOf223
 v85:=zeroValue223
 t127:=underlying87
 a127:=isAgg87
 z127:=sizeOf87
 v127:=zeroValue87
 t143:=underlying334
 a143:=isAgg334
 z143:=sizeOf334
 v143:=zeroValue334
 t145:=underlying336
 a145:=isAgg336
 z145:=sizeOf336
 v145:=zeroValue336
 t167:=underlying222
 a167:=isAgg222
 z167:=sizeOf222
 v167:=zeroValue222
 t168:=underlying225
 a168:=isAgg225
 z168:=sizeOf225
 v168:=zeroValue225
 t171:=underlying254
 a171:=isAgg254
 z171:=sizeOf254
 v171:=zeroValue254
 t173:=underlying258
 a173:=isAgg258
 z173:=sizeOf258
 v173:=zeroValue258
 t175:=underlying282
 a175:=isAgg282
 z175:=sizeOf282
 v175:=zeroValue282
 t210:=underlying285
 a210:=isAgg285
 z210:=sizeOf285
 v210:=zeroValue285
 t212:=underlying314
 a212:=isAgg314
 z212:=sizeOf314
 v212:=zeroValue314
 t213:=underlying315
 a213:=isAgg315
 z213:=sizeOf315
 t232:=underlying352
 a232:=isAgg352
 z232:=sizeOf352
 v232:=zeroValue352
 t233:=underlying142
 a233:=isAgg142
 z233:=sizeOf142
 v233:=zeroValue142
 g15:=κ
 g16:=κ
 g17:=κ
 g18:=κ
 g19:=κ
 t80:=underlying62
 a80:=isAgg62
 z80:=sizeOf62
 v80:=zeroValue62
 i0:=κ
 i2:=κ
 i3:=κ
 i4:=κ
 i5:=κ
 i9:=κ
 i20:=κ
 i21:=κ
 i37:=κ
 i46:=κ
 i51:=κ
 i53:=κ
 i75:=κ
 i76:=κ
 i80:=κ
 i85:=κ
 i127:=κ
 i143:=κ
 i145:=κ
 i167:=κ
 i168:=κ
 i171:=κ
 i173:=κ
 i175:=κ
 i210:=κ
 i212:=κ
 i232:=κ
 i233:=κ
 m15:=κ
 m16:=κ
 m17:=κ
 m18:=κ
 m19:=κ
 c0:=κ
 c2:=κ
 c3:=κ
 c4:=κ
 c5:=κ
 c9:=κ
 c20:=κ
 c21:=κ
 c37:=κ
 c46:=κ
 c51:=κ
 c53:=κ
 c75:=κ
 c76:=κ
 c80:=κ
 c85:=κ
 c127:=κ
 c143:=κ
 c145:=κ
 c167:=κ
 c168:=κ
 c171:=κ
 c173:=κ
 c175:=κ
 c210:=κ
 c212:=κ
 c213:=κ
 c232:=κ
 c233:=by kernel_rfl }
structure Vz(w:xV):Prop where
 sz:10<=w.heap.size
 np:∃ty v,w.cell? (yA 7 0)=some (.iface ty v)
 et:w.cell? (yA 1 0)=some (.iface 320 (.agg #[zW 10 57]))
 es:∃ty v,w.cell? (yA 4 0)=some (.iface ty v)
 er:∃ty v,w.cell? (yA 5 0)=some (.iface ty v)
 tb:Lib.TabIs prog w "internal/strconv.uint64pow10" .u64 Lib.pow10Tab
theorem rU:prog.globalNamed "internal/strconv.uint64pow10"=some 6:=κ
theorem Vz.low{w c:xV}(h:Vz w)(a:RowKit.Below 10 w c):Vz c:=by
 obtain⟨d,⟨j,m,e⟩,f,⟨k,n,g⟩,⟨l,o,i⟩,b⟩:=h;refine⟨AJ d a.size,⟨j,m,(a.cell (p:=(yA 7 0)) δ).E e⟩,(a.cell (p:=(yA 1 0)) δ).E f,⟨k,n,(a.cell (p:=(yA 4 0)) δ).E g⟩,⟨l,o,(a.cell (p:=(yA 5 0)) δ).E i⟩,?_⟩;unfold Lib.TabIs World.var? at b⊢;rw[rU]at b⊢;simp only[Option.bind_some]at b⊢;rw[a.block _ δ];exact b
theorem Vz.I{w b:xV}(h:Vz w)(a:RowKit.Below w.heap.size w b):Vz b:=h.low ⟨a.os,a.tape,a.output,a.size,λk c=>a.block k (AC c h.sz)⟩
theorem Ae(n:Nat)(a:n<10 ^ 19):(⟨(Lib.itoa (n:Int)).toArray⟩:yZ)=LH n:=TE (by rw[zi 18 n a,Lib.itoa_nonneg])
theorem jh(n:Nat)(c:n<=1000000000)(w:xV)(hv:Vz w):Calls prog 75 #[Z (n:Int)] w λe a=>e=yT (yQ (LH n))/\RowKit.Below w.heap.size w a:=by
 refine(Any.strconv_Itoa mX (n:Int) ω ω w hv.tb).J ?_;rintro e a ⟨rfl,k,b,rfl⟩;exact⟨by rw[Ae n ω],Lib.below_grow _ w (AA _) k b⟩
theorem Ad(v:Int)(d:0<=v)(b:v<=9223372036854775807)(w:xV)(hv:Vz w):Calls prog 75 #[Z v] w λe a=>e=yT (yQ ⟨(Lib.itoa v).toArray⟩)/\RowKit.Below w.heap.size w a:=by
 refine(Any.strconv_Itoa mX v ω b w hv.tb).J ?_;rintro e a ⟨rfl,k,c,rfl⟩;exact⟨rfl,Lib.below_grow _ w (AA _) k c⟩
theorem Ns(s:yZ)(f:s.size<=30000)(w:xV)(hv:Vz w):Calls prog 100 #[yQ s] w λe a=>(∃v,Lib.atoiAll s.data.toList=.ok v/\e=yT (.tuple #[Z v,.nilIface])\/(∀v,Lib.atoiAll s.data.toList≠.ok v)/\∃d p,e=yT (.tuple #[Z v,.iface d p]))/\RowKit.Below w.heap.size w a:=by
 rcases h:Lib.atoiAll s.data.toList with v|_|_
 ·refine(Any.strconv_Atoi_ok yj s ω v h w).J ?_
  rintro e a ⟨rfl,b⟩;refine⟨⟨v,.inl ⟨rfl,rfl⟩⟩,?_⟩;rcases b with rfl|⟨t,rfl⟩
  ·exact RowKit.Below.refl _ _
  exact Lib.bytesWorld_below _ _ _
 ·obtain⟨d,p,c⟩:=hv.es
  refine(Any.strconv_Atoi_syntax yj s ω h _ w c (.inr ⟨_,_,rfl⟩)).J ?_;rintro e a ⟨N,rfl,_,_,b⟩;exact⟨⟨_,.inr ⟨λv=>σ,_,_,rfl⟩⟩,b⟩
 obtain⟨d,p,c⟩:=hv.er
 refine(Any.strconv_Atoi_range yj s ω h _ w c (.inr ⟨_,_,rfl⟩)).J ?_;rintro e a ⟨N,rfl,_,_,b⟩;exact⟨⟨_,.inr ⟨λv=>σ,_,_,rfl⟩⟩,b⟩
end
section
open Tryz
open Go.RowKit
theorem nH{s:yZ}(h:SQ s=none):RE s=-1:=by unfold RE;rw[h]
theorem Ex{s:yZ}{n:Nat}(h:SQ s=some n):RE s=(n:Int):=by unfold RE;rw[h]
theorem xm(a:xA)(d:List yZ)(c:Nat)(w:xV)(h:Strs w a d)(S:d.length<=30000)(U:∀s∈d,s.size<=30000)(hv:Vz w):Calls prog 66 #[yI a d.length c] w λr b=>∃v,r=yT (.tuple #[v,yR (MZ d)])/\(MZ d=true->b.ownsRow w.heap.size 3 1 v d.length ((OZ d).map (Value.int .i64)))/\yX w b:=by
 obtain⟨i0,C,b,D,e⟩:=VI xL;have N:=Y (AG C (AG b (AG D e)));have O:=Y hv;clear C b D e hv;go_enter func66,ntmps66;go_wp2;go_loopw [4,11] (λe b wr=>n4 d w wr e b) (λ_ b _=>d.length-(intOf b).toNat)
 case atStart=>exact⟨0,AL _,rfl,λk z=>ω,BT _ _ _ _,AB _ _⟩
 case round =>
  obtain⟨i,hi,rfl,E,A,q⟩:=hrel;have x:=q.size;have F:=Y E;have B:=Y A;have m:=Y q
  by_cases u:i<d.length
  ·obtain⟨b,o,s,rfl,hc,t⟩:=(h.I q).at u
   have W:(i:Int)<(d.length:Int):=ω
   have C:(0:Int)<=(i:Int):=ω
   have X:IntKind.i64.wrap ((i:Int)+1)=((i+1:Nat):Int):=by rw[OP _ ω ω];omega
   have R:s.size<=30000:=by rw[t.j];have:=U (d.getD i empty) (by simp[List.getD,u]);exact this
   have H:=Y (O.j.I q);have r:=Y (Ns s R wr H.j);clear E A q h;go_upto_region 5 with fail;refine AV ?_;go_wp2_with fail;refine r.j.J ?_;rintro e L ⟨⟨v,⟨g,rfl⟩|⟨g,ty,p,rfl⟩⟩,f⟩
   rotate_left
   ·have j:=Y (show MZ d=false from vf u (by
     rw[<-t.j]
     cases hn:SQ s with
     | none=>rw[nH hn];omega
     | some n=>exact absurd (vI hn).1 (g _)))
    have l:=Y f;clear f g;go_wp2_with fail;refine AE (by simp[results,results66,go_sem];rfl) rfl ⟨_,by rw[j.j],(λk=>(by rw[j.j]at k;cases k)),m.j.E (l.j.J x)⟩
   have J:=Lib.atoiAll_bounds g;have D:=f.size;have l:=Y f;have G:=Y (H.j.I f);clear f r
   cases hn:SQ s with
   | none =>
    have j:=Y (show MZ d=false from vf u (by rw[<-t.j,nH hn];omega))
    by_cases V:v<0
    ·go_wp2_with fail
     refine AE (by simp[results,results66,go_sem];rfl) rfl ⟨_,by rw[j.j],(λk=>(by rw[j.j]at k;cases k)),m.j.E (l.j.J x)⟩
    by_cases I:6<s.size
    ·have K:(6:Int)<(s.size:Int):=ω
     go_wp2_with fail;refine AE (by simp[results,results66,go_sem];rfl) rfl ⟨_,by rw[j.j],(λk=>(by rw[j.j]at k;cases k)),m.j.E (l.j.J x)⟩
    have K:¬(6:Int)<(s.size:Int):=ω
    have r:=Y (Ad v ω J.2 L G.j);obtain⟨T,n⟩:∃T,Hid (T=(⟨(Lib.itoa v).toArray⟩:yZ)):=⟨_,Y rfl⟩;rw[<-n.j]at r
    have S:(T.toList == s.toList)=false:=by
     rw[RA,RA]
     refine BI.2 λe=>?_
     have:=Ei (s:=s) (v:=v) ω J.2 ω (by rw[<-n.j];exact TE e)
     rw[hn]at this;cases this
    clear hn g;go_wp2_with (go_at_call 75;refine r.j.J ?_;rintro e M ⟨rfl,f⟩;have y:=Y f;clear f);refine AE (by simp[results,results66,go_sem];rfl) rfl ⟨_,by rw[j.j],(λk=>(by rw[j.j]at k;cases k)),(m.j.E (l.j.J x)).E (y.j.J ω)⟩
   | some n =>
    obtain⟨y,M⟩:=vI hn;obtain⟨q3,I,q5⟩:=kh hn;obtain rfl:v=(n:Int):=by rw[y]at g;injection g with g;exact g.symm
    have V:¬(n:Int)<0:=ω
    have K:¬(6:Int)<(s.size:Int):=ω
    have j:=Y (show RE s=(n:Int) from Ex hn);have r:=Y (jh n ω L G.j);have f:LH n=s:=TE (by rw[zi 18 n ω,I]);rw[f]at r;clear f y M I hn g
    go_wp2_with (first|(go_at_call 75;refine r.j.J ?_;rintro e M ⟨rfl,f⟩;have y:=Y f;have aY:=f.size;clear f)|(at_builtin;refine XG M rfl _ _ 73 rfl w.heap.size underlying73 N.j rfl ω i (LZ (LZ B.j l.j) y.j) rfl _ [Z (n:Int)] 1 1 rfl rfl (ai _ _) ω ω ω ω ?_;intro g9 T w9 g I;have Q:=Y g;have P:=Y I;clear g I))
    go_roundw
    case rel =>
     refine⟨i+1,ω,ν,λk z=>?_,?_,((m.j.E (l.j.J x)).E (y.j.J ω)).E P.j⟩
     ·rcases Nat.lt_succ_iff_lt_or_eq.1 z with z|rfl
      ·exact F.j k z
      rw[<-t.j,j.j];omega
     rw[uP u,<-t.j,j.j,DA];exact Q.j
    case measure=>simp[intOf];omega
  obtain rfl:i=d.length:=ω
  rw[DF]at B;clear E A q h;have e:MZ d=true:=oQ F.j;go_wp2;refine AE (by simp[results,results66,go_sem];rfl) rfl ⟨_,by rw[e],λ_=>B.j,m.j⟩
