import Derived.Deep.RegionLaw
import Derived.Test.YtkdedmclofhndaaGreatDoorPrG34
set_option maxHeartbeats 16000000
set_option maxRecDepth 8000
set_option linter.all false
namespace Go.Proofs.YtkdedmclofhndaaGreatDoor
open _root_.ByteArray(empty)
open Tryz
open Go.RowKit
variable {ws:List (Int×yZ)}{ss:List yZ}{w:xV}
theorem LI{P:Program}{c:Array Oper}{o:Oper}{a:Act}{K:Act->xV->Prop}{Q:Exit->Act->xV->Prop}{E:Prop}(i:o.guard=none)(f:FuncId)(b:Array qD)
  (g:(execOp a.eval o).run P w=.ok (.enter f b) w){C:Ending->xV->Prop}(j:Calls P f b w C)(h:∀e d,C e d->∃v,e=yT v/\K (a.put o.dst v) d):if Region.wanted o (yielded c a.tmps)=true then Oper.wp P o a w K Q else E:=by
 have m:Region.wanted o (yielded c a.tmps)=true:=by simp[Region.wanted,i]
 rw[AI m];unfold Oper.wp;rw[g,Oper.upon_enter]
 refine j.J λe d k=>?_
 obtain⟨v,rfl,l⟩:=h e d k;exact l
theorem sg(k v:yZ)(w:xV):Calls prog 252 #[.agg #[yQ k,yQ v,yR false]] w λe a=>e=yT (.iface 343 (.agg #[yQ k,yQ v]))/\yX w a:=by
 go_enter func252,ntmps252;go_wp2;go_ret;exact⟨rfl,LG _ _⟩
theorem ud(k v:yZ)(w:xV):Calls prog 252 #[.agg #[yQ k,yQ v,yR true]] w λe a=>e=yT (.iface 341 (.agg #[yQ k]))/\yX w a:=by
 go_enter func252,ntmps252;go_wp2;go_ret;exact⟨rfl,LG _ _⟩
theorem tm:(prog.info? 9).map (λi=>(i.zero,i.size,i.bytes))=some (some (yQ empty),1,16):=κ
theorem Ai(n m:Nat)(w:xV)(h:n+m=56)(b:1<=n)(c:n<=8):Calls prog 131 #[Z (n:Int)] w λe a=>e=yT (Z (m:Int))/\a=w:=by
 have a:(64-(n:Int)-8)=(m:Int):=ω
 go_enter func131,ntmps131;go_wp2;go_ret
 exact⟨by first|rfl|exact BC _ (BC _ a),rfl⟩
theorem fy{W c:xV}{e:TypeId}{b:Nat}{v:qD}{n B:Nat}{g:List qD}(d:Below B W w)(own:w.ownsRow B e b v n g)(a:w.grownBy c v.ownBlock)(h:B<=w.heap.size):Below B W c :=d.E ⟨a.os,a.tape,a.output,a.size,λk i=>a.block k ω (λf=>by have:=(own.lt k f.symm).1;omega)⟩
theorem mu{B:Nat}(h:B<=w.heap.size)(o:Obj):B<=(w.alloc o).heap.size:=τ
def YI(s:yZ)(m k:Nat):List yZ:=(List.range k).map λi=>s.extract (i*m) (i*m+m)
theorem xP(s:yZ)(m k:Nat):YI s m (k+1)=YI s m k++[s.extract (k*m) (k*m+m)]:=by simp[YI,GW]
def PX(l m:Nat):Nat:=if l=0 then 1 else (l-1) / m+1
theorem uu(s:yZ){a b c:Nat}(h:min (b-a) (s.size-a)=min (c-a) (s.size-a)):s.extract a b=s.extract a c:=by
 apply EQ
 simp only[IL];exact Array.extract_eq_extract_right.2 h
theorem vS(s r:yZ)(a m:Nat)(h:r=s.extract a s.size):r.extract m r.size=s.extract (a+m) s.size:=by
 subst h;rw[KK]
 apply uu
 simp only[AQ];omega
theorem sE(s r:yZ)(a m:Nat)(h:r=s.extract a s.size):r.extract 0 m=s.extract a (a+m):=by
 subst h;rw[KK,IN]
 apply uu
 omega
theorem MW(s r:yZ)(a m:Nat)(h:r=s.extract a s.size)(b:r.size<=m):r=s.extract a (a+m):=by
 subst h;simp only[AQ]at b
 apply uu
 omega
theorem Ld(l m k r:Nat)(c:0<m)(e:k*m+r=l)(a:k=0\/0<r)(d:r<=m):PX l m=k+1:=by
 unfold PX
 by_cases b:l=0
 ·rw[AI b]
  rcases a with a|a
  ·omega
  omega
 rw[AF b]
 have:(l-1) / m=k:=by
  rw[Nat.div_eq_iff c];rcases a with a|a
  ·subst a;omega
  omega
 omega
theorem vk(s:yZ)(n m:Nat)(w:xV)(I:s.size<=1048576)(h:n+m=56)(D:1<=n)(E:n<=8):Calls prog 188 #[yQ s,Z (n:Int)] w λe z=>∃g c,e=yT (yI (zY g 0) (PX s.size m) c)/\w.heap.size<=g/\Row z g ((YI s m (PX s.size m)).map Value.string)/\yX w z:=by
 obtain⟨J,a,b,c,d⟩:=info_parts tm;have A:=Y (AG a (AG b (AG c d)));clear a b c d;go_enter func188,ntmps188;go_wp2_with (go_at_call 131;refine(Ai n m _ h D E).J ?_;rintro e z ⟨rfl,rfl⟩);go_loopw [0,5] (λx y wr=>∃(k:Nat) (r:yZ),x=yQ r/\Hid (r=s.extract (k*m) s.size)/\k*m+r.size=s.size/\Hid (k=0\/0<r.size)/\wr.ownsRow w.heap.size 9 1 y k ((YI s m k).map Value.string)/\yX w wr) (λx _ _=>match x with | .string r=>r.size|_=>0)
 case atStart=>exact⟨0,s,rfl,by show s=_;simp,σ,.inl rfl,DG _ #[] 0 (AA _) σ σ,LG _ _⟩
 case round =>
  obtain⟨k,r,rfl,q,F,x,l,b⟩:=hrel
  by_cases H:m<r.size
  ·have y:(m:Int)<(r.size:Int):=ω
   have C:k<=1048576:=by have:k*1<=k*m:=Nat.mul_le_mul_left k ω;omega
   have a:w.heap.size<=wr.heap.size:=b.size;have p:=Y b;have c:=Y (l.alloc (.cells #[yQ (r.extract 0 m)] 9));clear b l;go_wp2_with (at_builtin;refine QS _ rfl _ _ 27 rfl w.heap.size underlying27 A.j rfl ω _ k _ rfl c.j (yA wr.heap.size 0) 1 1 [yQ (r.extract 0 m)] rfl rfl (World.news_of_block (AU wr _)) (by intro u j;simp at j;subst j;rfl) (mu a _) (wr.heap.size+1) σ ?_;intro g i G f d v B;have o:=Y f;have t:=Y (fy (p.j.alloc a _) c.j d (mu a _));clear f d v);refine⟨⟨k+1,r.extract m r.size,rfl,?_,?_,?_,?_,t.j⟩,?_⟩
   ·show _=_
    rw[vS s r _ m q.j,IW,JY]
   ·rw[IW,JY];simp only[AQ];omega
   ·exact .inr (by simp only[AQ];omega)
   ·have e:=o.j
    rw[sE s r _ m q.j]at e;rw[xP,DA];exact e
   simp only[AQ];omega
  have C:k<=1048576:=by have:k*1<=k*m:=Nat.mul_le_mul_left k ω;omega
  have a:w.heap.size<=wr.heap.size:=b.size;have p:=Y b;have y:=Y (Ld s.size m k r.size ω F x.j ω);have c:=Y (l.alloc (.cells #[yQ r] 9));clear b l x;go_wp2_with (at_builtin;refine QS _ rfl _ _ 27 rfl w.heap.size underlying27 A.j rfl ω _ k _ rfl c.j (yA wr.heap.size 0) 1 1 [yQ r] rfl rfl (World.news_of_block (AU wr _)) (by intro u j;simp at j;subst j;rfl) (mu a _) (wr.heap.size+1) σ ?_;intro g i G f d v B;have o:=Y f;have t:=Y (fy (p.j.alloc a _) c.j d (mu a _));clear f d v);go_ret;refine⟨g,i,by rw[y.j];rfl,(o.j.lt g rfl).1,?_,t.j⟩;have e:=RJ o.j;rw[y.j,xP,DA];rw[MW s r _ m q.j ω]at e;exact e
theorem QH(n:Int)(w:xV):Calls prog 24 #[Z n] w λe a=>e=yT (yR (decide (1<=n/\n<=8)))/\a=w:=by
 by_cases b:1<=n
 ·by_cases a:n<=8
  ·go_enter func24,ntmps24
   go_wp2;go_ret;exact⟨by simp[b,a],rfl⟩
  go_enter func24,ntmps24
  go_wp2;go_ret;exact⟨by simp[a],rfl⟩
 go_enter func24,ntmps24
 go_wp2;go_ret;exact⟨τ,rfl⟩
theorem RH(n:Int)(w:xV):Calls prog 36 #[Z n] w λe a=>e=yT (yR (decide (1<=n/\n<=8)))/\a=w:=by
 by_cases b:1<=n
 ·by_cases a:n<=8
  ·go_enter func36,ntmps36
   go_wp2;go_ret;exact⟨by simp[b,a],rfl⟩
  go_enter func36,ntmps36
  go_wp2;go_ret;exact⟨by simp[a],rfl⟩
 go_enter func36,ntmps36
 go_wp2;go_ret;exact⟨τ,rfl⟩
def OO(l:Nat)(n:Int):Int:=if 1<=n/\n<=8 then (PX l (56-n).toNat:Int) else 0
theorem jn(n m:Nat)(w:xV)(h:n+m=56)(b:1<=n)(c:n<=8):Calls prog 236 #[Z (n:Int)] w λe a=>e=yT (Z (m:Int))/\a=w:=by
 have a:(64-(n:Int)-8)=(m:Int):=ω
 go_enter func236,ntmps236;go_wp2;go_ret
 exact⟨by first|rfl|exact BC _ (BC _ a),rfl⟩
theorem vq(s:yZ)(n:Int)(w:xV)(r:s.size<=1048576):Calls prog 204 #[yQ s,Z n] w λe f=>e=yT (Z (OO s.size n))/\yX w f:=by
 obtain⟨R,a⟩:∃R,Hid (R=OO s.size n):=⟨_,Y rfl⟩;rw[<-a.j]
 by_cases h:1<=n/\n<=8
 focus
  obtain⟨m,rfl⟩:∃m:Nat,n=(m:Int):=⟨n.toNat,ω⟩;obtain⟨q,k⟩:∃q:Nat,m+q=56:=⟨56-m,ω⟩;have g:decide (1<=(m:Int)/\(m:Int)<=8)=true:=τ
  by_cases i:s.size=0
  focus
   have c:s=empty:=by apply EQ;exact EU i
   subst c;have b:R=1:=by rw[a.j];unfold OO PX;rw[AI h];simp
   clear a;subst b
  rotate_left
  obtain⟨l,j⟩:∃l:Nat,s.size=l+1:=⟨s.size-1,ω⟩
  have b:R=((l / q:Nat):Int)+1:=by
   rw[a.j];unfold OO PX;rw[AI h,AF i,show(56-(m:Int)).toNat=q by omega,j];simp
  obtain⟨d,c⟩:∃d:Nat,d=l / q:=⟨_,rfl⟩;have o:d<=l:=by rw[c];exact KX _ _
  have p:(l:Int) / (q:Int)=(d:Int):=by rw[c];simp
  rw[<-c]at b;clear a c;subst b;have c:s.toList.isEmpty=false:=by rw[VA];simp[i]
  go_enter func204,ntmps204
  go_wp2_with (first|(go_at_call 36;refine(RH _ _).J ?_;rw[g];rintro e f ⟨rfl,rfl⟩)|(go_at_call 236;refine(jn m q _ k ω ω).J ?_;rintro e f ⟨rfl,rfl⟩))
  go_ret;exact⟨rfl,AB _ _⟩
 rotate_left
 focus
  have b:R=0:=by rw[a.j];unfold OO;exact AF h
  clear a;subst b;have g:decide (1<=n/\n<=8)=false:=τ
 rotate_left
 all_goals
  go_enter func204,ntmps204
  go_wp2_with (first|(go_at_call 36;refine(RH _ _).J ?_;rw[g];rintro e f ⟨rfl,rfl⟩))
  go_ret;exact⟨rfl,AB _ _⟩
theorem zT(s:yZ)(n:Int)(w:xV)(j:s.size<=1048576):Calls prog 182 #[yQ s,Z n] w λe b=>e=yT (Z (OO s.size n))/\yX w b:=by
 unfold OO
 by_cases d:1<=n/\n<=8
 ·rw[AI d]
  obtain⟨m,rfl⟩:∃m:Nat,n=(m:Int):=⟨n.toNat,ω⟩;obtain⟨q,i⟩:∃q:Nat,m+q=56:=⟨56-m,ω⟩;rw[show(56-(m:Int)).toNat=q by omega];have a:decide (1<=(m:Int)/\(m:Int)<=8)=true:=τ
  go_enter func182,ntmps182
  go_wp2_with (first|(go_at_call 24;refine(QH _ _).J ?_;rw[a];rintro e b ⟨rfl,rfl⟩)|(go_at_call 188;refine(vk s m q _ j i ω ω).J ?_;rintro e l ⟨g,c,rfl,k,f,h⟩;clear f))
  go_ret;exact⟨rfl,h⟩
 rw[AF d]
 have a:decide (1<=n/\n<=8)=false:=τ
 go_enter func182,ntmps182
 go_wp2_with (first|(go_at_call 24;refine(QH _ _).J ?_;rw[a];rintro e b ⟨rfl,rfl⟩))
 go_ret;exact⟨rfl,AB _ _⟩
def hv(n:Int):Int:=if 8<=n/\n<=200 then (n-2) / 2 else 0
theorem mq(n:Int)(w:xV):Calls prog 35 #[Z n] w λe a=>e=yT (yR (decide (8<=n/\n<=200)))/\a=w:=by
 go_enter func35,ntmps35
 by_cases a:8<=n<;>by_cases b:n<=200<;>(go_wp2;go_ret;simp[a,b])
theorem aa(n:Int)(w:xV):Calls prog 78 #[Z n] w λe a=>e=yT (Z (hv n))/\a=w:=by
 by_cases h:8<=n/\n<=200
 ·have a:decide (8<=n/\n<=200)=true:=by simp[h]
  have b:hv n=(n-2) / 2:=by unfold hv;rw[AI h]
  obtain⟨d,f⟩:=h;go_enter func78,ntmps78;go_wp2_with (go_at_call 35;refine(mq _ _).J ?_;rw[a];rintro e c ⟨rfl,rfl⟩);go_ret;refine⟨?_,rfl⟩;rw[b];rfl
 have a:decide (8<=n/\n<=200)=false:=by simpa using h
 have b:hv n=0:=by unfold hv;rw[AF h]
 rw[b];go_enter func78,ntmps78;go_wp2_with (go_at_call 35;refine(mq _ _).J ?_;rw[a];rintro e c ⟨rfl,rfl⟩);go_ret;exact⟨rfl,rfl⟩
theorem VU(n:Int)(w:xV):Calls prog 29 #[Z n] w λe a=>e=yT (Z (hv n))/\a=w:=by
 by_cases b:8<=n
 ·by_cases c:n<=200
  ·have a:hv n=(n-2) / 2:=by unfold hv;rw[AI ⟨b,c⟩]
   go_enter func29,ntmps29;go_wp2;go_ret;refine⟨?_,rfl⟩;rw[a];rfl
  have a:hv n=0:=by unfold hv;rw[AF (λx=>c x.2)]
  rw[a];go_enter func29,ntmps29;go_wp2;go_ret;exact⟨rfl,rfl⟩
 have a:hv n=0:=by unfold hv;rw[AF (λx=>b x.1)]
 rw[a];go_enter func29,ntmps29;go_wp2;go_ret;exact⟨rfl,rfl⟩
def MI(W S L T H F R U O:Int)(a:xA)(n c:Nat):qD:=.agg #[Z W,Z S,Z L,Z T,Z H,Z F,Z R,Z U,Z O,yI a n c]
@[reducible] def LM(a:xA)(n c:Nat)(b:xA)(e d:Nat):qD:=.agg #[yI a n c,yI b e d]
theorem ut:(prog.info? 9).map (λi=>(i.zero,i.size,i.bytes))=some (some (yQ empty),1,16):=κ
theorem yy:(prog.info? 147).map (λi=>(i.zero,i.size,i.bytes))=some (some (.agg #[Z 0,yQ empty]),2,24):=κ
theorem pq{W a:xV}(c:yX W a):(∀b o,b<W.heap.size->a.cell? (yA b o)=W.cell? (yA b o))/\(∀b o,b<W.heap.size->a.frozen? (yA b o)=W.frozen? (yA b o)) :=⟨λb o h=>c.cell (p:=(yA b o)) h,λb o h=>c.frozen (p:=(yA b o)) h⟩
theorem RM{a b:Bool}(h:a=b):yT (yR a)=yT (yR b):=by rw[h]
def PE(n:Nat)(x:Int×yZ):Bool:=decide (0<=x.1/\x.1<(n:Int)/\(x.2.size:Int)=64)
def LO(ss:List yZ)(ws:List (Int×yZ)):Bool:=decide (8<=ss.length/\ss.length<=200/\ws.length<=300) && ss.all (λs=>decide ((s.size:Int)=64)) && ws.all (PE ss.length)
theorem ny(h:¬(8<=ss.length/\ss.length<=200/\ws.length<=300)):LO ss ws=false:=by simp[LO,h]
theorem qF{s:yZ}(a:s∈ss)(h:¬(s.size:Int)=64):LO ss ws=false:=by
 have:ss.all (λs=>decide ((s.size:Int)=64))=false:=FK.2 ⟨s,a,by simpa using h⟩;simp[LO,this]
theorem uU{x:Int×yZ}(a:x∈ws)(h:PE ss.length x=false):LO ss ws=false:=by
 have:ws.all (PE ss.length)=false:=FK.2 ⟨x,a,by simp[h]⟩;simp[LO,this]
theorem ma(h:8<=ss.length/\ss.length<=200/\ws.length<=300)(a:∀s∈ss,(s.size:Int)=64)(b:∀x∈ws,PE ss.length x=true):LO ss ws=true:=by
 simp only[LO,BD,BG,DH];exact⟨⟨h,a⟩,b⟩
theorem OV(h:LO ss ws=true):(8<=ss.length/\ss.length<=200/\ws.length<=300)/\(∀s∈ss,(s.size:Int)=64)/\∀x∈ws,PE ss.length x=true:=by
 simp only[LO,BD,BG,DH]at h;exact⟨h.1.1,h.1.2,h.2⟩
theorem pR{n:Nat}{x:Int}{s:yZ}(a:0<=x)(b:x<(n:Int)):((s.size:Int) == 64)=PE n (x,s):=by
 rw[JB];simp[PE,a,b]
theorem mm(n:Nat)(x:Int)(s:yZ)(w:xV)(d:s.size<=1048576)(c:n<=1048576):Calls prog 146 #[Z (n:Int),Z x,yQ s] w λe a=>e=yT (yR (PE n (x,s)))/\a=w:=by
 by_cases a:0<=x
 ·by_cases b:x<(n:Int)
  ·go_enter func146,ntmps146
   go_wp2;go_ret;exact⟨RM (pR a b),rfl⟩
  go_enter func146,ntmps146
  go_wp2;go_ret;exact⟨RM (by simp[PE];omega),rfl⟩
 go_enter func146,ntmps146
 go_wp2;go_ret;exact⟨RM (by simp[PE];omega),rfl⟩
theorem yK(a:xA)(n c:Nat)(b:xA)(g d:Nat)(x:Int)(s:yZ)(w:xV)(i:s.size<=1048576)(h:n<=1048576):Calls prog 133 #[LM a n c b g d,Z x,yQ s] w λe f=>e=yT (yR (PE n (x,s)))/\yX w f:=by
 by_cases e:0<=x
 ·by_cases f:x<(n:Int)
  ·go_enter func133,ntmps133
   go_wp2;go_ret;exact⟨RM (pR e f),LG _ _⟩
  go_enter func133,ntmps133
  go_wp2;go_ret;exact⟨RM (by simp[PE];omega),LG _ _⟩
 go_enter func133,ntmps133
 go_wp2;go_ret;exact⟨RM (by simp[PE];omega),LG _ _⟩
theorem br(n:Int)(w:xV):Calls prog 35 #[Z n] w λe a=>e=yT (yR (decide (8<=n/\n<=200)))/\a=w:=by
 by_cases b:8<=n
 ·by_cases a:n<=200
  ·go_enter func35,ntmps35
   go_wp2;go_ret;exact⟨RM (by simp[b,a]),rfl⟩
  go_enter func35,ntmps35
  go_wp2;go_ret;exact⟨RM (by simp[a]),rfl⟩
 go_enter func35,ntmps35
 go_wp2;go_ret;exact⟨RM τ,rfl⟩
theorem WA(a:xA)(ss:List yZ)(c:Nat)(l:xA)(ws:List (Int×yZ))(t:Nat)(w:xV)(h:Strs w a ss)(G:Wrs w l ws)(Q:ss.length<=1048576)(L:ws.length<=1048576)(T:∀s∈ss,s.size<=1048576)(F:∀x∈ws,x.2.size<=1048576):Calls prog 101 #[LM a ss.length c l ws.length t] w λe m=>e=yT (yR (LO ss ws))/\yX w m:=by
 have p:∀b,yX w (w.alloc b):=λb=>LG _ _
 obtain⟨R,g⟩:∃R,Hid (R=LO ss ws):=⟨_,Y rfl⟩;rw[<-g.j]
 by_cases z:8<=(ss.length:Int)/\(ss.length:Int)<=200
 focus
  have y:decide (8<=(ss.length:Int)/\(ss.length:Int)<=200)=true:=AM z;obtain⟨M,N⟩:=z
  by_cases S:(ws.length:Int)<=300
  ·go_enter func101,ntmps101
   go_wp2_with (go_at_call 35;refine(br _ _).J ?_;rw[y];rintro e m ⟨rfl,rfl⟩);go_loop [4,21] (λ_ i=>∃k:Nat,k<=ss.length/\i=Z k/\Hid (∀s∈ss.take k,(s.size:Int)=64)) (λ_ i=>ss.length-(intOf i).toNat)
   case atStart =>
    exact⟨0,AL _,rfl,by show ∀s∈ss.take 0,_;simp⟩
   case round =>
    obtain⟨k,P,rfl,f⟩:=hrel
    by_cases r:k<ss.length
    ·obtain⟨b,o,s,rfl,H,j⟩:=(h.I (p (.cells #[yI a ss.length c,yI l ws.length t] 32))).at r
     have u:Hid (s∈ss):=by show _∈_;rw[j.j];simp[List.getD,r]
     by_cases d:((s.size:Int) != 64)=true
     ·go_wp2
      go_ret;exact⟨RM (by rw[g.j];exact(qF u.j (by simpa using d)).symm),p _⟩
     have q:((s.size:Int) != 64)=false:=by simpa using d
     have n:Hid ((s.size:Int)=64):=by show _=_;simpa using d
     clear d;go_wp2;go_round
     case rel =>
      exact⟨k+1,ω,ν,λx d=>by
            rw[BH r]at d;rcases BZ.1 d with d|d
            ·exact f.j x d
            simp at d;have e:=j.j;simp[List.getD,r]at e;rw[d,<-e];exact n.j⟩
     case measure =>
      simp[intOf];omega
    go_wp2
    have b:∀s∈ss,(s.size:Int)=64:=by have:=f.j;rwa [AR ω]at this
    have D:=Y b;clear b f;go_loopw [6,32] (λ_ i wr=>∃k:Nat,k<=ws.length/\i=Z k/\Hid (∀x∈ws.take k,PE ss.length x=true)/\Below (w.heap.size+1) (w.alloc (.cells #[yI a ss.length c,yI l ws.length t] 32)) wr) (λ_ i _=>ws.length-(intOf i).toNat)
    case atStart =>
     exact⟨0,AL _,rfl,by show ∀s∈ws.take 0,_;simp,AB _ _⟩
    case round =>
     obtain⟨C,K,rfl,A,f⟩:=hrel;have U:wr.cell? (yA w.heap.size 0)=some (yI a ss.length c):=(f.cell (p:=(yA w.heap.size 0)) (by show w.heap.size<_;omega)).E γ;have V:wr.cell? (yA w.heap.size 1)=some (yI l ws.length t):=(f.cell (p:=(yA w.heap.size 1)) (by show w.heap.size<_;omega)).E γ;have q:yX w wr:=(p _).E (f.J ω);have E:=Y f;have v:=Y q
     by_cases i:C<ws.length
     ·obtain⟨b,o,n,s,rfl,H,J,j⟩:=(G.I q).at i
      have u:Hid ((n,s)∈ws):=by show _∈_;rw[j.j];simp[List.getD,i]
      have B:s.size<=1048576:=F (n,s) u.j;have O:w.heap.size+1<=wr.heap.size:=by have:=f.size;simpa using this
      have I:w.heap.size<wr.heap.size:=ω
      clear f q
      cases hok:PE ss.length (n,s) with
      | false =>
       go_wp2_with (go_at_call 146;refine(mm ss.length n s _ B ω).J ?_;rw[hok];rintro e m ⟨rfl,rfl⟩);go_ret;exact⟨RM (by rw[g.j];exact(uU u.j hok).symm),v.j.alloc v.j.size _⟩
      | true =>
       go_wp2_with (go_at_call 146;refine(mm ss.length n s _ B ω).J ?_;rw[hok];rintro e m ⟨rfl,rfl⟩);go_roundw
       case rel =>
        exact⟨C+1,ω,ν,λx d=>by
              rw[BH i]at d;rcases BZ.1 d with d|d
              ·exact A.j x d
              simp at d;have e:=j.j;simp[List.getD,i]at e;rw[d,<-e];exact hok,E.j.alloc ω _⟩
       case measure =>
        simp[intOf];omega
     clear f q
     go_wp2;go_ret;refine⟨RM ?_,v.j⟩;rw[g.j];have b:=A.j;rw[AR ω]at b;exact(ma ω D.j b).symm
  focus
  rotate_left
 rotate_left
 focus
  have y:decide (8<=(ss.length:Int)/\(ss.length:Int)<=200)=false:=AH z
 rotate_left
 all_goals
  go_enter func101,ntmps101;go_wp2_with (go_at_call 35;refine(br _ _).J ?_;rw[y];rintro e m ⟨rfl,rfl⟩);go_ret;exact⟨RM (by rw[g.j];exact(ny ω).symm),p _⟩
theorem WH(a:xA)(ss:List yZ)(c:Nat)(t:xA)(ws:List (Int×yZ))(l:Nat)(w:xV)(h:Strs w a ss)(M:Wrs w t ws)(V:ss.length<=1048576)(Q:ws.length<=1048576)(X:∀s∈ss,s.size<=1048576)(J:∀x∈ws,x.2.size<=1048576):Calls prog 87 #[LM a ss.length c t ws.length l] w λe p=>e=yT (yR (LO ss ws))/\yX w p:=by
 have j:∀b,yX w (w.alloc b):=λb=>LG _ _
 obtain⟨R,f⟩:∃R,Hid (R=LO ss ws):=⟨_,Y rfl⟩;rw[<-f.j]
 by_cases S:8<=(ss.length:Int)
 ·by_cases T:(ss.length:Int)<=200
  ·by_cases W:(ws.length:Int)<=300
   ·go_enter func87,ntmps87
    go_wp2;go_loop [3] (λi=>∃k:Nat,k<=ss.length/\i=Z k/\Hid (∀s∈ss.take k,(s.size:Int)=64)) (λi=>ss.length-(intOf i).toNat)
    case atStart=>exact⟨0,AL _,rfl,by show ∀s∈ss.take 0,_;simp⟩
    case round =>
     obtain⟨k,U,rfl,g⟩:=hrel
     by_cases y:k<ss.length
     ·obtain⟨b,o,s,rfl,z,r⟩:=(h.I (j (.cells #[yI a ss.length c,yI t ws.length l] 32))).at y
      have A:Hid (s∈ss):=by show _∈_;rw[r.j];simp[List.getD,y]
      by_cases d:((s.size:Int) != 64)=true
      ·go_wp2
       go_ret;exact⟨RM (by rw[f.j];exact(qF A.j (by simpa using d)).symm),j _⟩
      have n:((s.size:Int) != 64)=false:=by simpa using d
      have m:Hid ((s.size:Int)=64):=by show _=_;simpa using d
      clear d;go_wp2;go_round
      case rel=>exact⟨k+1,ω,ν,λx d=>by
             rw[BH y]at d;rcases BZ.1 d with d|d
             ·exact g.j x d
             simp at d;have e:=r.j;simp[List.getD,y]at e;rw[d,<-e];exact m.j⟩
      case measure=>simp[intOf];omega
     go_wp2
     have b:∀s∈ss,(s.size:Int)=64:=by have:=g.j;rwa [AR ω]at this
     have H:=Y b;clear b g;go_loopw [4] (λi wr=>∃k:Nat,k<=ws.length/\i=Z k/\Hid (∀x∈ws.take k,PE ss.length x=true)/\Below (w.heap.size+1) (w.alloc (.cells #[yI a ss.length c,yI t ws.length l] 32)) wr) (λi _=>ws.length-(intOf i).toNat)
     case atStart=>exact⟨0,AL _,rfl,by show ∀s∈ws.take 0,_;simp,AB _ _⟩
     case round =>
      obtain⟨m,P,rfl,D,g⟩:=hrel;have F:wr.cell? (yA w.heap.size 0)=some (yI a ss.length c):=(g.cell (p:=(yA w.heap.size 0)) (by show w.heap.size<_;omega)).E γ;have G:wr.cell? (yA w.heap.size 1)=some (yI t ws.length l):=(g.cell (p:=(yA w.heap.size 1)) (by show w.heap.size<_;omega)).E γ;have v:yX w wr:=(j _).E (g.J ω);have I:=Y g;have B:=Y v
      by_cases u:m<ws.length
      ·obtain⟨b,o,n,s,rfl,z,d,r⟩:=(M.I v).at u
       have A:Hid ((n,s)∈ws):=by show _∈_;rw[r.j];simp[List.getD,u]
       have K:s.size<=1048576:=J (n,s) A.j;have L:w.heap.size+1<=wr.heap.size:=by have:=g.size;simpa using this
       have C:w.heap.size<wr.heap.size:=ω
       have E:b<wr.heap.size:=by have:=DQ wr _ z;simpa using this
       have O:(m:Int)<(ws.length:Int):=ω
       have N:(0:Int)<=(m:Int):=ω
       have q:=Y (AG F (AG G (AG z d)));go_wp2_with fail;clear g v F G z d
       go_region_held3 (λp=>p.cell? (yA w.heap.size 0)=some (yI a ss.length c)/\p.cell? (yA w.heap.size 1)=some (yI (zY b o) ws.length l)/\p.cell? (yA b (o+m*2))=some (Z n)/\p.cell? (yA b (o+m*2+1))=some (yQ s))
        (first|assumption|exact q.j|exact⟨(i.cell (p:=⟨_,_,none⟩) C).E q.j.1,(i.cell (p:=⟨_,_,none⟩) C).E q.j.2.1,(i.cell (p:=(yA b _)) E).E q.j.2.2.1,(i.cell (p:=(yA b _)) E).E q.j.2.2.2⟩)
        (first|(go_at_call 133;refine(yK a ss.length c (zY b o) ws.length l n s _ K ω).J ?_;rintro e d ⟨rfl,i⟩))
       cases hok:PE ss.length (n,s) with
       | false =>
        go_wp2;go_ret;exact⟨RM (by rw[f.j];exact(uU A.j hok).symm),B.j.drew.E (i.J B.j.size)⟩
       | true =>
        go_wp2;go_roundw
        case rel=>exact⟨m+1,ω,ν,λx d=>by
               rw[BH u]at d;rcases BZ.1 d with d|d
               ·exact D.j x d
               simp at d;have e:=r.j;simp[List.getD,u]at e;rw[d,<-e];exact hok,I.j.drew.E (i.J L)⟩
        case measure=>simp[intOf];omega
      clear g v
      go_wp2;go_ret;refine⟨RM ?_,B.j⟩;rw[f.j];have b:=D.j;rw[AR ω]at b;exact(ma ω H.j b).symm
   go_enter func87,ntmps87
   go_wp2;go_ret;exact⟨RM (by rw[f.j];exact(ny ω).symm),j _⟩
  go_enter func87,ntmps87
  go_wp2;go_ret;exact⟨RM (by rw[f.j];exact(ny ω).symm),j _⟩
 go_enter func87,ntmps87
 go_wp2;go_ret;exact⟨RM (by rw[f.j];exact(ny ω).symm),j _⟩
