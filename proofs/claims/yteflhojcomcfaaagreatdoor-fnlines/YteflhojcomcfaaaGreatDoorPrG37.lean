import Derived.Deep.RegionLaw
import Derived.Test.YteflhojcomcfaaaGreatDoorPrG25
set_option maxHeartbeats 16000000
set_option maxRecDepth 8000
set_option linter.all false
namespace Go.Proofs.YteflhojcomcfaaaGreatDoor
open _root_.ByteArray(empty)
open Tryz
open Go.RowKit
theorem zb:(prog.info? 9).map (λi=>(i.zero,i.size,i.bytes))=some (some (Ow empty),1,16):=h
theorem Cu(n m:Nat)(w:Q9)(h:n+m=56)(b:1<=n)(c:n<=8):Calls prog 168 #[Z (n:Int)] w λe a=>e=Q2 (Z (m:Int))/\a=w:=by
 have a:(64-(n:Int)-8)=(m:Int):=d
 go_enter func168,ntmps168;go_wp2;go_ret
 exact⟨by first|rfl|exact BD _ (BD _ a),z⟩
theorem mm{W w c:Q9}{e:TypeId}{b:Nat}{v:Ra}{n B:Nat}{h:List Ra}(f:Below B W w)(own:w.ownsRow B e b v n h)(a:w.grownBy c v.ownBlock)(i:B<=w.heap.size):Below B W c :=f.E ⟨a.os,a.tape,a.output,a.size,λk j=>a.block k d (λg=>by have:=(own.lt k g.symm).1;omega)⟩
theorem tw{w:Q9}{B:Nat}(h:B<=w.heap.size)(o:Obj):B<=(w.alloc o).heap.size:=q
def ek(s:Q4)(m k:Nat):List Q4:=(List.range k).map λi=>s.extract (i*m) (i*m+m)
theorem Ao(s:Q4)(m k:Nat):ek s m (k+1)=ek s m k++[s.extract (k*m) (k*m+m)]:=by simp[ek,GY]
def RK(l m:Nat):Nat:=if l=0 then 1 else (l-1) / m+1
theorem mM(s:Q4){a b c:Nat}(h:min (b-a) (s.size-a)=min (c-a) (s.size-a)):s.extract a b=s.extract a c:=by
 apply EV
 simp only[IN];exact Array.extract_eq_extract_right.2 h
theorem yP(s r:Q4)(a m:Nat)(h:r=s.extract a s.size):r.extract m r.size=s.extract (a+m) s.size:=by
 subst h;rw[KK]
 apply mM
 simp only[AQ];omega
theorem vL(s r:Q4)(a m:Nat)(h:r=s.extract a s.size):r.extract 0 m=s.extract a (a+m):=by
 subst h;rw[KK,IQ]
 apply mM
 omega
theorem vB(s r:Q4)(a m:Nat)(h:r=s.extract a s.size)(b:r.size<=m):r=s.extract a (a+m):=by
 subst h;simp only[AQ]at b
 apply mM
 omega
theorem M7(l m k r:Nat)(c:0<m)(e:k*m+r=l)(a:k=0\/0<r)(d:r<=m):RK l m=k+1:=by
 unfold RK
 by_cases b:l=0
 .rw[G b]
  rcases a with a|a
  .omega
  omega
 rw[A b]
 have:(l-1) / m=k:=by
  rw[Nat.div_eq_iff c];rcases a with a|a
  .subst a;omega
  omega
 omega
theorem nF(s:Q4)(n m:Nat)(w:Q9)(N:s.size<=1048576)(h:n+m=56)(H:1<=n)(J:n<=8):Calls prog 241 #[Ow s,Z (n:Int)] w λe A=>∃g c,e=Q2 (Y (Hw g 0) (RK s.size m) c)/\w.heap.size<=g/\Row A g ((ek s m (RK s.size m)).map Value.string)/\Q3 w A:=by
 obtain⟨O,a,b,c,f⟩:=info_parts zb;have D:=LE (I a (I b (I c f)));clear a b c f;go_enter func241,ntmps241;go_wp2_with (go_at_call 168;refine(Cu n m _ h H J).J ?_;rintro e A ⟨rfl,rfl⟩);go_loopw [0,5] (λx y wr=>∃(k:Nat) (r:Q4),x=Ow r/\Hid (r=s.extract (k*m) s.size)/\k*m+r.size=s.size/\Hid (k=0\/0<r.size)/\wr.ownsRow w.heap.size 9 1 y k ((ek s m k).map Value.string)/\Q3 w wr) (λx _ _=>match x with | .string r=>r.size|_=>0)
 case atStart=>exact⟨0,s,z,by show s=_;simp,j,.inl z,DH _ #[] 0 C j j,LH _ _⟩
 case round =>
  obtain⟨k,r,rfl,v,K,B,p,b⟩:=hrel
  by_cases M:m<r.size
  .have E:(m:Int)<(r.size:Int):=d
   have G:k<=1048576:=by have:k*1<=k*m:=Nat.mul_le_mul_left k d;omega
   have a:w.heap.size<=wr.heap.size:=b.size;have t:=LE b;have c:=LE (p.alloc (.cells #[Ow (r.extract 0 m)] 9));clear b p;go_wp2_with (at_builtin;refine SX _ z _ _ 29 z w.heap.size underlying29 D.j z d _ k _ z c.j (Ki wr.heap.size 0) 1 1 [Ow (r.extract 0 m)] z z (World.news_of_block (AV wr _)) (by intro u o;simp at o;subst o;rfl) (tw a _) (wr.heap.size+1) j ?_;intro g l L i f y F;have q:=LE i;have x:=LE (mm (t.j.alloc a _) c.j f (tw a _));clear i f y);refine⟨⟨k+1,r.extract m r.size,z,?_,?_,?_,?_,x.j⟩,?_⟩
   .show _=_
    rw[yP s r _ m v.j,ID,JY]
   .rw[ID,JY];simp only[AQ];omega
   .exact .inr (by simp only[AQ];omega)
   .have e:=q.j
    rw[vL s r _ m v.j]at e;rw[Ao,DC];exact e
   simp only[AQ];omega
  have G:k<=1048576:=by have:k*1<=k*m:=Nat.mul_le_mul_left k d;omega
  have a:w.heap.size<=wr.heap.size:=b.size;have t:=LE b;have E:=LE (M7 s.size m k r.size d K B.j d);have c:=LE (p.alloc (.cells #[Ow r] 9));clear b p B;go_wp2_with (at_builtin;refine SX _ z _ _ 29 z w.heap.size underlying29 D.j z d _ k _ z c.j (Ki wr.heap.size 0) 1 1 [Ow r] z z (World.news_of_block (AV wr _)) (by intro u o;simp at o;subst o;rfl) (tw a _) (wr.heap.size+1) j ?_;intro g l L i f y F;have q:=LE i;have x:=LE (mm (t.j.alloc a _) c.j f (tw a _));clear i f y);go_ret;refine⟨g,l,by rw[E.j];rfl,(q.j.lt g z).1,?_,x.j⟩;have e:=UA q.j;rw[E.j,Ao,DC];rw[vB s r _ m v.j d]at e;exact e
theorem RZ(n:Int)(w:Q9):Calls prog 43 #[Z n] w λe a=>e=Q2 (Q1 (decide (1<=n/\n<=8)))/\a=w:=by
 by_cases b:1<=n
 .by_cases a:n<=8
  .go_enter func43,ntmps43
   go_wp2;go_ret;exact⟨by simp[b,a],z⟩
  go_enter func43,ntmps43
  go_wp2;go_ret;exact⟨by simp[a],z⟩
 go_enter func43,ntmps43
 go_wp2;go_ret;exact⟨q,z⟩
theorem TX(n:Int)(w:Q9):Calls prog 27 #[Z n] w λe a=>e=Q2 (Q1 (decide (1<=n/\n<=8)))/\a=w:=by
 by_cases b:1<=n
 .by_cases a:n<=8
  .go_enter func27,ntmps27
   go_wp2;go_ret;exact⟨by simp[b,a],z⟩
  go_enter func27,ntmps27
  go_wp2;go_ret;exact⟨by simp[a],z⟩
 go_enter func27,ntmps27
 go_wp2;go_ret;exact⟨q,z⟩
def QB(l:Nat)(n:Int):Int:=if 1<=n/\n<=8 then (RK l (56-n).toNat:Int) else 0
theorem qn(n m:Nat)(w:Q9)(h:n+m=56)(b:1<=n)(c:n<=8):Calls prog 224 #[Z (n:Int)] w λe a=>e=Q2 (Z (m:Int))/\a=w:=by
 have a:(64-(n:Int)-8)=(m:Int):=d
 go_enter func224,ntmps224;go_wp2;go_ret
 exact⟨by first|rfl|exact BD _ (BD _ a),z⟩
theorem nJ(s:Q4)(n:Int)(w:Q9)(y:s.size<=1048576):Calls prog 192 #[Ow s,Z n] w λe h=>e=Q2 (Z (QB s.size n))/\Q3 w h:=by
 obtain⟨R,c⟩:=x (QB s.size n);rw[<-c.j]
 by_cases j:1<=n/\n<=8
 focus
  obtain⟨m,rfl⟩:∃m:Nat,n=(m:Int):=⟨n.toNat,d⟩;obtain⟨a,r⟩:∃a:Nat,m+a=56:=⟨56-m,d⟩;have i:decide (1<=(m:Int)/\(m:Int)<=8)=true:=q
  by_cases k:s.size=0
  focus
   have o:s=empty:=by apply EV;exact EW k
   subst o;have f:R=1:=by rw[c.j];unfold QB RK;rw[G j];simp
   clear c;subst f
  rotate_left
  obtain⟨l,p⟩:∃l:Nat,s.size=l+1:=⟨s.size-1,d⟩
  have f:R=((l / a:Nat):Int)+1:=by
   rw[c.j];unfold QB RK;rw[G j,A k,show(56-(m:Int)).toNat=a by omega,p];simp
  obtain⟨b,g⟩:=u (l / a:Nat);have t:b<=l:=by rw[g];exact KX _ _
  have v:(l:Int) / (a:Int)=(b:Int):=by rw[g];simp
  rw[<-g]at f;clear c g;subst f;have g:s.toList.isEmpty=false:=by rw[YH];simp[k]
  go_enter func192,ntmps192
  go_wp2_with (first|(go_at_call 27;refine(TX _ _).J ?_;rw[i];rintro e h ⟨rfl,rfl⟩)|(go_at_call 224;refine(qn m a _ r d d).J ?_;rintro e h ⟨rfl,rfl⟩))
  go_ret;exact⟨z,D⟩
 rotate_left
 focus
  have f:R=0:=by rw[c.j];unfold QB;exact A j
  clear c;subst f;have i:decide (1<=n/\n<=8)=false:=q
 rotate_left
 all_goals
  go_enter func192,ntmps192
  go_wp2_with (first|(go_at_call 27;refine(TX _ _).J ?_;rw[i];rintro e h ⟨rfl,rfl⟩))
  go_ret;exact⟨z,D⟩
theorem Cf(s:Q4)(n:Int)(w:Q9)(l:s.size<=1048576):Calls prog 235 #[Ow s,Z n] w λe f=>e=Q2 (Z (QB s.size n))/\Q3 w f:=by
 unfold QB
 by_cases h:1<=n/\n<=8
 .rw[G h]
  obtain⟨m,rfl⟩:∃m:Nat,n=(m:Int):=⟨n.toNat,d⟩;obtain⟨a,k⟩:∃a:Nat,m+a=56:=⟨56-m,d⟩;rw[show(56-(m:Int)).toNat=a by omega];have b:decide (1<=(m:Int)/\(m:Int)<=8)=true:=q
  go_enter func235,ntmps235
  go_wp2_with (first|(go_at_call 43;refine(RZ _ _).J ?_;rw[b];rintro e f ⟨rfl,rfl⟩)|(go_at_call 241;refine(nF s m a _ l k d d).J ?_;rintro e p ⟨g,c,rfl,o,i,j⟩;clear i))
  go_ret;exact⟨z,j⟩
 rw[A h]
 have b:decide (1<=n/\n<=8)=false:=q
 go_enter func235,ntmps235
 go_wp2_with (first|(go_at_call 43;refine(RZ _ _).J ?_;rw[b];rintro e f ⟨rfl,rfl⟩))
 go_ret;exact⟨z,D⟩
theorem Oc(s:Q4)(w:Q9)(n:Nat)(t:s.size<=1048576)(p:1<=n)(r:n<=8):Calls prog 239 #[Ow s,Z (n:Int)] w λe a=>e=Q2 (Ow (WM s n))/\Q3 w a:=by
 have m:=xu;have j:(1:Int)<=(n:Int):=d
 have l:(n:Int)<=8:=d
 go_enter func239,ntmps239;go_wp2;go_loop [5,6] (λv i=>∃k:Nat,k<=s.size/\i=Z k/\v=.int .u64 (RL (s.data.toList.take k))) (λ_ i=>s.size-(intOf i).toNat)
 case atStart=>exact⟨0,AL,z,z⟩
 case round =>
  obtain⟨k,h,rfl,rfl⟩:=hrel
  by_cases c:k<s.size
  .have a:Hid (RL (s.data.toList.take (k+1))=sw (RL (s.data.toList.take k)) s[k]):=by show _=_;rw[n6 s k c,oX]
   go_wp2;go_round
   case rel=>exact⟨k+1,d,ν,by rw[a.j];rfl⟩
   case measure=>simp[intOf];omega
  have a:s.data.toList.take k=s.data.toList:=AS q
  have f:Hid (RL (s.data.toList.take k)=RL s.data.toList):=by show _=_;rw[a]
  clear a;obtain⟨x,a⟩:∃x,Hid (x=RL s.data.toList):=⟨RL s.data.toList,(z:RL s.data.toList=RL s.data.toList)⟩;rw[f.j,<-a.j];have e:0<=x/\x<=18446744073709551615:=by rw[a.j];exact uP _
  go_wp2;go_loopw [5,7,8] (λv o i wr=>∃k:Nat,k<=n/\i=Z k/\o=Ow (strOfNums (be k x))/\v=.int .u64 (sh k x)/\Q3 w wr) (λ_ _ i _=>n-(intOf i).toNat)
  case atStart=>exact⟨0,AL,z,z,z,D⟩
  case round =>
   obtain⟨k,h,rfl,rfl,rfl,b⟩:=hrel;have i:=Am k x e.1 e.2
   by_cases c:k<n
   .have g:(strOfNums [sh k x % 256]).size<=1:=by rw[CY];simp
    have o:(strOfNums (be k x)).size<=8:=by rw[CY,QN];omega
    go_wp2;go_roundw
    case rel=>exact⟨k+1,d,ν,by rw[nY,<-WB];rfl,z,b.alloc b.size _⟩
    case measure=>simp[intOf];omega
   have g:k=n:=d
   subst g;go_wp2;go_ret;exact⟨xi (by unfold WM;rw[a.j]),b⟩
theorem jp(b a n f:Nat)(x:Int)(w:Q9)(t:n<=64)(h:0<=x)(l:x<=18446744073709551615)
  (m:∀i,i<n->∃u,w.cell? (Ki b (a+i))=some (.int .u8 u))(o:∀i,i<n->w.frozen? (Ki b (a+i))=false):Calls prog 280 #[Y (Hw b a) n f,.int .u64 x] w λe c=>e=Q2 (.tuple #[])/\Wrote w c b a (be n x):=by
 go_enter func280,ntmps280;go_wp2;go_loopw [1,4] (λv i wr=>∃k:Nat,k<=n/\i=Z ((n:Int)-1-k)/\v=.int .u64 (sh k x)/\Wrote w wr b (a+(n-k)) (be k x)) (λ_ i _=>(intOf i+1).toNat)
 case atStart=>exact⟨0,AL,j,z,by simpa[be] using Wrote.refl w b (a+n)⟩
 case round =>
  obtain⟨k,s,rfl,rfl,c⟩:=hrel;have q:=Am k x h l
  by_cases p:k<n
  .obtain⟨u,e⟩:=m (n-1-k) d
   have r:wr.cell? (Ki b (a+(n-1-k)))=some (.int .u8 u):=(c.outside _ (.inl d)).E e;have i:wr.frozen? (Ki b (a+(n-1-k)))=false:=(c.frozen _).E (o _ d);go_wp2;go_roundw
   case rel =>
    have g:=Wrote.step (off:=a+(n-1-k)) (xs:=be k x) (by rw[show a+(n-1-k)+1=a+(n-k) by omega];exact c) (sh k x % 256) e;exact⟨k+1,d,ν,z,by rw[nY,show n-(k+1)=n-1-k by omega];exact g⟩
   case measure=>simp[intOf];omega
  have e:k=n:=d
  subst e;go_wp2;go_end0;exact⟨z,by simpa using c⟩
theorem Om(s:Q4)(w:Q9)(n:Nat)(D:s.size<=1048576)(y:1<=n)(A:n<=8):Calls prog 281 #[Ow s,Z (n:Int)] w λe a=>e=Q2 (Ow (WM s n))/\Q3 w a:=by
 have t:(1:Int)<=(n:Int):=d
 have u:(n:Int)<=8:=d
 go_enter func281,ntmps281;go_wp2;go_loop [5,6] (λv i=>∃k:Nat,k<=s.size/\i=Z k/\v=.int .u64 (RL (s.data.toList.take k))) (λ_ i=>s.size-(intOf i).toNat)
 case atStart=>exact⟨0,AL,z,z⟩
 case round =>
  obtain⟨k,B,rfl,rfl⟩:=hrel
  by_cases r:k<s.size
  .have a:Hid (RL (s.data.toList.take (k+1))=sw (RL (s.data.toList.take k)) s[k]):=by show _=_;rw[n6 s k r,oX]
   go_wp2;go_round
   case rel=>exact⟨k+1,d,ν,by rw[a.j];rfl⟩
   case measure=>simp[intOf];omega
  have a:s.data.toList.take k=s.data.toList:=AS q
  have o:Hid (RL (s.data.toList.take k)=RL s.data.toList):=by show _=_;rw[a]
  clear a;obtain⟨x,b⟩:∃x,Hid (x=RL s.data.toList):=⟨RL s.data.toList,(z:RL s.data.toList=RL s.data.toList)⟩;rw[o.j,<-b.j];have l:0<=x/\x<=18446744073709551615:=by rw[b.j];exact uP _
  go_wp2_with fail;refine(jp w.heap.size 0 8 8 x _ d l.1 l.2 ?hc ?hf).J ?_
  case hc =>
   intro i g;have:i=0\/i=1\/i=2\/i=3\/i=4\/i=5\/i=6\/i=7:=d
   rcases this with rfl|rfl|rfl|rfl|rfl|rfl|rfl|rfl<;>exact⟨0,j⟩
  case hf=>intro i g;simp
  rintro e m ⟨rfl,c⟩;have p:Q3 w m:=(LH _ _).E (c.I C)
  have v:=λf=>EO (P:=prog) m 22 5 underlying22 underlying5 w.heap.size (8-n) n f (be n x) (QN n x) (λi g=>by
   have a:=c.inside (8-n+i) (by rw[QN];omega);rw[vA _ _ _ d]at a;rw[vA _ _ _ d,show n-1-i=8-1-(8-n+i) by omega]
   simpa using a) 9 underlying9
  clear c
  have c:=λf=>ux (P:=prog) (t:=351) underlying351 (λ_=>h) w.heap.size 0 (8-n) d .i64 (8-(n:Int)) d f
  rw[show 8-(8-n)=n by omega,BK]at c;go_wp2;go_ret;exact⟨xi (by unfold WM;rw[b.j]),p⟩
theorem dw{a b:Bool}(h:a=b):Q2 (Q1 a)=Q2 (Q1 b):=by rw[h]
def OB(k l m:Int)(p:Q4)(n:Int):Bool:=decide (1<=n/\n<=8/\1<=k/\k<=4/\1<=l/\l<=60000/\1<=m/\m<=1000000000/\(p.size:Int)<=56-n/\(k=3->p.size=0))
@[reducible] def OD(k l m:Int)(p:Q4):Ra:=.agg #[Z k,Z l,Z m,Ow p]
theorem Kd(v:Int)(c:Nat)(w:Q9)(f:0<=v)(g:v<=9223372036854775807)(l:c<=8):Calls prog 238 #[Z v,Z (c:Int)] w λe a=>e=Q2 (Ow (strOfNums (be c v)))/\Q3 w a:=by
 have e:=xu;go_enter func238,ntmps238;go_wp2;go_loopw [0,5,6] (λx o i wr=>∃k:Nat,k<=c/\i=Z k/\o=Ow (strOfNums (be k v))/\x=Z (sh k v)/\Q3 w wr) (λ_ _ i _=>c-(intOf i).toNat)
 case atStart=>exact⟨0,AL,z,z,z,D⟩
 case round =>
  obtain⟨k,m,rfl,rfl,rfl,a⟩:=hrel;have i:=Du k v f g
  by_cases h:k<c
  .have b:(strOfNums [sh k v % 256]).size<=1:=by rw[CY];simp
   have j:(strOfNums (be k v)).size<=8:=by rw[CY,QN];omega
   go_wp2;go_roundw
   case rel=>exact⟨k+1,d,ν,by rw[nY,<-WB];rfl,z,a.alloc a.size _⟩
   case measure=>simp[intOf];omega
  have b:k=c:=d
  subst b;go_wp2;go_ret;exact⟨z,a⟩
theorem ms(n:Int)(w:Q9)(b:1<=n)(c:n<=8):Calls prog 168 #[Z n] w λe a=>e=Q2 (Z (64-n-8))/\a=w:=by
 go_enter func168,ntmps168;go_wp2;go_ret;exact⟨z,z⟩
theorem nH(n:Int)(w:Q9)(b:1<=n)(c:n<=8):Calls prog 224 #[Z n] w λe a=>e=Q2 (Z (64-n-8))/\a=w:=by
 go_enter func224,ntmps224;go_wp2;go_ret;exact⟨z,z⟩
theorem sn(k l m:Int)(p:Q4)(n:Int)(w:Q9)(g:p.size<=1048576):Calls prog 225 #[OD k l m p,Z n] w λe c=>e=Q2 (Q1 (OB k l m p n))/\Q3 w c:=by
 by_cases b:1<=n/\n<=8
 .obtain⟨d,f⟩:=b
  go_enter func225,ntmps225;go_wp2
  all_goals first
   | (go_ret;refine⟨dw ?_,LH _ _⟩;unfold OB;symm;apply AH;intro h;omega)
   | (go_ret;refine⟨dw ?_,LH _ _⟩;have a:(k == 3)=true:=(by assumption);rw[YH];unfold OB;simp at a;apply JT.2;constructor<;>intro h<;>omega)
   | (go_quiet ((go_at_call 224;exact Calls.quiet_of_same (nH _ _ d f)));go_wp2;go_ret;refine⟨dw ?_,below_drewN (LH _ _) _⟩;have a:(k == 3)=false:=(by assumption);unfold OB;simp at a;apply JT.2;constructor<;>intro h<;>omega)
 have a:decide (1<=n/\n<=8)=false:=by simpa using b
 go_enter func225,ntmps225;go_wp2_with (go_at_call 27;refine(TX _ _).J ?_;rw[a];rintro e c ⟨rfl,rfl⟩);go_ret;refine⟨dw ?_,LH _ _⟩;unfold OB;symm;apply AH;intro h;omega
theorem sE(k l m:Int)(p:Q4)(n:Int)(w:Q9)(x:p.size<=1048576):Calls prog 237 #[OD k l m p,Z n] w λe f=>e=Q2 (Q1 (OB k l m p n))/\Q3 w f:=by
 by_cases d:1<=n/\n<=8
 .obtain⟨b,c⟩:=d
  by_cases j:1<=k/\k<=4/\1<=l/\l<=60000/\1<=m/\m<=1000000000
  .obtain⟨q,r,s,t,u,v⟩:=j
   by_cases o:(p.size:Int)<=64-n-8
   .by_cases a:k=3
    .have i:(k != 3)=false:=by simp[a]
     have g:Hid (k=3):=a;clear a;go_enter func237,ntmps237;go_wp2;go_quiet ((go_at_call 168;exact Calls.quiet_of_same (ms _ _ b c)));go_wp2;go_ret;refine⟨dw ?_,below_drewN (LH _ _) _⟩;rw[YH];unfold OB;have a:=g.j;apply JT.2;constructor<;>intro h<;>omega
    have i:(k != 3)=true:=by simp[a]
    go_enter func237,ntmps237;go_wp2;go_quiet ((go_at_call 168;exact Calls.quiet_of_same (ms _ _ b c)));go_wp2;go_ret;refine⟨dw ?_,below_drewN (LH _ _) _⟩;unfold OB;symm;apply AM;omega
   have a:decide ((p.size:Int)<=64-n-8)=false:=by simpa using o
   go_enter func237,ntmps237;go_wp2;go_quiet ((go_at_call 168;exact Calls.quiet_of_same (ms _ _ b c)));go_wp2;go_ret;refine⟨dw ?_,below_drewN (LH _ _) _⟩;unfold OB;symm;apply AH;intro h;omega
  have a:OB k l m p n=false:=by unfold OB;apply AH;intro h;omega
  have g:Hid (OB k l m p n=false):=a;clear a;go_enter func237,ntmps237;go_wp2
  all_goals (go_ret;exact⟨dw g.j.symm,LH _ _⟩)
 have a:decide (1<=n/\n<=8)=false:=by simpa using d
 go_enter func237,ntmps237;go_wp2_with (go_at_call 43;refine(RZ _ _).J ?_;rw[a];rintro e f ⟨rfl,rfl⟩);go_ret;refine⟨dw ?_,LH _ _⟩;unfold OB;symm;apply AH;intro h;omega
theorem RP{p:Prop}(h:p):Hid p:=h
def qK:Ra->Q4
 | .string s=>s
 | _=>empty
theorem Do(k l m:Int)(p:Q4):strOfNums (be 1 k)++strOfNums (be 2 l)++strOfNums (be 4 m)++strOfNums (be 1 (p.size:Int))++p=strOfNums (ac k l m p++List.replicate 0 0):=by
 rw[List.replicate_zero,FT];unfold ac;rw[WB,WB,WB,WB,WR]
theorem Bf(a:List Int)(j:Nat):strOfNums (a++List.replicate j 0)++⟨#[0]⟩=strOfNums (a++List.replicate (j+1) 0):=by
 rw[LA,<-BY,WB _ [0]];rfl
theorem kx(v:Int)(c:Nat)(a:Int)(b:a=(c:Int))(w:Q9)(d:0<=v)(f:v<=9223372036854775807)(g:c<=8):Calls prog 238 #[Z v,Z a] w λe h=>e=Q2 (Ow (strOfNums (be c v)))/\Q3 w h:=by
 subst b;exact Kd v c w d f g
theorem kc{W:Q9}{v0 v1 v2 v3:Ra}{w a:Q9}(b:Q3 w a)
  (h:W.heap.size<w.heap.size/\w.cell? (Ki W.heap.size 0)=some v0/\w.cell? (Ki W.heap.size 1)=some v1/\w.cell? (Ki W.heap.size 2)=some v2/\w.cell? (Ki W.heap.size 3)=some v3/\Q3 W w):W.heap.size<a.heap.size/\a.cell? (Ki W.heap.size 0)=some v0/\a.cell? (Ki W.heap.size 1)=some v1/\a.cell? (Ki W.heap.size 2)=some v2/\a.cell? (Ki W.heap.size 3)=some v3/\Q3 W a :=⟨AC h.1 b.size,(b.cell (p:=⟨_,0,none⟩) h.1).E h.2.1,(b.cell (p:=⟨_,1,none⟩) h.1).E h.2.2.1,(b.cell (p:=⟨_,2,none⟩) h.1).E h.2.2.2.1,(b.cell (p:=⟨_,3,none⟩) h.1).E h.2.2.2.2.1,
  h.2.2.2.2.2.E (b.J (KF h.1))⟩
theorem La(k l m:Int)(p:Q4)(n:Nat)(w:Q9)(h:OB k l m p n=true):Calls prog 166 #[OD k l m p,Z (n:Int)] w λe c=>e=Q2 (Ow (WQ k l m p n))/\Q3 w c:=by
 have s:=AW (by unfold OB at h;exact h);obtain⟨K,L,C,E,F,G,I,J,P,_⟩:=s;have V:(strOfNums (be 1 k)).size=1:=by rw[CY,QN]
 have W:(strOfNums (be 2 l)).size=2:=by rw[CY,QN]
 have X:(strOfNums (be 4 m)).size=4:=by rw[CY,QN]
 have D:(strOfNums (be 1 (p.size:Int))).size=1:=by rw[CY,QN]
 have z5:¬(9223372036854775807<8+p.size):=d
 go_enter func166,ntmps166;go_wp2_with (go_at_call 237;refine(sE k l m p n _ d).J ?_;rw[h];rintro e f ⟨rfl,o⟩)
 have r:w.heap.size<f.heap.size/\f.cell? (Ki w.heap.size 0)=some (Z k)/\f.cell? (Ki w.heap.size 1)=some (Z l)/\f.cell? (Ki w.heap.size 2)=some (Z m)/\f.cell? (Ki w.heap.size 3)=some (Ow p)/\Q3 w f :=kc (v0:=Z k) (v1:=Z l) (v2:=Z m) (v3:=Ow p) o ⟨j,j,j,j,j,LH _ _⟩
 have i:=RP r;clear r o
 go_region_held3 (λc=>w.heap.size<c.heap.size/\c.cell? (Ki w.heap.size 0)=some (Z k)/\c.cell? (Ki w.heap.size 1)=some (Z l)/\c.cell? (Ki w.heap.size 2)=some (Z m)/\c.cell? (Ki w.heap.size 3)=some (Ow p)/\Q3 w c)
  (first|assumption|exact kc (below_drewN AB 1) i.j|exact kc (by assumption) (by assumption))
  (first|(go_at_call_of 238 k;refine(kx k 1 _ z _ d d d).J ?_;rintro e Q ⟨rfl,x⟩)|(go_at_call_of 238 l;refine(kx l 2 _ z _ d d d).J ?_;rintro e R ⟨rfl,y⟩)|(go_at_call_of 238 m;refine(kx m 4 _ z _ d d d).J ?_;rintro e S ⟨rfl,A⟩)|(go_at_call_of 238 (p.size:Int);refine(kx (p.size:Int) 1 _ z _ d d d).J ?_;rintro e T ⟨rfl,B⟩))
 clear i;rename_i g;have q:=g.2.2.2.2.2;clear g;go_wp2;go_loop [5] (λb=>∃a:Nat,a<=56-n-p.size/\b=Ow (strOfNums (ac k l m p++List.replicate a 0))) (λb=>64-(qK b).size)
 case atStart=>exact⟨0,AL,by rw[Do]⟩
 case round =>
  obtain⟨a,O,rfl⟩:=hrel;have v:(strOfNums (ac k l m p++List.replicate a 0)).size=8+p.size+a:=by rw[CY,AK,yd,DX]
  by_cases H:a<56-n-p.size
  .go_wp2
   go_round
   case rel=>exact⟨a+1,d,by rw[Bf]⟩
   case measure =>
    rw[Bf];simp only[qK,CY,AK,yd,DX];omega
  have u:a=56-n-p.size:=d
  subst u;have M:(WM (strOfNums (ac k l m p++List.replicate (56-n-p.size) 0)) n).size=n:=th _ _;have N:¬(9223372036854775807<n+(8+p.size+(56-n-p.size))):=d
  go_wp2_with (go_at_call 239;refine(Oc _ _ n (by rw[v];omega) d d).J ?_;rintro e U ⟨rfl,t⟩);go_ret;exact⟨z,q.E (t.J q.size)⟩
theorem Iu(k l m:Int)(p:Q4)(n:Int)(w:Q9)(c:p.size<=1048576)(b:OB k l m p n=false):Calls prog 166 #[OD k l m p,Z n] w λe a=>e=Q2 (Ow empty)/\Q3 w a:=by
 go_enter func166,ntmps166;go_wp2_with (go_at_call 237;refine(sE k l m p n _ c).J ?_;rw[b];rintro e d ⟨rfl,a⟩);go_ret;exact⟨z,(LH _ _).E (a.J j)⟩
