import Derived.Test.YtjdmogljfdffeaaGreatDoorPrDrvOf
import Derived.Test.YtjdmogljfdffeaaGreatDoorPrG42
import Derived.Test.YtjdmogljfdffeaaGreatDoorPrMvS
import Derived.Test.YtjdmogljfdffeaaGreatDoorPrNwB
import Derived.Test.YtjdmogljfdffeaaGreatDoorPrWoE
set_option maxHeartbeats 16000000
set_option maxRecDepth 8000
set_option linter.all false
namespace Go.Proofs.YtjdmogljfdffeaaGreatDoor
open _root_.ByteArray(empty)
section
open Tryz
open Go.RowKit
def RL(d:List ByteArray×List (Int×ByteArray))(o:Bool×Int×ByteArray):List ByteArray×List (Int×ByteArray) :=if o.1=true then (xhE d.2 d.1,[]) else if OP d.1.length o.2=true/\d.2.length<300 then (d.1,d.2++[o.2]) else d
def LA:List (Bool×Int×ByteArray)->List ByteArray×List (Int×ByteArray)->List ByteArray×List (Int×ByteArray)
 | [],d=>d
 | o::r,d=>LA r (RL d o)
theorem NF(d:List ByteArray×List (Int×ByteArray))(x:Int×ByteArray):RL d (true,x)=(xhE d.2 d.1,[]):=by simp[RL]
theorem OW(d:List ByteArray×List (Int×ByteArray))(x:Int×ByteArray)(h:OP d.1.length x=true)(a:d.2.length<300):RL d (false,x)=(d.1,d.2++[x]):=by simp[RL,h,a]
theorem RN(d:List ByteArray×List (Int×ByteArray))(x:Int×ByteArray)(h:OP d.1.length x=false\/¬d.2.length<300):RL d (false,x)=d:=by
 unfold RL;rw[AG σ,AG];rintro⟨a,b⟩;rcases h with h|h
 ·rw[h]at a;cases a
 exact h b
theorem RM(d:List ByteArray×List (Int×ByteArray))(o:Bool×Int×ByteArray):(RL d o).1.length=d.1.length:=by
 unfold RL
 split
 ·exact WY _ _
 split<;>rfl
theorem SZ:∀(ws:List (Int×ByteArray)) (ss:List ByteArray),(∀s∈ss,(s.size:Int)=64)->(∀x∈ws,(x.2.size:Int)=64)->∀s∈xhE ws ss,(s.size:Int)=64
 | [],ss,h,_=>h
 | x::r,ss,h,hw=>SZ r _ (λs hs=>by
   rcases EV hs with h3|h3
   ·exact h s h3
   ·rw[h3];exact hw x (EH ..)) (λy hy=>hw y (DS _ hy))
theorem PH{n:Nat}{x:Int×ByteArray}(h:OP n x=true):(0<=x.1/\x.1<(n:Int))/\(x.2.size:Int)=64:=by
 have:=AU h;omega
theorem RC{a:List ByteArray}{b:List (Int×ByteArray)}(c:8<=a.length/\a.length<=200/\b.length<=300)(d:∀s∈a,(s.size:Int)=64)(e:∀x∈b,OP a.length x=true):LG a b=true:=by
 unfold LG;rw[BE,BE];exact⟨⟨AM c,DO.2 λs f=>AM (d s f)⟩,DO.2 e⟩
theorem UC(d:List ByteArray×List (Int×ByteArray))(o:Bool×Int×ByteArray)(h:LG d.1 d.2=true):LG (RL d o).1 (RL d o).2=true:=by
 obtain⟨f,b,c⟩:=PA h;unfold RL
 split
 ·refine RC ?_ (SZ _ _ b λx a=>(PH (c x a)).2) (λx a=>by simp at a)
  show 8<=(xhE d.2 d.1).length/\(xhE d.2 d.1).length<=200/\0<=300;rw[WY];omega
 split
 ·rename_i e
  refine RC ?_ b (λx a=>?_)
  ·show 8<=d.1.length/\d.1.length<=200/\(d.2++[o.2]).length<=300
   rw[AE];have:=e.2;simp;omega
  rcases BS.1 a with a|a
  ·exact c x a
  rw[DJ.1 a];exact e.1
 exact h
theorem WT(x y:List Int)(a:x.length=64)(b:y.length=64):TG 64 x y=x:=by
 unfold TG;rw[AV ω,EI ω,EA]
structure DV(w:World)(base X g n:Nat)(v:Value)(ps:List (List Int))(hs:List (Int×List Int)):Prop where
 rx:Row w X [.slice (some ⟨g,0,none⟩) n n,v]
 pr:PR w g ps
 own:w.ownsRow base 145 65 v hs.length (NQ hs)
 nx:v.ownBlock≠some X
 ng:v.ownBlock≠some g
 xg:X≠g
 bx:base<=X
 bg:base<=g
theorem DV.z{w e:World}{a X g n:Nat}{v:Value}{d:List (List Int)}{c:List (Int×List Int)}(h:DV w a X g n v d c)(b:Below w.heap.size w e):DV e a X g n v d c :=⟨h.rx.z b,h.pr.z b,LR h.own b,h.nx,h.ng,h.xg,h.bx,h.bg⟩
theorem OwnS.hld{w:World}{a:Option Addr}{b:List (Int×List Int)}(h:OwnS w a (NQ b))(c:∀p∈b,p.2.length=64):Hld w a b:=by
 rcases h with h|⟨g,rfl,d⟩
 ·refine .inl (AB ?_)
  have:=BY List.length h;rw[td b c,AR]at this;omega
 exact d.hld c
theorem QB{ws:List (Int×ByteArray)}(h:∀x∈ws,x.2.size=64):∀p∈LJ ws,p.2.length=64:=λp a=>by
 obtain⟨x,b,rfl⟩:=DL.1 a;show(KU x.2).length=64;rw[ME,h x b]
def ak:List (Int×List Int)->List (List Int)->List (List Int)
 | [],ps=>ps
 | x::r,ps=>ak r (ps.set x.1.toNat x.2)
theorem XS(b:List (Int×ByteArray)):∀(a:List ByteArray),ak (LJ b) (a.map KU)=(xhE b a).map KU:=by
 induction b with
 | nil=>intro a;rfl
 | cons x r c =>
  intro a;have:=c (a.set x.1.toNat x.2);rw[JT]at this;exact this
theorem DV.lay{w b:World}{a X g n:Nat}{v:Value}{j c:List (List Int)}{f:List (Int×List Int)}(h:DV w a X g n v j f)(d:w.grownBy b (some g))(i:PR b g c):DV b a X g n v c f :=⟨h.rx.I d (λe=>h.xg (by injection e)),i,h.own.kept d (.inr h.ng),h.nx,h.ng,h.xg,h.bx,h.bg⟩
set_option maxRecDepth 100000 in
theorem bi(a X g n:Nat)(v:Value)(r:List (List Int))(c:List (Int×List Int))(w:World)(h:DV w a X g n v r c)(hn:r.length=n)(bH:n<=200)(hl:c.length<=300)(K:∀p∈c,p.2.length=64)(L:∀p∈c,0<=p.1/\p.1<(n:Int))(M:a<=w.heap.size):Calls prog 169 #[.pointer (some ⟨X,0,none⟩)] w λe b=>(∃x,e=.returned x)/\DV b a X g n (.slice none 0 0) (ak c r) []/\Below a w b:=by
 obtain⟨p,F⟩:∃p,Hid (p=ak c r):=⟨_,Z rfl⟩;rw[<-F.l]
 obtain⟨s,O,hv,bQ⟩:∃s O,v=.slice s c.length O/\(c=[]\/∃l,s=some ⟨l,0,none⟩/\v.ownBlock=some l):=by
  rcases MO h.own with ⟨e,i⟩|⟨l,d,e,u,y,o⟩
  ·exact⟨none,0,by rw[e,i],.inl (AB i)⟩
  exact⟨_,d,e,.inr ⟨l,rfl,by rw[e];rfl⟩⟩
 have b:=h.rx.y 1;rw[hv]at b;go_enter func169,ntmps169;go_wp2;have d:=Z h;have E:=Z K;have S:=Z L;clear h K L b;go_loopw [3,9] (λ_ i wr=>∃(k:Nat) (j:List (List Int)),k<=c.length/\i=.int .i64 k/\j.length=n/\Hid (ak (c.drop k) j=p)/\DV wr a X g n v j c/\Below a w wr) (λ_ i _=>c.length-(intOf i).toNat)
 case atStart=>exact⟨0,r,AO _,rfl,hn,by show _=_;rw[FJ,F.l],d.l,AC _ _⟩
 case round =>
  clear d;obtain⟨k,j,P,rfl,N,C,f,t⟩:=hrel
  by_cases z:k<c.length
  ·obtain⟨b,bG,m⟩:∃b,s=some ⟨b,0,none⟩/\Row wr b (NQ c):=by
    rcases MO f.own with ⟨e,i⟩|⟨l,d,e,u,y,o⟩
    ·omega
    rw[hv]at e
    injection e with q A B;exact⟨l,q,o⟩
   subst bG;obtain⟨U,o,q,x,d,bJ,A,D⟩:=(m.hld E.l).at (k:=k) z
   obtain⟨rfl,rfl⟩:b=U/\o=0:=by cases d;exact⟨rfl,rfl⟩
   clear d m;rw[BH]at A;have G:Hid ((q,x)∈c):=by show _∈_;rw[D.l];simp[List.getD,z]
   have B:x.length=64:=E.l (q,x) G.l
   obtain⟨m,rfl,hm⟩:∃m:Nat,q=(m:Int)/\m<n:=by
    have:=S.l (q,x) G.l;exact⟨q.toNat,by simp at this;omega,by simp at this;omega⟩
   have i:(Value.int .i64 (m:Int)::x.map (Value.int .u8)).length=65:=by simp[B]
   have u:Hid ((prog.info? 145).map (·.size)=some (Value.int .i64 (m:Int)::x.map (Value.int .u8)).length):=by rw[i];show _=_;kernel_rfl
   have W:=Z i.symm;have bT:=ix;have d:=Z f;clear i f
   go_wp2_with (first|(with_reducible refine YY 145 _ rfl ?_;refine AS rfl 145 _ rfl b (k*65) rfl (Value.int .i64 (m:Int)::x.map (Value.int .u8)) _ A underlying145 rfl u.l ?_)|(with_reducible refine YY 145 _ rfl ?_;refine AS rfl 145 _ rfl wr.heap.size 0 rfl (Value.int .i64 (m:Int)::x.map (Value.int .u8)) _ I.range underlying145 rfl u.l ?_)|(with_reducible refine XC 145 _ _ rfl ?_;refine dp rfl 145 _ _ rfl (Value.int .i64 (m:Int)::x.map (Value.int .u8)) (iq (m:Int) x) rfl rfl _ _ (by rw[<-W.l];kernel_rfl) u.l ?_;intro wx I i bI)|(go_at_call 140;refine(vL X g n n (.slice none 0 0) j m x 64 _ ((d.l.z i).rx.y 0) d.l.xg (d.l.z i).pr N hm bH (Y _) B (Y _)).A ?_;rintro e w4 ⟨rfl,H,y⟩))
   have R:=Z ((d.l.z i).lay y H);have Q:=Z ((t.j (i.A (AL M t.size))).j (MR y (AL M (AL t.size i.size)) (λk P=>by cases P;exact d.l.bg)))
   have T:Hid (ak (c.drop (k+1)) (j.set m (TG 64 x (j.getD m [])))=p):=by
    show _=_;rw[WT x _ B (cj d.l.pr.len ω),<-C.l,de c k (0,[]) z,<-D.l,ak,BM]
   clear y H i I A bI;go_wp2;go_roundw
   case rel=>exact⟨k+1,_,ω,ν,by simp[N],T,R.l,Q.l⟩
   case measure=>simp[intOf];omega
  have i:Hid (j=p):=by
   have:=C.l;rw[EI ω]at this;exact this
  rw[i.l]at f;have d:=Z f;have b:=f.rx.y 1;have m:=f.rx.E 1;clear f;go_wp2;go_end0;refine⟨⟨_,rfl⟩,⟨d.l.rx.set 1 σ _,d.l.pr.other _ d.l.xg _,CE _ _ _ _,by simp[Value.ownBlock],by simp[Value.ownBlock],d.l.xg,d.l.bx,d.l.bg⟩,t.setCell d.l.bx _⟩
set_option maxRecDepth 100000 in
theorem UX(a X g n:Nat)(v:Value)(b:List ByteArray)(c:List (Int×ByteArray))(r:Int)(d:ByteArray)(w:World)(h:DV w a X g n v (b.map KU) (LJ c))(l:b.length=n)(s:LG b c=true)(j:a<=w.heap.size):Calls prog 139 #[.pointer (some ⟨X,0,none⟩),.agg #[.bool true,.int .i64 r,.string d]] w λe f=>(∃x,e=.returned x)/\DV f a X g n (.slice none 0 0) ((xhE c b).map KU) []/\Below a w f:=by
 obtain⟨⟨u,y,z⟩,t,m⟩:=PA s
 have f:∀o,Below w.heap.size w (w.alloc o):=λo=>KW _ _
 have q:=Z (λ(o:Obj)=>bi a X g n v (b.map KU) (LJ c) (w.alloc o) (h.z (f o)) (by simp[l]) ω (by rw[QH];omega) (QB (λx i=>by have:=(PH (m x i)).2;omega)) (λp k=>by
  obtain⟨x,i,rfl⟩:=DL.1 k;have:=(PH (m x i)).1;rw[l]at this
  exact this) (AL j (f o).size))
 go_enter func139,ntmps139;go_wp2_with (go_at_call 169;refine(q.l _).A ?_;rintro e A ⟨⟨x,rfl⟩,k,p⟩);go_end0;rw[XS]at k;exact⟨⟨_,rfl⟩,k,((f _).A j).j p⟩
set_option maxRecDepth 100000 in
theorem UM(f X g n:Nat)(v:Value)(i:List ByteArray)(l:List (Int×ByteArray))(k:Int)(d:ByteArray)(w:World)(h:DV w f X g n v (i.map KU) (LJ l))(y:i.length=n)(s:LG i l=true)(u:d.size<=1048576)(r:OP i.length (k,d)=false\/¬l.length<300)(q:f<=w.heap.size):Calls prog 139 #[.pointer (some ⟨X,0,none⟩),.agg #[.bool false,.int .i64 k,.string d]] w λe j=>(∃x,e=.returned x)/\DV j f X g n v (i.map KU) (LJ l)/\Below f w j:=by
 obtain⟨⟨A,B,C⟩,x,F⟩:=PA s
 have m:∀o,Below w.heap.size w (w.alloc o):=λo=>KW _ _
 obtain⟨D,E,rfl⟩:∃a c,v=.slice a l.length c:=by
  rw[<-QH];rcases MO h.own with ⟨e,a⟩|⟨g,c,e,_⟩
  ·exact⟨_,_,by rw[e,a]⟩
  exact⟨_,_,e⟩
 have G:=h.rx.y 0;have H:=h.rx.y 1;have z:=h.rx.lt;have o:=Z h;subst y
 have p:∀b,OP i.length (k,d)=b->∀j,Calls prog 90 #[.int .i64 (i.length:Int),.int .i64 k,.string d] j λe a=>e=.returned (.bool b)/\a=j:=λb t j=>by
  have:=mh i.length k d j u ω;rw[t]at this;exact this
 cases hc:OP i.length (k,d) with
 | false =>
  go_enter func139,ntmps139;go_wp2_with fail;go_quiet ((go_at_call 90;exact Calls.quiet_of_same (p false hc _)));go_wp2;go_end0;exact⟨⟨_,rfl⟩,o.l.z (below_drewN (m _) _),(below_drewN (m _) _).A q⟩
 | true =>
  have b:(decide ((l.length:Int)<300))=false:=by
   rcases r with a|a
   ·rw[hc]at a;cases a
   exact AJ ω
  go_enter func139,ntmps139;go_wp2_with fail;go_quiet ((go_at_call 90;exact Calls.quiet_of_same (p true hc _)));go_wp2;go_end0;exact⟨⟨_,rfl⟩,o.l.z (below_drewN (m _) _),(below_drewN (m _) _).A q⟩
section
def NN(zs:List Int):Nat->List (Int×List Int)->List (List Int)->List (List Int)
 | _,[],ps=>ps
 | i,x::r,ps=>NN zs (i+1) r (ps.set x.1.toNat (TG (fate zs i) x.2 (ps.getD x.1.toNat [])))
theorem LP(zs:List Int):∀(hs:List (Int×List Int)) (i:Nat) (ps:List (List Int)),(NN zs i hs ps).length=ps.length
 | [],_,_=>rfl
 | x::r,i,ps=>by rw[NN,LP zs r];simp
structure PLs(W w:World)(R X g:Nat)(xs:List Value)(a2:Option Addr)(hs:List (Int×List Int))(ps:List (List Int)):Prop where
 bel:Below W.heap.size W w
 rr:Row w R [.slice none 0 0,.slice none 0 0]
 rx:Row w X xs
 pr:PR w g ps
 own:OwnS w a2 (NQ hs)
section
variable {W w w':World} {R X g:Nat} {xs:List Value} {a2:Option Addr} {hs:List (Int×List Int)} {ps ps':List (List Int)}
theorem PLs.z(h:PLs W w R X g xs a2 hs ps)(a:Below w.heap.size w w'):PLs W w' R X g xs a2 hs ps :=⟨h.bel.j (a.A h.bel.size),h.rr.z a,h.rx.z a,h.pr.z a,h.own.z a⟩
theorem PLs.drew(h:PLs W w R X g xs a2 hs ps):PLs W w.drew R X g xs a2 hs ps:=h.z ((AC _ _).drew)
theorem PLs.I(h:PLs W w R X g xs a2 hs ps)(a:w.grownBy w' (some g))(n:PR w' g ps')(d:W.heap.size<=g)(f:R≠g)(i:X≠g)(j:∀b,a2=some ⟨b,0,none⟩->NQ hs≠[]->b≠g):PLs W w' R X g xs a2 hs ps' :=⟨h.bel.j (MR a h.bel.size (λk m=>by cases m;exact d)),h.rr.I a (λe=>f (by injection e)),h.rx.I a (λe=>i (by injection e)),n,h.own.I a (λb l c e=>j b l c (by injection e))⟩
end
set_option maxRecDepth 100000 in
theorem uo(a:Option Addr)(d:List ByteArray)(c:Nat)(A:Option Addr)(j:List (Int×ByteArray))(L:Nat)(f:Option Addr)(q:List Int)(cf:Nat)(w:World)(h:Strs w a d)(h':Wrs w A j)(hz:Ints w f q)(eB:q.length<=1048576)(cS:LG d j=true):Calls prog 103 #[LE a d.length c A j.length L,.slice f q.length cf] w λe G=>∃z M B I,e=.returned (LE z d.length M B 0 I)/\OwnD G z (ND (NN q 0 (LJ j) (d.map KU))) B []/\(∀g,blk z d.length=some g->w.heap.size<=g)/\Below w.heap.size w G:=by
 obtain⟨⟨eQ,W,eC⟩,cF,p⟩:=PA cS
 have S:∀b i,Below w.heap.size w ((w.alloc b).alloc i):=λb i=>(KW _ _).alloc σ _
 obtain⟨t,aJ⟩:∃t,Hid (t=NN q 0 (LJ j) (d.map KU)):=⟨_,Z rfl⟩;rw[<-aJ.l];go_enter func103,ntmps103;go_wp2_with fail;refine(WD a d c A j L _ (h.z (S _ _)) (h'.z (S _ _)) ω ω (λs l=>by have:=cF s l;omega) (λx b=>by have:=AU (p x b);omega)).A ?_;rw[cS];rintro e w1 ⟨rfl,k⟩;have o:=(S _ _).j (k.A τ);obtain⟨F,r⟩:=ox k;have m:=(OI (w.alloc (.cells #[.slice a d.length c,.slice A j.length L] 26)) #[.slice none 0 0,.slice none 0 0] 26 (w.heap.size+1) σ).z k;have n:=Z m;have i:=Z o;clear m k o;go_wp2_with fail;refine(gq a d c A j L _ (h.z i.l) (h'.z i.l) W eC (λs l=>by have:=cF s l;omega) (λx b=>by have:=AU (p x b);omega)).A ?_;rintro e l ⟨g,v,rfl,H,s,N,m⟩;clear F r;have o:=Z (n.l.z m);have R:Hid (w.heap.size+1+1<=g):=by have:=n.l.lt;show _<=_;omega
 have u:=Z (Below.then i.l (Y _) m)
 obtain⟨r,D,hv,F,C⟩:∃r D,v=.slice r j.length D/\OwnS l r (NQ (LJ j))/\∀E,r=some ⟨E,0,none⟩->j≠[]->E≠g/\E<l.heap.size:=by
  rcases MO s with ⟨e,K⟩|⟨E,k,e,h1,O,P⟩
  ·have:j=[]:=AB K
   subst this;exact⟨none,0,e,.inl rfl,λ_ _ y=>absurd rfl y⟩
  exact⟨_,k,e,.inr ⟨E,rfl,P⟩,λQ y _=>by cases y;exact⟨ω,O⟩⟩
 subst hv;have k:=Z H;have y:=Z F;clear H s F m i n;go_wp2
 have i:∀x∈j,x.2.size=64:=λx b=>by have:=AU (p x b);omega
 have aI:=Z (QB i)
 have bU:∀b,r=some ⟨b,0,none⟩->NQ (LJ j)≠[]->b≠g:=λb m n=>(C b m (λe=>n (by rw[e];rfl))).1
 have eN:g<l.heap.size:=k.l.lt;have dN:w.heap.size+1≠g:=by have:=R.l;omega
 have eJ:w.heap.size<=g:=by have:=R.l;omega
 have n:PLs w (l.alloc (.cells #[.slice (some ⟨g,0,none⟩) d.length d.length,.slice r j.length D] 103)) (w.heap.size+1) l.heap.size g [.slice (some ⟨g,0,none⟩) d.length d.length,.slice r j.length D] r (LJ j) (d.map KU) :=⟨Below.then u.l (Y _) (MF _ _),o.l.alloc _,LU _ _ _,k.l.z (MF _ _),y.l.z (MF _ _)⟩
 have m:=Z n;have HW:=Z p;clear n k y u o C p i;go_loopw [6,7,17] (λ_ _ i wr=>∃(k:Nat) (s:List (List Int)),k<=j.length/\i=.int .i64 k/\s.length=d.length/\Hid (NN q k ((LJ j).drop k) s=t)/\PLs w wr (w.heap.size+1) l.heap.size g [.slice (some ⟨g,0,none⟩) d.length d.length,.slice r j.length D] r (LJ j) s) (λ_ _ i _=>j.length-(intOf i).toNat)
 case atStart=>exact⟨0,_,AO _,rfl,σ,by show _=_;rw[FJ,aJ.l],m.l⟩
 case round =>
  clear m;obtain⟨k,s,hk,rfl,X,P,n⟩:=hrel;have cV:t.length=d.length:=by rw[<-P.l,LP,X]
  by_cases U:k<j.length
  ·obtain⟨b,o,H,x,rfl,eP,K,HX⟩:=(n.own.hld aI.l).at (k:=k) (by rw[QH];exact U)
   have aP:Hid ((H,x)∈LJ j):=by show _∈_;rw[HX.l];simp[List.getD,QH,U]
   have cY:x.length=64:=aI.l (H,x) aP.l
   obtain⟨m,rfl,hm⟩:∃m:Nat,H=(m:Int)/\m<d.length:=by
    obtain⟨y,p,e⟩:=DL.1 aP.l;have C:=AU (HW.l y p);have u:y.1=H:=by rw[EG]at e;exact e.1
    exact⟨H.toNat,ω,ω⟩
   have p:(Value.int .i64 (m:Int)::x.map (Value.int .u8)).length=65:=by simp[cY]
   have Q:Hid ((prog.info? 145).map (·.size)=some (Value.int .i64 (m:Int)::x.map (Value.int .u8)).length):=by rw[p];show _=_;kernel_rfl
   have dM:=Z p.symm;have eU:=ix;have y:=Z n;clear p n
   go_wp2_with (first|(with_reducible refine YY 145 _ rfl ?_;refine AS rfl 145 _ rfl b (o+k*65) rfl (Value.int .i64 (m:Int)::x.map (Value.int .u8)) _ K underlying145 rfl Q.l ?_)|(with_reducible refine XC 145 _ _ rfl ?_;refine dp rfl 145 _ _ rfl (Value.int .i64 (m:Int)::x.map (Value.int .u8)) (iq (m:Int) x) rfl rfl _ _ (by rw[<-dM.l];kernel_rfl) Q.l ?_;intro wx p C eI))
   have u:=Z (y.l.z C);have T:=p.range;have aK:=Z p;have dZ:wr.heap.size≠g:=by have:=y.l.pr.lt;omega
   have cJ:=zh q k;obtain⟨F,O⟩:∃F,Hid (F=fate q k):=⟨_,Z rfl⟩;rw[<-O.l]at cJ;have eK:=Z (((hz.z u.l.bel)));clear p K C eI T;refine AN (S:=λG=>G.rangeAt wr.heap.size 0 (Value.int .i64 (m:Int)::x.map (Value.int .u8))) κ aK.l.drew.range (λC=>?_);refine TK 0 (.agg (Value.int .i64 (m:Int)::x.map (Value.int .u8)).toArray) rfl (yieldsIf_load_mid ρ _ _ rfl wr.heap.size 0 rfl (Value.int .i64 (m:Int)::x.map (Value.int .u8)) _ (λw p=>p) underlying145 rfl Q.l) C ?_;simp only[Act.put,BT];refine TK 1 (.slice f q.length cf) rfl (BW ⟨ρ,λw p=>γ⟩) C ?_;simp only[Act.put];refine TK 2 (.int .i64 (k:Int)) rfl (BW ⟨ρ,λw p=>γ⟩) C ?_;simp only[Act.put];refine RD 3 rfl (λK G=>?_);refine LC ρ _ _ γ (H4 f q cf k _ (hz.z u.l.drew.bel) eB ω) ?_
   rw[<-O.l];rintro e w3 ⟨rfl,rfl⟩;refine⟨_,rfl,?_⟩;refine G.l _ _ C (λ_=>?_);clear G K;simp only[Act.put];refine RD 4 rfl (λK G=>?_);refine LC ρ _ _ γ (vL l.heap.size g d.length d.length (.slice none 0 0) s m x F _ (u.l.drew.rx.y 0) ω u.l.drew.pr X hm W (Y _) cY cJ) ?_;rintro e w4 ⟨rfl,aR,T⟩;refine⟨_,rfl,?_⟩;refine G.l _ _ (aK.l.drew.I T (λe=>dZ (by injection e))).range (λ_=>?_);clear G K;simp only[Act.put];refine DN ?_;have G:=u.l.drew.I T aR eJ dN ω bU;have K:=Z G
   have dH:Hid (NN q (k+1) ((LJ j).drop (k+1)) (s.set m (TG F x (s.getD m [])))=t):=by
    show _=_;rw[<-P.l,de (LJ j) k (0,[]) (by rw[QH];exact U),<-HX.l,NN,BM,O.l]
   clear G aR T C;go_wp2;go_roundw
   case rel=>exact⟨k+1,_,ω,ν,by simp[X],dH,K.l⟩
   case measure=>simp[intOf];omega
  have Q:Hid (s=t):=by
   have:=P.l;rw[EI (by rw[QH];omega)]at this;exact this
  rw[Q.l]at n;have y:=Z n;have q0:=n.rx.y 0;have F:=n.rx.y 1;have f1:=n.rx.E 1;clear n;go_wp2_with fail;have dQ:l.heap.size≠g:=ω
  have eO:w.heap.size+1<l.heap.size:=by have:=R.l;omega
  have n:=y.l.pr.other ⟨l.heap.size,1,none⟩ dQ (.slice none 0 0);have o:=y.l.rr.other ⟨l.heap.size,1,none⟩ (by show l.heap.size≠w.heap.size+1;omega) (.slice none 0 0);have C:=y.l.bel.setCell (p:=⟨l.heap.size,1,none⟩) (by show w.heap.size<=l.heap.size;omega) (.slice none 0 0);refine(nh (some ⟨g,0,none⟩) t d.length d.length none [] 0 0 cV rfl _ n.plt (.inl rfl) W ω n.len (λp hp=>by simp at hp)).A ?_;rintro e w5 ⟨z,M,B,I,rfl,K,H,dV,u⟩;have m:=o.z u;have r0:=m.y 0;have r1:=m.y 1;obtain⟨eL,eM⟩:=m.z2;have T:=Z (Below.then C (Y _) u);have dR:=C.size;have dL:=Z K
  have G:Hid (∀g,blk z d.length=some g->w.heap.size+1<g):=λg N=>by
   have h1:=H g N;have O:=o.lt;omega
  clear K H dV u m n o C q0 F f1 dR;go_wp2;have O:(ND t).length=d.length:=by simp[ND,cV]
  refine AI (v:=LE z d.length M B 0 I) (by simp[results,results103,go_sem,r0,r1]) rfl ⟨z,M,B,I,rfl,⟨?_,.inl rfl,.inr (.inl rfl)⟩,λg N=>by have:=G.l g N;omega,?_⟩
  ·have C:∀(o:World) (u:Value) (i:Nat),OwnS o z ((ND t).map Value.string)->OwnS (o.setCell ⟨w.heap.size+1,i,none⟩ u) z ((ND t).map Value.string):=λo u i n=>by
    rcases n with n|⟨m,F,H⟩
    ·exact .inl n
    refine .inr ⟨m,F,H.other _ (λe=>?_) _⟩
    have:=G.l m (by rw[F];exact MS m 0 _ ω);have K:w.heap.size+1=m:=e;omega
   exact C _ _ _ (C _ _ _ dL.l.s)
  exact(T.l.setCell (by show w.heap.size<=w.heap.size+1;omega) _).setCell (by show w.heap.size<=w.heap.size+1;omega) _
end
section
theorem OO(p:ByteArray)(i j:Nat)(h:i<=j):KU (p.extract i j)=((KU p).take j).drop i:=by
 unfold KU;rw[EL,JN];simp[KH,ID,List.take_drop,Nat.add_sub_cancel' h]
theorem UZ(F:Nat)(d t:ByteArray)(hF:F<=64)(a:d.size=64)(b:t.size=64):KU (d.extract 0 F++t.extract F 64)=TG F (KU d) (KU t):=by
 rw[rh,OO _ _ _ (AO _),OO _ _ _ hF,TG,FJ];rw[AV (l:=KU t) (by rw[ME];omega)]
theorem VD(F:Nat)(d t:ByteArray)(hF:F<=64)(a:d.size=64)(b:t.size=64):(d.extract 0 F++t.extract F 64).size=64:=by
 rw[BK,AK,AK];omega
structure PTs(W w:World)(R X g g' n n' c1 c1':Nat)(ws:List (Int×ByteArray))(ts:List ByteArray):Prop where
 bel:Below W.heap.size W w
 rr:Row w R [.slice none 0 0,.slice none 0 0]
 rx:Row w X [.slice (some ⟨g,0,none⟩) n c1,.slice (some ⟨g',0,none⟩) n' c1']
 rs:Row w g (ts.map Value.string)
 own:OwnS w (some ⟨g',0,none⟩) (MH ws)
section
variable {W w w':World} {R X g g' n n' c1 c1':Nat} {ws:List (Int×ByteArray)} {ts:List ByteArray}
theorem PTs.z(h:PTs W w R X g g' n n' c1 c1' ws ts)(a:Below w.heap.size w w'):PTs W w' R X g g' n n' c1 c1' ws ts :=⟨h.bel.j (a.A h.bel.size),h.rr.z a,h.rx.z a,h.rs.z a,h.own.z a⟩
theorem PTs.drew(h:PTs W w R X g g' n n' c1 c1' ws ts):PTs W w.drew R X g g' n n' c1 c1' ws ts:=h.z ((AC _ _).drew)
theorem PTs.set(h:PTs W w R X g g' n n' c1 c1' ws ts)(m:Nat)(k:m<ts.length)(s:ByteArray)(d:W.heap.size<=g)(f:R≠g)(i:X≠g)(j:MH ws≠[]->g'≠g):PTs W (w.setCell ⟨g,m,none⟩ (.string s)) R X g g' n n' c1 c1' ws (ts.set m s):=by
 refine⟨h.bel.setCell d _,h.rr.other _ (λe=>f e.symm) _,h.rx.other _ (λe=>i e.symm) _,?_,?_⟩
 ·rw[JT];exact h.rs.set m (by simpa using k) _
 rcases h.own with l|⟨b,e,o⟩
 ·exact .inl l
 injection e with e;injection e with e
 by_cases a:MH ws=[]
 ·exact .inl a
 exact .inr ⟨g',rfl,(e ▸ o).other _ (λc=>j a c.symm) _⟩
end
set_option maxRecDepth 100000 in
theorem uq(a:Option Addr)(l:List ByteArray)(c:Nat)(G:Option Addr)(j:List (Int×ByteArray))(O:Nat)(f:Option Addr)(p:List Int)(cf:Nat)(w:World)(h:Strs w a l)(h':Wrs w G j)(hz:Ints w f p)(eV:p.length<=1048576)(cQ:LG l j=true):Calls prog 156 #[LE a l.length c G j.length O,.slice f p.length cf] w λe D=>∃b v d u,e=.returned (LE b l.length v d 0 u)/\OwnD D b (ND (NN p 0 (LJ j) (l.map KU))) d []/\(∀g,blk b l.length=some g->w.heap.size<=g)/\Below w.heap.size w D:=by
 obtain⟨⟨eX,eG,eH⟩,o,t⟩:=PA cQ
 have U:∀b d,Below w.heap.size w ((w.alloc b).alloc d):=λb d=>(KW _ _).alloc σ _
 obtain⟨H,aG⟩:∃H,Hid (H=NN p 0 (LJ j) (l.map KU)):=⟨_,Z rfl⟩;rw[<-aG.l];go_enter func156,ntmps156;go_wp2_with fail;refine(WW a l c G j O _ (h.z (U _ _)) (h'.z (U _ _)) ω ω (λs C=>by have:=o s C;omega) (λx b=>by have:=AU (t x b);omega)).A ?_;rw[cQ];rintro e w1 ⟨rfl,b⟩;have i:=(U _ _).j (b.A τ);obtain⟨x,q⟩:=ox b;have k:=(OI (w.alloc (.cells #[.slice a l.length c,.slice G j.length O] 26)) #[.slice none 0 0,.slice none 0 0] 26 (w.heap.size+1) σ).z b;have n:=Z k;have d:=Z i;clear k b i;go_wp2_with fail;refine(ub a l c G j O _ (h.z d.l) (h'.z d.l) eG eH).A ?_;rintro e r ⟨g,v,I,u,rfl,m,z,B,k⟩;clear x q;go_wp2;have L:l.length≠0:=ω
 have x:w1.heap.size<=g:=z g (by unfold blk;rw[AG L];rfl);have A:=n.l.lt
 have q:Row r g (l.map Value.string):=by
  rcases m.s with e|⟨b,e,i⟩
  ·exact absurd (BY List.length e) (by rw[BP,AR];omega)
  cases e;exact i
 have eQ:=q.lt
 have y:MH j≠[]->I≠g:=λi=>by
  have b:j.length≠0:=λe=>i (by rw[AB e];rfl)
  rcases m.ne with e|e|e
  ·unfold blk at e;rw[AG L]at e;exact absurd e σ
  ·unfold blk at e;rw[AG b]at e;exact absurd e σ
  unfold blk at e;rw[AG L,AG b]at e;exactλi=>e (by rw[i])
 have i:PTs w (r.alloc (.cells #[.slice (some ⟨g,0,none⟩) l.length v,.slice (some ⟨I,0,none⟩) j.length u] 26)) (w.heap.size+1) r.heap.size g I l.length j.length v u j l :=⟨Below.then (Below.then d.l (Y _) k) (Y _) (MF _ _),(n.l.z k).alloc _,LU _ _ _,q.alloc _,m.p.z (MF _ _)⟩
 have b:=Z i;have HW:=Z t;have cT:=Z o;have cY:=Z y;have cS:w.heap.size<=g:=AL d.l.size x;have T:w.heap.size+1≠g:=ω
 have cH:r.heap.size≠g:=ω
 have eM:w.heap.size+1<r.heap.size:=by have:=k.size;omega
 clear i m z B k q y t o n d x A;go_loopw [6,7,8] (λi _ _ wr=>∃(k:Nat) (q:List ByteArray),k<=j.length/\i=.int .i64 k/\q.length=l.length/\Hid (∀s∈q,s.size=64)/\Hid (NN p k ((LJ j).drop k) (q.map KU)=H)/\PTs w wr (w.heap.size+1) r.heap.size g I l.length j.length v u j q) (λi _ _ _=>j.length-(intOf i).toNat)
 case atStart=>exact⟨0,l,AO _,rfl,rfl,Z (λs C=>by have:=cT.l s C;omega),by show _=_;rw[FJ,aG.l],b.l⟩
 case round =>
  clear b;obtain⟨k,q,P,rfl,y,aH,X,i⟩:=hrel
  by_cases N:k<j.length
  ·obtain⟨b,o,Q,d,m,cI,cJ,HX⟩:=i.own.wrs.at N
   obtain⟨rfl,rfl⟩:I=b/\o=0:=by cases m;exact⟨rfl,rfl⟩
   rw[BH]at cI cJ;clear m;have x:(Q,d)∈j:=by rw[HX.l];simp[List.getD,N]
   have n:=AU (HW.l (Q,d) x);obtain⟨m,rfl,B⟩:∃m:Nat,Q=(m:Int)/\m<l.length:=⟨Q.toNat,by have:=n.1;omega,by have:=n.2.1;have:=n.1;simp at *;omega⟩;have aL:d.size=64:=by have:=n.2.2;simp at this;omega
   have cL:=i.rs.cell m (.string (q.getD m empty)) (by simp[List.getD,y,B]);have R:(q.getD m empty).size=64:=aH.l _ (by simp[List.getD,y,B]);have dU:=i.rs.froz m (by simp[y,B]);obtain⟨t,S⟩:∃t,Hid (t=q.getD m empty):=⟨_,Z rfl⟩;rw[<-S.l]at cL R;have x0:=i.rx.y 0;have x1:=i.rx.y 1;have eF:=i.rx.lt;have eU:=i.rs.lt;have aM:=zh p k;have M:=Z i;have HZ:=Z (hz.z i.bel);clear i x n;obtain⟨F,hF⟩:∃F:Nat,F=fate p k:=⟨_,rfl⟩;have dM:F<=64:=by rw[hF];exact zh p k
   obtain⟨A,W⟩:∃A:Int,A=if k<p.length then p.getD k 0 else 0:=⟨_,rfl⟩;obtain⟨E,K⟩:∃E:Int,E=if A<0 then 0 else A:=⟨_,rfl⟩
   have cF:(F:Int)=if 64<E then 64 else E:=by
    rw[hF,K,W];unfold fate
    by_cases x:k<p.length
    ·rw[AF x,AF x]
     by_cases n:p.getD k 0<0
     ·rw[AF n,AF n];rfl
     rw[AG n,AG n]
     by_cases z:64<p.getD k 0
     ·rw[AF z,AF z];rfl
     rw[AG z,AG z];omega
    rw[AG x,AG x];rfl
   have HF:=Z hF.symm;have cA:=Z W;have dH:=Z K;have cV:=Z cF;clear hF W K cF aM;go_upto_if 25 with fail;go_cut [7] from 22 to 29 (λn x=>n=.int .i64 A/\wr=x)
   case first =>
    by_cases K:k<p.length
    ·have e:=cA.l
     rw[AF K]at e;obtain⟨bz,oz,z,rfl,eN,eO,W⟩:=HZ.l.at K;obtain rfl:A=z:=by rw[e];exact W.l.symm
     clear e;have eI:(k:Int)<(p.length:Int):=ω
     have eY:¬((p.length:Int)<=(k:Int)):=ω
     go_wp2_with fail;go_meet;exact⟨rfl,rfl⟩
    have e:=cA.l
    rw[AG K]at e;subst e;have eI:¬((k:Int)<(p.length:Int)):=ω
    go_wp2_with fail;go_meet;exact⟨rfl,rfl⟩
   case rest =>
   obtain⟨rfl,rfl⟩:=hcut;go_upto_if 31 with fail;go_cut [7] from 30 to 31 (λn x=>n=.int .i64 E/\wr=x)
   case first =>
    have e:=dH.l
    by_cases z:A<0
    ·rw[AF z]at e
     subst e;go_wp2_with fail;go_meet;exact⟨rfl,rfl⟩
    rw[AG z]at e
    subst e;go_wp2_with fail;go_meet;exact⟨rfl,rfl⟩
   case rest =>
   obtain⟨rfl,rfl⟩:=hcut;go_upto_if 33 with fail;go_cut [7] from 32 to 33 (λn x=>n=.int .i64 (F:Int)/\wr=x)
   case first =>
    have e:=cV.l
    by_cases n:64<E
    ·rw[AF n]at e
     obtain rfl:F=64:=ω
     go_wp2_with fail;go_meet;exact⟨rfl,rfl⟩
    rw[AG n]at e
    subst e;go_wp2_with fail;go_meet;exact⟨rfl,rfl⟩
   case rest =>
   obtain⟨rfl,rfl⟩:=hcut;go_wp2_with fail;have n:=M.l.z (MF wr (.cells #[.int .i64 (m:Int),.string d] 134));have z:=Cx.new wr (.int .i64 (m:Int)) (.string d) 134;obtain⟨W,x⟩:∃W,W=wr.alloc (.cells #[.int .i64 (m:Int),.string d] 134):=⟨_,rfl⟩;rw[<-x]at n z⊢;have eT:wr.heap.size<W.heap.size:=by rw[x];simp
   have eP:g≠wr.heap.size:=ω
   have K:=n.rs.cell m (.string t) (by rw[S.l];simp[List.getD,y,B]);have aN:=n.rs.froz m (by simp[y,B]);have HQ:=Z n;have HY:=Z z;have bZ:=Z K;have cU:=Z aN;clear n z K aN cL dU x0 x1 cI cJ x;refine AN (S:=λD=>D.cell? ⟨r.heap.size,0,none⟩=some (.slice (some ⟨g,0,none⟩) l.length v)/\D.cell? ⟨wr.heap.size,0,none⟩=some (.int .i64 (m:Int))/\D.cell? ⟨wr.heap.size,1,none⟩=some (.string d)) κ ⟨HQ.l.rx.y 0,HY.l.c0,HY.l.c1⟩ (λn=>?_);refine TZ 0 (.pointer (some ⟨r.heap.size,0,none⟩)) rfl n (TZ 1 (.slice (some ⟨g,0,none⟩) l.length v) rfl n (TZ 2 (.pointer (some ⟨wr.heap.size,0,none⟩)) rfl n (TZ 3 (.int .i64 (m:Int)) rfl n (TZ 4 (.pointer (some ⟨wr.heap.size,1,none⟩)) rfl n (TZ 5 (.string d) rfl n (TZ 6 (.int .i64 (F:Int)) rfl n (TZ 7 (.string (d.extract 0 F)) rfl n (TZ 8 (.pointer (some ⟨r.heap.size,0,none⟩)) rfl n (TZ 9 (.slice (some ⟨g,0,none⟩) l.length v) rfl n (TZ 10 (.pointer (some ⟨wr.heap.size,0,none⟩)) rfl n (TZ 11 (.int .i64 (m:Int)) rfl n ?_)))))))))))
   simp only[J];refine TZ 12 (.pointer (some ⟨g,m,none⟩)) rfl n (TZ 14 (.int .i64 (F:Int)) rfl n ?_);simp only[J];refine RD 13 rfl (λK x=>?_);have z:=bZ.l;go_simp;clear z;refine x.l _ _ n (λ_=>?_);clear x K;refine TZ 15 (.string (t.extract F t.size)) rfl n (TZ 16 (.string (d.extract 0 F++t.extract F t.size)) rfl n (TZ 17 (.pointer (some ⟨g,m,none⟩)) rfl n ?_));simp only[J];refine RD 18 rfl (λK x=>?_);have z:=bZ.l;have D:=cU.l;go_simp;clear z D;refine x.l _ _ ⟨(AP _ _ _ _ (by show g≠r.heap.size;omega)).j n.1,(AP _ _ _ _ (by show g≠wr.heap.size;omega)).j n.2.1,(AP _ _ _ _ (by show g≠wr.heap.size;omega)).j n.2.2⟩ (λ_=>?_);clear x K;refine DN ?_;have z:d.extract 0 F++t.extract F 64=d.extract 0 F++t.extract F 64:=ρ
   have D:=HQ.l.drew.set m ω (d.extract 0 F++t.extract F 64) cS T cH cY.l;have K:=Z D
   have cW:Hid (NN p (k+1) ((LJ j).drop (k+1)) ((q.set m (d.extract 0 F++t.extract F 64)).map KU)=H):=by
    show _=_;rw[z];have dV:fate p k=F:=HF.l
    have x:(LJ j).drop k=((m:Int),KU d)::(LJ j).drop (k+1):=by
     rw[de (LJ j) k (0,[]) (by rw[QH];exact N)]
     have eB:(LJ j).getD k (0,[])=((m:Int),KU d):=by
      have e:=HX.l;simp[LJ,List.getD,N]at e⊢;rw[<-e];exact⟨rfl,rfl⟩
     rw[eB]
    rw[<-X.l,x,NN,BM,dV,JT,UZ F d t ω aL R]
    congr 2
    rw[S.l];simp[List.getD,y,B]
   have cZ:Hid (∀s∈q.set m (d.extract 0 F++t.extract F 64),s.size=64):=λs C=>by
    rw[z]at C;rcases EV C with x|x
    ·exact aH.l s x
    rw[x];exact VD F d t ω aL R
   clear D n z;go_wp2;go_roundw
   case rel=>exact⟨k+1,_,ω,ν,by simp[y],cZ,cW,K.l⟩
   case measure=>simp[intOf];omega
  have b:Hid (q=ND H):=by
   have:=X.l;rw[EI (by rw[QH];omega)]at this;show _=_;rw[<-this];show q=(q.map KU).map strOfNums;rw[GW];exact(JL (λs=>TI s) q).symm
  rw[b.l]at i;have M:=Z i;have A:=i.rx.y 0;have x:=i.rx.y 1;have z:=i.rx.E 1;have n:=i.rr.y 0;have o:=i.rr.y 1;obtain⟨s,t⟩:=i.rr.z2;have eF:=i.rx.lt;have d:=i.rr.lt;have m:r.heap.size≠w.heap.size+1:=ω
  clear i;go_wp2;have i:wr.heap.size≠w.heap.size+1:=ω
  refine AI (v:=LE (some ⟨g,0,none⟩) l.length v (some ⟨wr.heap.size,0,none⟩) 0 0) (by simp[results,results156,go_sem,n,o,m,i,d]) rfl ⟨_,_,_,_,rfl,⟨.inr ⟨g,rfl,?_⟩,.inl rfl,.inr (.inl rfl)⟩,λk P=>?_,?_⟩
  ·exact((((M.l.rs.other _ (by show r.heap.size≠g;exact cH) _).other _ (by show w.heap.size+1≠g;exact T) _).other _ (by show w.heap.size+1≠g;exact T) _)).alloc _
  ·unfold blk at P
   rw[AG L]at P
   cases P
   exact cS
  exact(((M.l.bel.setCell (by show w.heap.size<=r.heap.size;omega) _).setCell (by show w.heap.size<=w.heap.size+1;omega) _).setCell (by show w.heap.size<=w.heap.size+1;omega) _).alloc τ _
end
theorem XZ(a:Option Addr)(b:List ByteArray)(c:Nat)(f:Option Addr)(d:List (Int×ByteArray))(k:Nat)(v:Value)(w:World)(h:Strs w a b)(p:Wrs w f d)(q:b.length<=1048576)(m:d.length<=1048576)(r:∀s∈b,s.size<=1048576)(o:∀x∈d,x.2.size<=1048576)(n:LG b d=false):Calls prog 103 #[LE a b.length c f d.length k,v] w λe g=>e=.returned (LE none 0 0 none 0 0)/\Below w.heap.size w g:=by
 have i:∀g j,Below w.heap.size w ((w.alloc g).alloc j):=λg j=>(KW _ _).alloc σ _
 go_enter func103,ntmps103;go_wp2_with fail;refine(WD a b c f d k _ (h.z (i _ _)) (p.z (i _ _)) q m r o).A ?_;rw[n];rintro e y ⟨rfl,j⟩;have l:=Z ((i _ _).j (j.A τ));have g:=(OI (w.alloc (.cells #[.slice a b.length c,.slice f d.length k] 26)) #[.slice none 0 0,.slice none 0 0] 26 (w.heap.size+1) σ).z j;have s:=g.y 0;have t:=g.y 1;obtain⟨u,x⟩:=g.z2;clear g j;go_wp2;exact AI (v:=LE none 0 0 none 0 0) (by simp[results,results103,go_sem,s,t]) rfl ⟨rfl,(l.l.setCell (by show w.heap.size<=w.heap.size+1;omega) _).setCell (by show w.heap.size<=w.heap.size+1;omega) _⟩
theorem YA(a:Option Addr)(b:List ByteArray)(c:Nat)(f:Option Addr)(d:List (Int×ByteArray))(k:Nat)(v:Value)(w:World)(h:Strs w a b)(p:Wrs w f d)(q:b.length<=1048576)(m:d.length<=1048576)(r:∀s∈b,s.size<=1048576)(o:∀x∈d,x.2.size<=1048576)(n:LG b d=false):Calls prog 156 #[LE a b.length c f d.length k,v] w λe g=>e=.returned (LE none 0 0 none 0 0)/\Below w.heap.size w g:=by
 have i:∀g j,Below w.heap.size w ((w.alloc g).alloc j):=λg j=>(KW _ _).alloc σ _
 go_enter func156,ntmps156;go_wp2_with fail;refine(WW a b c f d k _ (h.z (i _ _)) (p.z (i _ _)) q m r o).A ?_;rw[n];rintro e y ⟨rfl,j⟩;have l:=Z ((i _ _).j (j.A τ));have g:=(OI (w.alloc (.cells #[.slice a b.length c,.slice f d.length k] 26)) #[.slice none 0 0,.slice none 0 0] 26 (w.heap.size+1) σ).z j;have s:=g.y 0;have t:=g.y 1;obtain⟨u,x⟩:=g.z2;clear g j;go_wp2;exact AI (v:=LE none 0 0 none 0 0) (by simp[results,results156,go_sem,s,t]) rfl ⟨rfl,(l.l.setCell (by show w.heap.size<=w.heap.size+1;omega) _).setCell (by show w.heap.size<=w.heap.size+1;omega) _⟩
def MC(c:List Int)(a:List ByteArray)(b:List (Int×ByteArray)):List ByteArray:=if LG a b=true then ND (NN c 0 (LJ b) (a.map KU)) else []
theorem WM(a:Option Addr)(b:List ByteArray)(c:Nat)(l:Option Addr)(d:List (Int×ByteArray))(q:Nat)(f:Option Addr)(i:List Int)(u:Nat)(w:World)(h:Strs w a b)(v:Wrs w l d)(E:Ints w f i)(z:i.length<=1048576)(B:b.length<=1048576)(y:d.length<=1048576)(D:∀s∈b,s.size<=1048576)(A:∀x∈d,x.2.size<=1048576):Calls prog 103 #[LE a b.length c l d.length q,.slice f i.length u] w λe o=>∃k r p j,e=.returned (LE k (MC i b d).length r p 0 j)/\OwnS o k ((MC i b d).map Value.string)/\(∀g,blk k (MC i b d).length=some g->w.heap.size<=g)/\Below w.heap.size w o:=by
 by_cases m:LG b d=true
 ·have n:MC i b d=ND (NN i 0 (LJ d) (b.map KU)):=by simp[MC,m]
  have x:(MC i b d).length=b.length:=by rw[n];simp[ND,LP]
  refine(uo a b c l d q f i u w h v E z m).A ?_;rintro e o ⟨k,r,p,j,rfl,C,t,s⟩;rw[x];exact⟨k,r,p,j,rfl,by rw[n];exact C.s,t,s⟩
 have n:MC i b d=[]:=by simp[MC,m]
 rw[n];refine(XZ a b c l d q _ w h v B y D A (by simpa using m)).A ?_;rintro e o ⟨rfl,s⟩;exact⟨none,0,none,0,rfl,.inl rfl,(λg t=>by cases t),s⟩
theorem WN(a:Option Addr)(b:List ByteArray)(c:Nat)(l:Option Addr)(d:List (Int×ByteArray))(q:Nat)(f:Option Addr)(i:List Int)(u:Nat)(w:World)(h:Strs w a b)(v:Wrs w l d)(E:Ints w f i)(z:i.length<=1048576)(B:b.length<=1048576)(y:d.length<=1048576)(D:∀s∈b,s.size<=1048576)(A:∀x∈d,x.2.size<=1048576):Calls prog 156 #[LE a b.length c l d.length q,.slice f i.length u] w λe o=>∃k r p j,e=.returned (LE k (MC i b d).length r p 0 j)/\OwnS o k ((MC i b d).map Value.string)/\(∀g,blk k (MC i b d).length=some g->w.heap.size<=g)/\Below w.heap.size w o:=by
 by_cases m:LG b d=true
 ·have n:MC i b d=ND (NN i 0 (LJ d) (b.map KU)):=by simp[MC,m]
  have x:(MC i b d).length=b.length:=by rw[n];simp[ND,LP]
  refine(uq a b c l d q f i u w h v E z m).A ?_;rintro e o ⟨k,r,p,j,rfl,C,t,s⟩;rw[x];exact⟨k,r,p,j,rfl,by rw[n];exact C.s,t,s⟩
 have n:MC i b d=[]:=by simp[MC,m]
 rw[n];refine(YA a b c l d q _ w h v B y D A (by simpa using m)).A ?_;rintro e o ⟨rfl,s⟩;exact⟨none,0,none,0,rfl,.inl rfl,(λg t=>by cases t),s⟩
theorem UW(W S L T H F R U O:Int)(a:Option Addr)(d:List Pr)(c:Nat)(w:World)(h:Prs w a d)(p:d.length<=1048576)(q:∀x∈d,x.1.size<=1048576/\x.2.size<=1048576):Calls prog 159 #[MM W S L T H F R U O a d.length c] w λx f=>TR w f x (PZ W S L T H F R U O d):=by
 have g:=Z (λf l=>kx W S L T H F R U O a d c f l p q);have m:=Z h;clear h;obtain⟨D,i⟩:∃D,Hid (D=PZ W S L T H F R U O d):=⟨_,Z rfl⟩;rw[<-i.l];unfold MM at g⊢;go_enter func159,ntmps159;go_upto_region 1 with fail;generalize b:w.alloc _=v;obtain⟨j,n,o⟩:=LF b;clear b;generalize b:v.alloc _=r;obtain⟨k,s,e⟩:=LF b;clear b;rw[n]at e;have b:StB w r (sJ W S L T H F R U O (.slice a d.length c)) (λ_=>True):=⟨j.j (k.A j.size),(o.z k).q,e.q,SK (λ_=>trivial)⟩;have t:w.heap.size+1<r.heap.size:=e.q.lt;clear j k o e n s;refine BG ?_;refine AS rfl 33 _ rfl w.heap.size 0 rfl _ _ b.r1.range underlying33 rfl PC ?_;simp only[J];go_wp2_with fail;refine(g.l _ (m.l.z b.e)).A ?_;rintro x B ⟨rfl,e⟩;replace b:=b.z e;clear e t g
 cases hok:NE W S L T H F R U O d with
 | false =>
  obtain rfl:D=LD 1:=by rw[i.l];unfold PZ;rw[AG (by rw[hok];simp)]
  go_upto_region 2 with fail;refine b.noR 1 _ _ rfl γ rfl rfl rfl rfl (λy e g=>?_)
  try simp only[J]
  clear b
  try go_wp2
  refine TP 2 results159 _ ?_ e ?_ g.l<;>rfl
 | true =>
  have e:=ni hok;have j:D=OH W S L T H F d:=by rw[i.l];unfold PZ;rw[AF hok]
  have g:=Z (λf l=>uI W S L T H F R U O a d c f l p q e);rw[<-j]at g;unfold MM at g;clear hok j e;go_upto_region 3 with fail;refine BG ?_;refine AS rfl 33 _ rfl w.heap.size 0 rfl _ _ b.r1.range underlying33 rfl PC ?_;simp only[J];go_wp2_with fail;refine(g.l _ (m.l.z b.e)).A ?_;rintro x z ⟨j,n,l,o,rfl,s,own,t,u,e⟩;have A:=b.r2.lt;replace b:=b.z e;clear e g;unfold MV
  try simp only[J]
  refine‹∀(a:Act) (w:World),wpList _ _ _ _ a w->_› _ _ ?_
  refine BI rfl 48 _ _ rfl (w.heap.size+1) 0 (dK D.C D.W D.S D.L D.T D.H D.F D.R D.U D.O (.slice j D.rs.length n) (.slice l D.ops.length o)) rfl rfl (b.r2.there rfl) TH κ ?_
  try simp only[J]
  obtain⟨e,f⟩:=b.fin D j n l o s own (λg k=>by have:=t g k;omega) (λg k=>by have:=u g k;omega);have g:=Z f;clear f;generalize f:z.setCells _ _ _=y at e g⊢;clear f b
  try go_wp2
  refine TP 2 results159 _ ?_ e ?_ g.l<;>rfl
theorem WJ(W S L T H F R U O:Int)(a:Option Addr)(d:List Pr)(c:Nat)(w:World)(h:Prs w a d)(l:d.length<=c)(m:d.length<=1048576)(p:∀x∈d,x.1.size<=1048576/\x.2.size<=1048576)(i:XN W S L T H F d):Calls prog 96 #[MM W S L T H F R U O a d.length c] w λx f=>∃j k b e,x=.returned (MV (OH W S L T H F d) j k b e)/\(OH W S L T H F d).ops.length<=e/\((j=a/\k=c/\(OH W S L T H F d).rs=d)\/(OH W S L T H F d).rs=[])/\OwnS f b (NJ (OH W S L T H F d).ops)/\(∀g,blk b (OH W S L T H F d).ops.length=some g->w.heap.size<=g)/\Below w.heap.size w f:=by
 have q:=i.1;unfold OH
 cases hfit:WB S T F with
 | false =>
  refine(xN W S L T H F R U O a d c w i (IX (by unfold WB at hfit;exact hfit))).A ?_;rintro x f ⟨rfl,j⟩;exact⟨_,_,_,_,rfl,Y _,.inr rfl,.inl rfl,(λg k=>by cases k),j⟩
 | true =>
  obtain⟨n,rfl⟩:∃n:Nat,W=(n:Int):=⟨W.toNat,ω⟩;refine(Gh S L T H F R U O n (56-n) a d c w h l m p ω ω ω i (AU (by unfold WB at hfit;exact hfit))).A ?_;rintro x f ⟨b,e,rfl,g,o,k,j⟩;exact⟨_,_,_,_,rfl,g,.inl ⟨rfl,rfl,rfl⟩,o,k,j⟩
theorem UV(W S L T H F R U O:Int)(a:Option Addr)(d:List Pr)(c:Nat)(w:World)(h:Prs w a d)(P:d.length<=c)(o:d.length<=1048576)(A:∀x∈d,x.1.size<=1048576/\x.2.size<=1048576):Calls prog 58 #[MM W S L T H F R U O a d.length c] w λx f=>ex w f x (PZ W S L T H F R U O d):=by
 have g:=Z (λf k=>kz W S L T H F R U O a d c f k P o A);have s:=Z h;clear h;obtain⟨D,l⟩:∃D,Hid (D=PZ W S L T H F R U O d):=⟨_,Z rfl⟩;rw[<-l.l];unfold MM at g⊢;go_enter func58,ntmps58;go_upto_region 1 with fail;generalize b:w.alloc _=Q;obtain⟨i,m,n⟩:=LF b;clear b;generalize b:Q.alloc _=C;obtain⟨j,p,e⟩:=LF b;clear b;rw[m]at e;have b:StB w C (sJ W S L T H F R U O (.slice a d.length c)) (λ_=>True):=⟨i.j (j.A i.size),(n.z j).q,e.q,SK (λ_=>trivial)⟩;have q:w.heap.size+1<C.heap.size:=e.q.lt;clear i j n e m p;refine BG ?_;refine AS rfl 33 _ rfl w.heap.size 0 rfl _ _ b.r1.range underlying33 rfl PC ?_;simp only[J];go_wp2_with fail;refine(g.l _ (s.l.z b.e)).A ?_;rintro x r ⟨rfl,e⟩;replace b:=b.z e;clear e q g
 cases hok:NE W S L T H F R U O d with
 | false =>
  obtain rfl:D=LD 1:=by rw[l.l];unfold PZ;rw[AG (by rw[hok];simp)]
  go_upto_region 2 with fail;refine b.noR 1 _ _ rfl γ rfl rfl rfl rfl (λy e g=>?_)
  try simp only[J]
  clear b
  try go_wp2
  refine VE 2 results58 _ ?_ e ?_ g.l<;>rfl
 | true =>
  have e:=ni hok;have g:D=OH W S L T H F d:=by rw[l.l];unfold PZ;rw[AF hok]
  have i:=Z (λj n f k m=>WJ W S L T H F R U O j d n f k m o A e);rw[<-g]at i;unfold MM at i;clear hok g e;have l3:=b.r2.lt;have e:=b.r1.y 9;have g:=b.r1.lt;go_wp2_with fail;clear e g;have g:=ZR a d c r (s.l.z b.e) o;unfold LQ at g;refine g.A ?_;rintro x X ⟨m,n,rfl,t,j,u,e⟩;unfold LQ;have f:=PD (lo:=r.heap.size) j RA u;replace b:=b.z e;clear e g j;have e:=b.r1.y 9;have j:=b.r1.E 9;have g:=b.r1.lt;go_upto_region 4 with fail;clear e j g;replace b:=b.set 9 σ (.slice m d.length n);replace f:=f.I (OG (BO X (some w.heap.size)) 9 (.slice m d.length n)) (λg e=>by cases e;omega);generalize e:World.setCell _ _ _=v6 at b f⊢;clear e;refine BG ?_;refine AS rfl 33 _ rfl w.heap.size 0 rfl _ _ b.r1.range underlying33 rfl PC ?_;simp only[J]
  go_wp2_with fail;refine(i.l m n _ f.q.prs t).A ?_;rintro x E ⟨j,q,p,B,rfl,K,M,v,z,e⟩;have l6:=b.r2.lt
  have I:=λg k=>ZW (g:=g) f.q k
  replace b:=b.z e;replace f:=f.z e;clear e i;unfold MV
  obtain⟨G,own,N⟩:D.rs.length<=q/\OwnDn E D.rs D.ops j p/\(∀g,blk j D.rs.length=some g->r.heap.size<=g):=by
   rcases M with ⟨rfl,rfl,e⟩|e
   ·rw[e]
    exact⟨t,⟨f.q,v,ZV I z⟩,u⟩
   rw[e]
   exact⟨AO _,⟨.inl rfl,v,.inl rfl⟩,λg k=>by cases k⟩
  try simp only[J]
  refine‹∀(a:Act) (w:World),wpList _ _ _ _ a w->_› _ _ ?_
  refine BI rfl 48 _ _ rfl (w.heap.size+1) 0 (dK D.C D.W D.S D.L D.T D.H D.F D.R D.U D.O (.slice j D.rs.length q) (.slice p D.ops.length B)) rfl rfl (b.r2.there rfl) TH κ ?_
  try simp only[J]
  obtain⟨e,i⟩:=b.fin D j q p B G own (λg k=>by have:=N g k;omega) (λg k=>by have:=z g k;omega);have g:=Z i;clear i;generalize i:E.setCells _ _ _=y at e g⊢;clear i b
  try go_wp2
  refine VE 2 results58 _ ?_ e ?_ g.l K<;>rfl
end
end Go.Proofs.YtjdmogljfdffeaaGreatDoor
namespace Go.Proofs.YtjdmogljfdffeaaGreatDoor.nw
open _root_.ByteArray(empty)
open _root_.Go.Proofs.Tryz
open Go.RowKit
theorem nw_i_yes(n d:Int)(w:World)(r:8<=n/\n<=200)(Q:1<=d/\d<=8):Calls prog 10 #[.int .i64 n,.int .i64 d] w λe a=>NwPost w a e d (newSS n) 1:=by
 have O:decide (1<=d/\d<=8)=true:=AM Q;have S:decide (8<=n/\n<=200)=true:=AM r;obtain⟨m,i⟩:∃m:Nat,(newSS n).length=m:=⟨_,rfl⟩;have T:m≠0:=by rw[<-i];unfold newSS;rw[AF r];simp;omega
 have cO:¬(m:Int)=0:=ω
 have f:=Z i;go_enter func10,ntmps10
 go_wp2_with (first|(go_at_call 44;refine(jj _ _).A ?_;rw[S];rintro e j ⟨rfl,b⟩;rw[b];clear b j)|(go_at_call 45;refine(RX _ _).A ?_;rw[O];rintro e j ⟨rfl,b⟩;rw[b];clear b j)|(go_at_call 46;refine(new_i_any n _).A ?_;rintro e s ⟨a,c,l,q,rfl,k,h,g⟩;rw[i]at h⊢;have p:=Z k;have o:=Z h;have L:=Z (((AC w.heap.size w).alloc (Y _) _).j (g.A σ));have R:=(LU w _ _).z g;obtain⟨A,B,C,D,E,F,G,H,I,K,t,u,v,x,y,z,M⟩:=c16 R;obtain⟨bQ,bT,bU,bV,bW,bY,bZ,cA,cC,cE,U,W,X,aY,aZ,bE⟩:=f16 R;clear R;clear g k h))
 have N:=p.l.lt m (λb=>it (by rw[f.l];exact b))
 have j:∀g,a=some ⟨g,0,none⟩->(newSS n).map Value.string≠[]->w.heap.size<g:=λg b h=>by
  have:=o.l g (by subst b;exact MS _ _ _ T);simp at this;omega
 refine AI (v:=worldV d a m c l q (some ⟨s.heap.size,0,none⟩) 1 1) (by simp[results,results10,go_sem,worldV,M,A,B,C,D,E,F,G,H,I,K,t,u,v,x,y,z]) rfl ⟨a,c,l,q,_,1,by rw[f.l],?_,?_,?_,?_,?_⟩
 ·refine OwnS.z ?_ ((AC _ _).alloc (Y _) _)
  iterate 16(refine OwnS.setw ?_ _ (λg b h=>by have:=j g b h;show w.heap.size≠g;omega) _)
  exact p.l
 ·exact .inr ⟨s.heap.size,rfl,row_atw σ⟩
 ·intro g b
  rw[f.l]at b;have P:=o.l g b;have R:=N g b;simp at P
  exact⟨ω,λk h=>by rw[MS _ _ _ ω]at h;cases h;omega⟩
 ·intro g b
  rw[MS _ _ _ ω]at b;cases b;omega
 refine Below.alloc ?_ τ _
 iterate 16(refine IA ?_ (by show w.heap.size<=w.heap.size;omega) _)
 exact L.l
end Go.Proofs.YtjdmogljfdffeaaGreatDoor.nw
namespace Go.Proofs.YtjdmogljfdffeaaGreatDoor
open _root_.ByteArray(empty)
section
open Tryz
open Go.RowKit
theorem VA{P:List (List (ByteArray×ByteArray))}(k:Nat)(a:k<P.length)(b:LV (P.getD k [])=false):PT P=false:=by
 unfold PT;have:P.all LV=false:=FW.2 ⟨P.getD k [],by simp[List.getD,a],by rw[b];simp⟩;rw[this,IH]
theorem UD{P:List (List (ByteArray×ByteArray))}(h:1<=P.length/\P.length<=200)(c:∀k,k<P.length->LV (P.getD k [])=true):PT P=true:=by
 unfold PT;rw[AM h,IB]
 refine DO.2 λd b=>?_
 obtain⟨k,a,rfl⟩:=FG b;have:=c k a;simpa[List.getD,a] using this
theorem WV{a:List ByteArray}(k:Nat)(b:k<a.length)(c:¬(a.getD k empty).size=64):QR a=false:=by
 unfold QR;have:(a.all λs=>decide (s.size=64))=false:=FW.2 ⟨a.getD k empty,by simp[List.getD,b],by simpa using c⟩;rw[this,IH]
theorem VH{a:List ByteArray}(h:a.length<=2000)(d:∀k,k<a.length->(a.getD k empty).size=64):QR a=true:=by
 unfold QR;rw[AM h,IB]
 refine DO.2 λs c=>?_
 obtain⟨k,b,rfl⟩:=FG c;have:=d k b;simpa[List.getD,b] using this
theorem TA{x:Wo}(h:decide (1<=x.w/\x.w<=8)=false):MP x=false:=by unfold MP;rw[h];rfl
theorem TC{x:Wo}(h:LG x.ss x.ws=false):MP x=false:=by unfold MP;rw[h];simp
theorem TD{x:Wo}(h:PX x=false):MP x=false:=by unfold MP;rw[h];simp
theorem PO{x:Wo}(h:PT x.P=false):MP x=false:=by unfold MP;rw[h];simp
theorem PQ{x:Wo}(h:QR x.ts=false):MP x=false:=by unfold MP;rw[h];simp
theorem TE{x:Wo}(a:decide (1<=x.w/\x.w<=8)=true)(b:LG x.ss x.ws=true)(c:PX x=true)(d:PT x.P=true)(e:QR x.ts=true):MP x=true:=by unfold MP;rw[a,b,c,d,e];rfl
theorem ST{x:Wo}(a:x.up=true):PX x=(NE x.W x.S x.L x.T x.H x.F x.R x.U x.O x.rs && decide (x.W=x.w/\x.S=(x.ss.length:Int))):=by unfold PX;rw[AF a]
theorem QU{x:Wo}(a:x.up=false):PX x=QA x:=by unfold PX;rw[AG (by rw[a];simp)]
theorem WU(x:Wo)(q:Wp)(w:World)(h:x.at w q)(f:x.le 1048576):Calls prog 8 #[LO x q] w λe a=>e=.returned (.bool (MP x))/\Below w.heap.size w a:=by
 have cF:=f.l4;have cH:=f.l5;have cE:=f.l1;obtain⟨B,l⟩:∃d,decide (1<=x.w/\x.w<=8)=d:=⟨_,rfl⟩;obtain⟨C,z⟩:∃d,LG x.ss x.ws=d:=⟨_,rfl⟩;obtain⟨t,A⟩:∃d,decide ((1:Int)<=(x.P.length:Int)/\(x.P.length:Int)<=200)=d:=⟨_,rfl⟩;obtain⟨U,K⟩:∃d,NE x.W x.S x.L x.T x.H x.F x.R x.U x.O x.rs=d:=⟨_,rfl⟩;obtain⟨T,I⟩:∃d,QA x=d:=⟨_,rfl⟩;obtain⟨D,j⟩:∃d,decide (x.ts.length<=2000)=d:=⟨_,rfl⟩;obtain⟨F,n⟩:∃d,PX x=d:=⟨_,rfl⟩;have d:=Z (QO x.w);have G:=Z (λa b c=>WW q.a x.ss q.c q.a' x.ws q.c' a b c f.l1 f.l2 f.s1 f.s2);have N:=Z (λa=>dg (x.P.length:Int) 1 200 t A a);have u:=Z (λa=>Cq x q a f.l3);have v:=Z (λa k=>kx x.W x.S x.L x.T x.H x.F x.R x.U x.O q.s x.rs q.cs a k f.l3 f.s3);unfold MM at u v;rw[l]at d;rw[z]at G;rw[K]at v;rw[I]at u;obtain⟨E,g⟩:∃E,Hid (E=MP x):=⟨_,Z rfl⟩;rw[<-g.l];have H:=Z f;have m:=Z h;clear f h;unfold LO
 go_enter func8,ntmps8;go_upto_region 1 with fail;generalize a:w.alloc _=R;obtain⟨c,i,b⟩:=LF a;have r:Row R w.heap.size (wL x q):=b.q;clear a i b;generalize Value.agg _=A0;go_cut [27] from 5 to 26 (λL M=>L=.bool (!(B && C && t && D))/\Below R.heap.size R M)
 case first =>
  have o:=r.y 0;have b:=r.lt;go_wp2_with fail;refine(d.l _).A ?_;refine NC ?_
  cases B with
  | false=>go_wp2_with fail;go_meet;exact⟨rfl,AC _ _⟩
  | true =>
  have p:=r.y 1;have s:=r.y 2;go_wp2_with fail;refine(G.l _ (m.l.h1.z c) (m.l.h2.z c)).A ?_;rintro e S ⟨rfl,a⟩;clear o p s b
  cases C with
  | false=>go_wp2_with fail;go_meet;exact⟨rfl,a⟩
  | true =>
  have i:=(r.z a).y 14;have b:=(r.z a).lt;go_wp2_with fail;refine(N.l _).A ?_;refine NC ?_
  cases t with
  | false=>go_wp2_with fail;go_meet;exact⟨rfl,a⟩
  | true =>
  have y:=(r.z a).y 15
  cases D with
  | false =>
   have o:(2000:Int)<(x.ts.length:Int):=by have:=IX j;omega
   go_wp2_with fail;go_meet;exact⟨rfl,a⟩
  | true =>
   have o:¬(2000:Int)<(x.ts.length:Int):=by have:=AU j;omega
   go_wp2_with fail;go_meet;exact⟨by rw[AJ (show ¬(2000:Int)<(x.ts.length:Int) by omega)];rfl,a⟩
 case rest =>
 obtain⟨rfl,a⟩:=hcut
 rename World=>S
 replace r:=r.z a;replace c:=c.j (a.A c.size);clear a d G N
 cases hall:(B && C && t && D) with
 | false =>
  obtain rfl:E=false:=by
   rw[g.l]
   cases B with
   | false=>exact TA l
   | true =>
   cases C with
   | false=>exact TC z
   | true =>
   cases t with
   | false=>exact PO (by unfold PT;rw[AJ (λk=>IX A ⟨ω,ω⟩)];rfl)
   | true =>
   cases D with
   | false=>exact PQ (by unfold QR;rw[j];rfl)
   | true=>cases hall
  go_wp2;go_ret;exact⟨rfl,c⟩
 | true =>
  simp only[BE]at hall;obtain⟨⟨⟨rfl,rfl⟩,rfl⟩,rfl⟩:=hall;have hP:1<=x.P.length/\x.P.length<=200:=by have:=AU A;omega
  have bZ:=AU j;have bE:=Z l;have bG:=Z z;clear l z A j;go_upto_region 3 with fail;go_cut [64] from 28 to 63 (λL M=>L=.bool (!F)/\Below S.heap.size S M)
  case first =>
   obtain⟨o,p,s,j,L,M,N,O,P,Q,c10,A,c12,G,i,y,b⟩:=c16 r
   cases hup:x.up with
   | false =>
    rw[hup]at j;have d:=Z (show F=T by rw[<-n,QU hup];exact I);clear hup;go_wp2_with fail;clear o p s j L M N O P Q c10 A c12 G i y b;refine(u.l _).A ?_;rintro e z ⟨rfl,a⟩
    cases T with
    | false=>go_wp2_with fail;go_meet;exact⟨by rw[d.l];rfl,a⟩
    | true=>go_wp2_with fail;go_meet;exact⟨by rw[d.l];rfl,a⟩
   | true =>
    rw[hup]at j;have d:=Z (show F=(U && decide (x.W=x.w/\x.S=(x.ss.length:Int))) by rw[<-n,ST hup,K]);go_wp2_with fail;clear o p s j L M N O P Q c10 A c12 G i y b;refine(v.l _ (m.l.h3.z c)).A ?_;rintro e z ⟨rfl,a⟩;replace r:=r.z a;obtain⟨o,p,s,j,L,M,N,O,P,Q,c10,A,c12,G,i,y,b⟩:=c16 r;rw[hup]at j;clear hup
    cases U with
    | false=>go_wp2_with fail;go_meet;exact⟨by rw[d.l];rfl,a⟩
    | true =>
    by_cases X:x.W=x.w
    ·by_cases W:x.S=(x.ss.length:Int)
     ·have l:=Z (AH X W)
      go_wp2_with fail;go_meet;exact⟨by rw[d.l,AM l.l];rfl,a⟩
     have l:=Z W
     go_wp2_with fail;go_meet;exact⟨by rw[d.l,AJ (λk=>l.l k.2)];rfl,a⟩
    have l:=Z X
    go_wp2_with fail;go_meet;exact⟨by rw[d.l,AJ (λk=>l.l k.1)];rfl,a⟩
  case rest =>
  obtain⟨rfl,a⟩:=hcut
  rename World=>z
  replace r:=r.z a;replace c:=c.j (a.A c.size);clear a u v K I
  cases F with
  | false =>
   obtain rfl:E=false:=by rw[g.l];exact TD n
   go_wp2;go_ret;exact⟨rfl,c⟩
  | true =>
   have K:=Z n;clear n;have i:=r.y 14;have b:=r.lt;go_wp2_with fail;clear i b;go_loopw [3] (λi wr=>∃k:Nat,k<=x.P.length/\i=.int .i64 (k:Int)/\Hid (∀j,j<k->LV (x.P.getD j [])=true)/\Hid (Below z.heap.size z wr)) (λi _=>x.P.length-(intOf i).toNat)
   case atStart=>exact⟨0,AO _,rfl,λj a=>absurd a ω,AC _ _⟩
   case round =>
    obtain⟨k,hk,rfl,G,u⟩:=hrel;have l:=c.j (u.l.A c.size);replace r:=r.z u.l;have P:=r.y 14;have ql:=r.lt
    by_cases A:k<x.P.length
    ·have M:(k:Int)<(x.P.length:Int):=ω
     obtain⟨b,o,p,N,I,O,L,v⟩:=(m.l.h4.z l).at A;obtain⟨d,s⟩:∃d,Hid (d=x.P.getD k []):=⟨_,Z rfl⟩;rw[<-s.l]at L v;have y:d∈x.P:=by rw[s.l];simp[List.getD,A]
     have n:=Z (pi p d N wr v.l (H.l.s4 d y).1 (H.l.s4 d y).2);clear y v r;rw[I]at P;clear I
     cases hst:LV d with
     | false =>
      obtain rfl:E=false:=by rw[g.l];exact PO (VA k A (by rw[<-s.l];exact hst))
      rw[hst]at n;go_wp2_with (go_at_call 41;refine n.l.A ?_;rintro e I ⟨rfl,v⟩);go_ret;exact⟨rfl,l.j (v.A l.size)⟩
     | true =>
      rw[hst]at n;have y:=Z hst;clear hst;go_wp2_with (go_at_call 41;refine n.l.A ?_;rintro e I ⟨rfl,v⟩);go_roundw
      case rel =>
       refine⟨_,_,_,_,_,_,_,_,_,_,_,_,_,_,_,_,?_,rfl⟩
       exact⟨k+1,ω,ν,λj a=>by
        by_cases e:j=k
        ·subst e;rw[<-s.l];exact y.l
        exact G.l j ω,u.l.j (v.A u.l.size)⟩
      case measure=>simp[intOf];omega
    have M:¬(k:Int)<(x.P.length:Int):=ω
    have L:=Z (UD hP (λj a=>G.l j ω));have Q:=r.y 15;go_wp2;go_loopw [4] (λi b=>∃k:Nat,k<=x.ts.length/\i=.int .i64 (k:Int)/\Hid (∀j,j<k->(x.ts.getD j empty).size=64)/\b=wr) (λi _=>x.ts.length-(intOf i).toNat)
    case atStart=>exact⟨0,AO _,rfl,λj a=>absurd a ω,by first|rfl|trivial⟩
    case round =>
     obtain⟨d,W,rfl,p,O⟩:=hrel;subst O
     by_cases n:d<x.ts.length
     ·have I:(d:Int)<(x.ts.length:Int):=ω
      obtain⟨b,o,s,N,hc,i⟩:=(m.l.h5.z l).at n;rw[N]at Q;have X:=H.l.s5 s (by rw[i.l];simp[List.getD,n])
      by_cases v:s.size=64
      ·have y:(s.size:Int)=64:=ω
       go_wp2;go_roundw
       case rel=>exact⟨d+1,ω,ν,λj a=>by
        by_cases e:j=d
        ·subst e;rw[<-i.l];exact v
        exact p.l j ω,by first|rfl|trivial⟩
       case measure=>simp[intOf];omega
      have y:¬(s.size:Int)=64:=ω
      obtain rfl:E=false:=by rw[g.l];exact PQ (WV d n (by rw[<-i.l];exact v))
      go_wp2;go_ret;exact⟨rfl,l⟩
     have I:¬(d:Int)<(x.ts.length:Int):=ω
     obtain rfl:E=true:=by rw[g.l];exact TE bE.l bG.l K.l L.l (VH ω (λj a=>p.l j ω))
     go_wp2;go_ret;exact⟨rfl,l⟩
