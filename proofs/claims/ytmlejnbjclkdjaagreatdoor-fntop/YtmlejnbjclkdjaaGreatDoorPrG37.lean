import Derived.Test.YtmlejnbjclkdjaaGreatDoorPrDrvOf
import Derived.Test.YtmlejnbjclkdjaaGreatDoorPrG42
import Derived.Test.YtmlejnbjclkdjaaGreatDoorPrMvS
import Derived.Test.YtmlejnbjclkdjaaGreatDoorPrNwB
set_option maxHeartbeats 16000000
set_option maxRecDepth 8000
set_option linter.all false
namespace Go.Proofs.YtmlejnbjclkdjaaGreatDoor
section
open Tryz
open Go.RowKit
def SP(d:List Y×List (Int×Y))(o:Bool×Int×Y):List Y×List (Int×Y) :=if o.1=true then (xhE d.2 d.1,[]) else if PL d.1.length o.2=true/\d.2.length<300 then (d.1,d.2++[o.2]) else d
def LP:List (Bool×Int×Y)->List Y×List (Int×Y)->List Y×List (Int×Y)
 | [],d=>d
 | o::r,d=>LP r (SP d o)
theorem MX(d:List Y×List (Int×Y))(x:Int×Y):SP d (true,x)=(xhE d.2 d.1,[]):=by simp[SP]
theorem OX(d:List Y×List (Int×Y))(x:Int×Y)(h:PL d.1.length x=true)(a:d.2.length<300):SP d (false,x)=(d.1,d.2++[x]):=by simp[SP,h,a]
theorem SR(d:List Y×List (Int×Y))(x:Int×Y)(h:PL d.1.length x=false\/¬d.2.length<300):SP d (false,x)=d:=by
 unfold SP;rw[AG σ,AG];rintro⟨a,b⟩;rcases h with h|h
 ·rw[h]at a;cases a
 exact h b
theorem SQ(d:List Y×List (Int×Y))(o:Bool×Int×Y):(SP d o).1.length=d.1.length:=by
 unfold SP
 split
 ·exact VT _ _
 split<;>rfl
theorem TS:∀(ws:List (Int×Y)) (ss:List Y),(∀s∈ss,(s.size:Int)=64)->(∀x∈ws,(x.2.size:Int)=64)->∀s∈xhE ws ss,(s.size:Int)=64
 | [],ss,h,_=>h
 | x::r,ss,h,hw=>TS r _ (λs hs=>by
   rcases FG hs with h3|h3
   ·exact h s h3
   ·rw[h3];exact hw x (EE ..)) (λy hy=>hw y (DO _ hy))
theorem QK{n:Nat}{x:Int×Y}(h:PL n x=true):(0<=x.1/\x.1<(n:Int))/\(x.2.size:Int)=64:=by
 have:=AV h;omega
theorem SJ{a:List Y}{b:List (Int×Y)}(c:8<=a.length/\a.length<=200/\b.length<=300)(d:∀s∈a,(s.size:Int)=64)(e:∀x∈b,PL a.length x=true):LE a b=true:=by
 unfold LE;rw[AX,AX];exact⟨⟨AL c,EH.2 λs f=>AL (d s f)⟩,EH.2 e⟩
theorem UM(d:List Y×List (Int×Y))(o:Bool×Int×Y)(h:LE d.1 d.2=true):LE (SP d o).1 (SP d o).2=true:=by
 obtain⟨f,b,c⟩:=LK h;unfold SP
 split
 ·refine SJ ?_ (TS _ _ b λx a=>(QK (c x a)).2) (λx a=>by simp at a)
  show 8<=(xhE d.2 d.1).length/\(xhE d.2 d.1).length<=200/\0<=300;rw[VT];omega
 split
 ·rename_i e
  refine SJ ?_ b (λx a=>?_)
  ·show 8<=d.1.length/\d.1.length<=200/\(d.2++[o.2]).length<=300
   rw[AF];have:=e.2;simp;omega
  rcases BJ.1 a with a|a
  ·exact c x a
  rw[BL.1 a];exact e.1
 exact h
theorem WU(x y:List Int)(a:x.length=64)(b:y.length=64):TV 64 x y=x:=by
 unfold TV;rw[AQ ω,ED ω,DZ]
structure DV(w:Nb)(base X g n:Nat)(v:Nc)(ps:List (List Int))(hs:List (Int×List Int)):Prop where
 rx:Row w X [.slice (Mw g 0) n n,v]
 pr:PR w g ps
 own:w.ownsRow base 175 65 v hs.length (OY hs)
 nx:v.ownBlock≠some X
 ng:v.ownBlock≠some g
 xg:X≠g
 bx:base<=X
 bg:base<=g
theorem DV.I{w e:Nb}{a X g n:Nat}{v:Nc}{d:List (List Int)}{c:List (Int×List Int)}(h:DV w a X g n v d c)(b:Below w.heap.size w e):DV e a X g n v d c :=⟨h.rx.I b,h.pr.I b,NC h.own b,h.nx,h.ng,h.xg,h.bx,h.bg⟩
theorem OwnS.hld{w:Nb}{a:M6}{b:List (Int×List Int)}(h:OwnS w a (OY b))(c:∀p∈b,p.2.length=64):Hld w a b:=by
 rcases h with h|⟨g,rfl,d⟩
 ·refine .inl (AC ?_)
  have:=CX List.length h;rw[sp b c,AR]at this;omega
 exact d.hld c
theorem RA{ws:List (Int×Y)}(h:∀x∈ws,x.2.size=64):∀p∈ME ws,p.2.length=64:=λp a=>by
 obtain⟨x,b,rfl⟩:=DS.1 a;show(LI x.2).length=64;rw[NH,h x b]
def ZU:List (Int×List Int)->List (List Int)->List (List Int)
 | [],ps=>ps
 | x::r,ps=>ZU r (ps.set x.1.toNat x.2)
theorem XP(b:List (Int×Y)):∀(a:List Y),ZU (ME b) (a.map LI)=(xhE b a).map LI:=by
 induction b with
 | nil=>intro a;rfl
 | cons x r c =>
  intro a;have:=c (a.set x.1.toNat x.2);rw[JY]at this;exact this
theorem DV.lay{w b:Nb}{a X g n:Nat}{v:Nc}{j c:List (List Int)}{f:List (Int×List Int)}(h:DV w a X g n v j f)(d:w.grownBy b (some g))(i:PR b g c):DV b a X g n v c f :=⟨h.rx.J d (λe=>h.xg (by injection e)),i,h.own.kept d (.inr h.ng),h.nx,h.ng,h.xg,h.bx,h.bg⟩
set_option maxRecDepth 100000 in
theorem af(a X g n:Nat)(v:Nc)(r:List (List Int))(c:List (Int×List Int))(w:Nb)(h:DV w a X g n v r c)(hn:r.length=n)(W:n<=200)(hl:c.length<=300)(J:∀p∈c,p.2.length=64)(K:∀p∈c,0<=p.1/\p.1<(n:Int))(L:a<=w.heap.size):Calls prog 205 #[Mv X 0] w λe b=>(∃x,e=M3 x)/\DV b a X g n (.slice none 0 0) (ZU c r) []/\Below a w b:=by
 obtain⟨p,F⟩:∃p,Hid (p=ZU c r):=⟨_,Z rfl⟩;rw[<-F.l]
 obtain⟨s,N,hv,bJ⟩:∃s N,v=.slice s c.length N/\(c=[]\/∃l,s=Mw l 0/\v.ownBlock=some l):=by
  rcases NU h.own with ⟨e,i⟩|⟨l,d,e,u,y,o⟩
  ·exact⟨none,0,by rw[e,i],.inl (AC i)⟩
  exact⟨_,d,e,.inr ⟨l,rfl,by rw[e];rfl⟩⟩
 have b:=h.rx.y 1;rw[hv]at b;go_enter func205,ntmps205;go_wp2;have d:=Z h;have E:=Z J;have R:=Z K;clear h J K b;go_loopw [3,9] (λ_ i wr=>∃(k:Nat) (j:List (List Int)),k<=c.length/\i=.int .i64 k/\j.length=n/\Hid (ZU (c.drop k) j=p)/\DV wr a X g n v j c/\Below a w wr) (λ_ i _=>c.length-(intOf i).toNat)
 case atStart=>exact⟨0,r,AM _,rfl,hn,by show _=_;rw[FD,F.l],d.l,AB _ _⟩
 case round =>
  clear d;obtain⟨k,j,O,rfl,M,C,f,t⟩:=hrel
  by_cases z:k<c.length
  ·obtain⟨b,V,m⟩:∃b,s=Mw b 0/\Row wr b (OY c):=by
    rcases NU f.own with ⟨e,i⟩|⟨l,d,e,u,y,o⟩
    ·omega
    rw[hv]at e
    injection e with q A B;exact⟨l,q,o⟩
   subst V;obtain⟨T,o,q,x,d,bI,A,D⟩:=(m.hld E.l).at (k:=k) z
   obtain⟨rfl,rfl⟩:b=T/\o=0:=by cases d;exact⟨rfl,rfl⟩
   clear d m;rw[BG]at A;have G:Hid ((q,x)∈c):=by show _∈_;rw[D.l];simp[List.getD,z]
   have B:x.length=64:=E.l (q,x) G.l
   obtain⟨m,rfl,hm⟩:∃m:Nat,q=(m:Int)/\m<n:=by
    have:=R.l (q,x) G.l;exact⟨q.toNat,by simp at this;omega,by simp at this;omega⟩
   have i:(Value.int .i64 (m:Int)::x.map (Value.int .u8)).length=65:=by simp[B]
   have u:Hid ((prog.info? 175).map (·.size)=some (Value.int .i64 (m:Int)::x.map (Value.int .u8)).length):=by rw[i];show _=_;kernel_rfl
   have U:=Z i.symm;have bQ:=il;have d:=Z f;clear i f
   go_wp2_with (first|(with_reducible refine OF 175 _ rfl ?_;refine AS rfl 175 _ rfl b (k*65) rfl (Value.int .i64 (m:Int)::x.map (Value.int .u8)) _ A underlying175 rfl u.l ?_)|(with_reducible refine OF 175 _ rfl ?_;refine AS rfl 175 _ rfl wr.heap.size 0 rfl (Value.int .i64 (m:Int)::x.map (Value.int .u8)) _ I.range underlying175 rfl u.l ?_)|(with_reducible refine MW 175 _ _ rfl ?_;refine df rfl 175 _ _ rfl (Value.int .i64 (m:Int)::x.map (Value.int .u8)) (ic (m:Int) x) rfl rfl _ _ (by rw[<-U.l];kernel_rfl) u.l ?_;intro wx I i bH)|(go_at_call 171;refine(wK X g n n (.slice none 0 0) j m x 64 _ ((d.l.I i).rx.y 0) d.l.xg (d.l.I i).pr M hm W (AA _) B (AA _)).z ?_;rintro e w4 ⟨rfl,H,y⟩))
   have Q:=Z ((d.l.I i).lay y H);have P:=Z ((t.j (i.z (AK L t.size))).j (NR y (AK L (AK t.size i.size)) (λk O=>by cases O;exact d.l.bg)))
   have S:Hid (ZU (c.drop (k+1)) (j.set m (TV 64 x (j.getD m [])))=p):=by
    show _=_;rw[WU x _ B (bh d.l.pr.len ω),<-C.l,YI c k (0,[]) z,<-D.l,ZU,BM]
   clear y H i I A bH;go_wp2;go_roundw
   case rel=>exact⟨k+1,_,ω,ν,by simp[M],S,Q.l,P.l⟩
   case measure=>simp[intOf];omega
  have i:Hid (j=p):=by
   have:=C.l;rw[ED ω]at this;exact this
  rw[i.l]at f;have d:=Z f;have b:=f.rx.y 1;have m:=f.rx.A 1;clear f;go_wp2;go_end0;refine⟨⟨_,rfl⟩,⟨d.l.rx.set 1 σ _,d.l.pr.other _ d.l.xg _,DA _ _ _ _,by simp[Value.ownBlock],by simp[Value.ownBlock],d.l.xg,d.l.bx,d.l.bg⟩,t.setCell d.l.bx _⟩
set_option maxRecDepth 100000 in
theorem VI(a X g n:Nat)(v:Nc)(b:List Y)(c:List (Int×Y))(r:Int)(d:Y)(w:Nb)(h:DV w a X g n v (b.map LI) (ME c))(l:b.length=n)(s:LE b c=true)(j:a<=w.heap.size):Calls prog 170 #[Mv X 0,.agg #[M0 true,.int .i64 r,Mz d]] w λe f=>(∃x,e=M3 x)/\DV f a X g n (.slice none 0 0) ((xhE c b).map LI) []/\Below a w f:=by
 obtain⟨⟨u,y,z⟩,t,m⟩:=LK s
 have f:∀o,Below w.heap.size w (w.alloc o):=λo=>LO _ _
 have q:=Z (λ(o:Obj)=>af a X g n v (b.map LI) (ME c) (w.alloc o) (h.I (f o)) (by simp[l]) ω (by rw[RL];omega) (RA (λx i=>by have:=(QK (m x i)).2;omega)) (λp k=>by
  obtain⟨x,i,rfl⟩:=DS.1 k;have:=(QK (m x i)).1;rw[l]at this
  exact this) (AK j (f o).size))
 go_enter func170,ntmps170;go_wp2_with (go_at_call 205;refine(q.l _).z ?_;rintro e A ⟨⟨x,rfl⟩,k,p⟩);go_end0;rw[XP]at k;exact⟨⟨_,rfl⟩,k,((f _).z j).j p⟩
set_option maxRecDepth 100000 in
theorem UW(f X g n:Nat)(v:Nc)(i:List Y)(l:List (Int×Y))(k:Int)(d:Y)(w:Nb)(h:DV w f X g n v (i.map LI) (ME l))(y:i.length=n)(s:LE i l=true)(u:d.size<=1048576)(r:PL i.length (k,d)=false\/¬l.length<300)(q:f<=w.heap.size):Calls prog 170 #[Mv X 0,.agg #[M0 false,.int .i64 k,Mz d]] w λe j=>(∃x,e=M3 x)/\DV j f X g n v (i.map LI) (ME l)/\Below f w j:=by
 obtain⟨⟨A,B,C⟩,x,F⟩:=LK s
 have m:∀o,Below w.heap.size w (w.alloc o):=λo=>LO _ _
 obtain⟨D,E,rfl⟩:∃a c,v=.slice a l.length c:=by
  rw[<-RL];rcases NU h.own with ⟨e,a⟩|⟨g,c,e,_⟩
  ·exact⟨_,_,by rw[e,a]⟩
  exact⟨_,_,e⟩
 have G:=h.rx.y 0;have H:=h.rx.y 1;have z:=h.rx.lt;have o:=Z h;subst y
 have p:∀b,PL i.length (k,d)=b->∀j,Calls prog 109 #[.int .i64 (i.length:Int),.int .i64 k,Mz d] j λe a=>e=M3 (M0 b)/\a=j:=λb t j=>by
  have:=UU i.length k d j u ω;rw[t]at this;exact this
 cases hc:PL i.length (k,d) with
 | false =>
  go_enter func170,ntmps170;go_wp2_with fail;go_quiet ((go_at_call 109;exact Calls.quiet_of_same (p false hc _)));go_wp2;go_end0;exact⟨⟨_,rfl⟩,o.l.I (below_drewN (m _) _),(below_drewN (m _) _).z q⟩
 | true =>
  have b:(decide ((l.length:Int)<300))=false:=by
   rcases r with a|a
   ·rw[hc]at a;cases a
   exact AI ω
  go_enter func170,ntmps170;go_wp2_with fail;go_quiet ((go_at_call 109;exact Calls.quiet_of_same (p true hc _)));go_wp2;go_end0;exact⟨⟨_,rfl⟩,o.l.I (below_drewN (m _) _),(below_drewN (m _) _).z q⟩
section
def OH(zs:List Int):Nat->List (Int×List Int)->List (List Int)->List (List Int)
 | _,[],ps=>ps
 | i,x::r,ps=>OH zs (i+1) r (ps.set x.1.toNat (TV (fate zs i) x.2 (ps.getD x.1.toNat [])))
theorem MR(zs:List Int):∀(hs:List (Int×List Int)) (i:Nat) (ps:List (List Int)),(OH zs i hs ps).length=ps.length
 | [],_,_=>rfl
 | x::r,i,ps=>by rw[OH,MR zs r];simp
structure PLs(W w:Nb)(R X g:Nat)(xs:List Nc)(a2:M6)(hs:List (Int×List Int))(ps:List (List Int)):Prop where
 bel:Below W.heap.size W w
 rr:Row w R [.slice none 0 0,.slice none 0 0]
 rx:Row w X xs
 pr:PR w g ps
 own:OwnS w a2 (OY hs)
section
variable {W w w':Nb} {R X g:Nat} {xs:List Nc} {a2:M6} {hs:List (Int×List Int)} {ps ps':List (List Int)}
theorem PLs.I(h:PLs W w R X g xs a2 hs ps)(a:Below w.heap.size w w'):PLs W w' R X g xs a2 hs ps :=⟨h.bel.j (a.z h.bel.size),h.rr.I a,h.rx.I a,h.pr.I a,h.own.I a⟩
theorem PLs.drew(h:PLs W w R X g xs a2 hs ps):PLs W w.drew R X g xs a2 hs ps:=h.I ((AB _ _).drew)
theorem PLs.J(h:PLs W w R X g xs a2 hs ps)(a:w.grownBy w' (some g))(n:PR w' g ps')(d:W.heap.size<=g)(f:R≠g)(i:X≠g)(j:∀b,a2=Mw b 0->OY hs≠[]->b≠g):PLs W w' R X g xs a2 hs ps' :=⟨h.bel.j (NR a h.bel.size (λk m=>by cases m;exact d)),h.rr.J a (λe=>f (by injection e)),h.rx.J a (λe=>i (by injection e)),n,h.own.J a (λb l c e=>j b l c (by injection e))⟩
end
set_option maxRecDepth 100000 in
theorem uf(a:M6)(d:List Y)(c:Nat)(A:M6)(j:List (Int×Y))(J:Nat)(f:M6)(q:List Int)(W:Nat)(w:Nb)(h:Strs w a d)(h':Wrs w A j)(hz:Ints w f q)(dP:q.length<=1048576)(cL:LE d j=true):Calls prog 124 #[LF a d.length c A j.length J,.slice f q.length W] w λe G=>∃z L B I,e=M3 (LF z d.length L B 0 I)/\OwnD G z (OI (OH q 0 (ME j) (d.map LI))) B []/\(∀g,blk z d.length=some g->w.heap.size<=g)/\Below w.heap.size w G:=by
 obtain⟨⟨eK,U,dQ⟩,cA,p⟩:=LK cL
 have R:∀b i,Below w.heap.size w ((w.alloc b).alloc i):=λb i=>(LO _ _).alloc σ _
 obtain⟨t,aJ⟩:∃t,Hid (t=OH q 0 (ME j) (d.map LI)):=⟨_,Z rfl⟩;rw[<-aJ.l];go_enter func124,ntmps124;go_wp2_with fail;refine(NF a d c A j J _ (h.I (R _ _)) (h'.I (R _ _)) ω ω (λs l=>by have:=cA s l;omega) (λx b=>by have:=AV (p x b);omega)).z ?_;rw[cL];rintro e w1 ⟨rfl,k⟩;have o:=(R _ _).j (k.z τ);obtain⟨F,r⟩:=UT k;have m:=(LM (w.alloc (.cells #[.slice a d.length c,.slice A j.length J] 26)) #[.slice none 0 0,.slice none 0 0] 26 (w.heap.size+1) σ).I k;have n:=Z m;have i:=Z o;clear m k o;go_wp2_with fail;refine(fy a d c A j J _ (h.I i.l) (h'.I i.l) U dQ (λs l=>by have:=cA s l;omega) (λx b=>by have:=AV (p x b);omega)).z ?_;rintro e l ⟨g,v,rfl,H,s,M,m⟩;clear F r;have o:=Z (n.l.I m);have Q:Hid (w.heap.size+1+1<=g):=by have:=n.l.lt;show _<=_;omega
 have u:=Z (Below.then i.l (AA _) m)
 obtain⟨r,D,hv,F,C⟩:∃r D,v=.slice r j.length D/\OwnS l r (OY (ME j))/\∀E,r=Mw E 0->j≠[]->E≠g/\E<l.heap.size:=by
  rcases NU s with ⟨e,K⟩|⟨E,k,e,h1,N,O⟩
  ·have:j=[]:=AC K
   subst this;exact⟨none,0,e,.inl rfl,λ_ _ y=>absurd rfl y⟩
  exact⟨_,k,e,.inr ⟨E,rfl,O⟩,λP y _=>by cases y;exact⟨ω,N⟩⟩
 subst hv;have k:=Z H;have y:=Z F;clear H s F m i n;go_wp2
 have i:∀x∈j,x.2.size=64:=λx b=>by have:=AV (p x b);omega
 have aI:=Z (RA i)
 have bR:∀b,r=Mw b 0->OY (ME j)≠[]->b≠g:=λb m n=>(C b m (λe=>n (by rw[e];rfl))).1
 have eH:g<l.heap.size:=k.l.lt;have cW:w.heap.size+1≠g:=by have:=Q.l;omega
 have eB:w.heap.size<=g:=by have:=Q.l;omega
 have n:PLs w (l.alloc (.cells #[.slice (Mw g 0) d.length d.length,.slice r j.length D] 116)) (w.heap.size+1) l.heap.size g [.slice (Mw g 0) d.length d.length,.slice r j.length D] r (ME j) (d.map LI) :=⟨Below.then u.l (AA _) (LD _ _),o.l.alloc _,MT _ _ _,k.l.I (LD _ _),y.l.I (LD _ _)⟩
 have m:=Z n;have HW:=Z p;clear n k y u o C p i;go_loopw [6,7,17] (λ_ _ i wr=>∃(k:Nat) (s:List (List Int)),k<=j.length/\i=.int .i64 k/\s.length=d.length/\Hid (OH q k ((ME j).drop k) s=t)/\PLs w wr (w.heap.size+1) l.heap.size g [.slice (Mw g 0) d.length d.length,.slice r j.length D] r (ME j) s) (λ_ _ i _=>j.length-(intOf i).toNat)
 case atStart=>exact⟨0,_,AM _,rfl,σ,by show _=_;rw[FD,aJ.l],m.l⟩
 case round =>
  clear m;obtain⟨k,s,hk,rfl,V,O,n⟩:=hrel;have cO:t.length=d.length:=by rw[<-O.l,MR,V]
  by_cases T:k<j.length
  ·obtain⟨b,o,H,x,rfl,eJ,K,X⟩:=(n.own.hld aI.l).at (k:=k) (by rw[RL];exact T)
   have aP:Hid ((H,x)∈ME j):=by show _∈_;rw[X.l];simp[List.getD,RL,T]
   have cQ:x.length=64:=aI.l (H,x) aP.l
   obtain⟨m,rfl,hm⟩:∃m:Nat,H=(m:Int)/\m<d.length:=by
    obtain⟨y,p,e⟩:=DS.1 aP.l;have C:=AV (HW.l y p);have u:y.1=H:=by rw[BV]at e;exact e.1
    exact⟨H.toNat,ω,ω⟩
   have p:(Value.int .i64 (m:Int)::x.map (Value.int .u8)).length=65:=by simp[cQ]
   have P:Hid ((prog.info? 175).map (·.size)=some (Value.int .i64 (m:Int)::x.map (Value.int .u8)).length):=by rw[p];show _=_;kernel_rfl
   have cV:=Z p.symm;have eM:=il;have y:=Z n;clear p n
   go_wp2_with (first|(with_reducible refine OF 175 _ rfl ?_;refine AS rfl 175 _ rfl b (o+k*65) rfl (Value.int .i64 (m:Int)::x.map (Value.int .u8)) _ K underlying175 rfl P.l ?_)|(with_reducible refine MW 175 _ _ rfl ?_;refine df rfl 175 _ _ rfl (Value.int .i64 (m:Int)::x.map (Value.int .u8)) (ic (m:Int) x) rfl rfl _ _ (by rw[<-cV.l];kernel_rfl) P.l ?_;intro wx p C dZ))
   have u:=Z (y.l.I C);have S:=p.range;have aK:=Z p;have dN:wr.heap.size≠g:=by have:=y.l.pr.lt;omega
   have cE:=zd q k;obtain⟨F,N⟩:∃F,Hid (F=fate q k):=⟨_,Z rfl⟩;rw[<-N.l]at cE;have eC:=Z (((hz.I u.l.bel)));clear p K C dZ S;refine AN (S:=λG=>G.rangeAt wr.heap.size 0 (Value.int .i64 (m:Int)::x.map (Value.int .u8))) κ aK.l.drew.range (λC=>?_);refine TK 0 (.agg (Value.int .i64 (m:Int)::x.map (Value.int .u8)).toArray) rfl (yieldsIf_load_mid ρ _ _ rfl wr.heap.size 0 rfl (Value.int .i64 (m:Int)::x.map (Value.int .u8)) _ (λw p=>p) underlying175 rfl P.l) C ?_;simp only[Act.put,BZ];refine TK 1 (.slice f q.length W) rfl (BO ⟨ρ,λw p=>γ⟩) C ?_;simp only[Act.put];refine TK 2 (.int .i64 (k:Int)) rfl (BO ⟨ρ,λw p=>γ⟩) C ?_;simp only[Act.put];refine RD 3 rfl (λK G=>?_);refine LW ρ _ _ γ (Kh f q W k _ (hz.I u.l.drew.bel) dP ω) ?_
   rw[<-N.l];rintro e w3 ⟨rfl,rfl⟩;refine⟨_,rfl,?_⟩;refine G.l _ _ C (λ_=>?_);clear G K;simp only[Act.put];refine RD 4 rfl (λK G=>?_);refine LW ρ _ _ γ (wK l.heap.size g d.length d.length (.slice none 0 0) s m x F _ (u.l.drew.rx.y 0) ω u.l.drew.pr V hm U (AA _) cQ cE) ?_;rintro e w4 ⟨rfl,aR,S⟩;refine⟨_,rfl,?_⟩;refine G.l _ _ (aK.l.drew.J S (λe=>dN (by injection e))).range (λ_=>?_);clear G K;simp only[Act.put];refine DN ?_;have G:=u.l.drew.J S aR eB cW ω bR;have K:=Z G
   have cT:Hid (OH q (k+1) ((ME j).drop (k+1)) (s.set m (TV F x (s.getD m [])))=t):=by
    show _=_;rw[<-O.l,YI (ME j) k (0,[]) (by rw[RL];exact T),<-X.l,OH,BM,N.l]
   clear G aR S C;go_wp2;go_roundw
   case rel=>exact⟨k+1,_,ω,ν,by simp[V],cT,K.l⟩
   case measure=>simp[intOf];omega
  have P:Hid (s=t):=by
   have:=O.l;rw[ED (by rw[RL];omega)]at this;exact this
  rw[P.l]at n;have y:=Z n;have q0:=n.rx.y 0;have F:=n.rx.y 1;have f1:=n.rx.A 1;clear n;go_wp2_with fail;have cZ:l.heap.size≠g:=ω
  have eI:w.heap.size+1<l.heap.size:=by have:=Q.l;omega
  have n:=y.l.pr.other ⟨l.heap.size,1,none⟩ cZ (.slice none 0 0);have o:=y.l.rr.other ⟨l.heap.size,1,none⟩ (by show l.heap.size≠w.heap.size+1;omega) (.slice none 0 0);have C:=y.l.bel.setCell (p:=⟨l.heap.size,1,none⟩) (by show w.heap.size<=l.heap.size;omega) (.slice none 0 0);refine(mp (Mw g 0) t d.length d.length none [] 0 0 cO rfl _ n.plt (.inl rfl) U ω n.len (λp hp=>by simp at hp)).z ?_;rintro e w5 ⟨z,L,B,I,rfl,K,H,dM,u⟩;have m:=o.I u;have r0:=m.y 0;have r1:=m.y 1;obtain⟨eF,eG⟩:=m.z2;have S:=Z (Below.then C (AA _) u);have dH:=C.size;have X:=Z K
  have G:Hid (∀g,blk z d.length=some g->w.heap.size+1<g):=λg M=>by
   have h1:=H g M;have N:=o.lt;omega
  clear K H dM u m n o C q0 F f1 dH;go_wp2;have K:(OI t).length=d.length:=by simp[OI,cO]
  refine AJ (v:=LF z d.length L B 0 I) (by simp[results,results124,go_sem,r0,r1]) rfl ⟨z,L,B,I,rfl,⟨?_,.inl rfl,.inr (.inl rfl)⟩,λg M=>by have:=G.l g M;omega,?_⟩
  ·have C:∀(o:Nb) (u:Nc) (i:Nat),OwnS o z ((OI t).map Value.string)->OwnS (o.setCell ⟨w.heap.size+1,i,none⟩ u) z ((OI t).map Value.string):=λo u i n=>by
    rcases n with n|⟨m,F,H⟩
    ·exact .inl n
    refine .inr ⟨m,F,H.other _ (λe=>?_) _⟩
    have:=G.l m (by rw[F];exact NT m 0 _ ω);have N:w.heap.size+1=m:=e;omega
   exact C _ _ _ (C _ _ _ X.l.s)
  exact(S.l.setCell (by show w.heap.size<=w.heap.size+1;omega) _).setCell (by show w.heap.size<=w.heap.size+1;omega) _
end
section
theorem PY(p:Y)(i j:Nat)(h:i<=j):LI (p.extract i j)=((LI p).take j).drop i:=by
 unfold LI;rw[EY,JT];simp[KP,IL,List.take_drop,Nat.add_sub_cancel' h]
theorem VJ(F:Nat)(d t:Y)(hF:F<=64)(a:d.size=64)(b:t.size=64):LI (d.extract 0 F++t.extract F 64)=TV F (LI d) (LI t):=by
 rw[qm,PY _ _ _ (AM _),PY _ _ _ hF,TV,FD];rw[AQ (l:=LI t) (by rw[NH];omega)]
theorem VM(F:Nat)(d t:Y)(hF:F<=64)(a:d.size=64)(b:t.size=64):(d.extract 0 F++t.extract F 64).size=64:=by
 rw[BN,AO,AO];omega
structure PTs(W w:Nb)(R X g g' n n' c1 c1':Nat)(ws:List (Int×Y))(ts:List Y):Prop where
 bel:Below W.heap.size W w
 rr:Row w R [.slice none 0 0,.slice none 0 0]
 rx:Row w X [.slice (Mw g 0) n c1,.slice (Mw g' 0) n' c1']
 rs:Row w g (ts.map Value.string)
 own:OwnS w (Mw g' 0) (NP ws)
section
variable {W w w':Nb} {R X g g' n n' c1 c1':Nat} {ws:List (Int×Y)} {ts:List Y}
theorem PTs.I(h:PTs W w R X g g' n n' c1 c1' ws ts)(a:Below w.heap.size w w'):PTs W w' R X g g' n n' c1 c1' ws ts :=⟨h.bel.j (a.z h.bel.size),h.rr.I a,h.rx.I a,h.rs.I a,h.own.I a⟩
theorem PTs.drew(h:PTs W w R X g g' n n' c1 c1' ws ts):PTs W w.drew R X g g' n n' c1 c1' ws ts:=h.I ((AB _ _).drew)
theorem PTs.set(h:PTs W w R X g g' n n' c1 c1' ws ts)(m:Nat)(k:m<ts.length)(s:Y)(d:W.heap.size<=g)(f:R≠g)(i:X≠g)(j:NP ws≠[]->g'≠g):PTs W (w.setCell ⟨g,m,none⟩ (Mz s)) R X g g' n n' c1 c1' ws (ts.set m s):=by
 refine⟨h.bel.setCell d _,h.rr.other _ (λe=>f e.symm) _,h.rx.other _ (λe=>i e.symm) _,?_,?_⟩
 ·rw[JY];exact h.rs.set m (by simpa using k) _
 rcases h.own with l|⟨b,e,o⟩
 ·exact .inl l
 injection e with e;injection e with e
 by_cases a:NP ws=[]
 ·exact .inl a
 exact .inr ⟨g',rfl,(e ▸ o).other _ (λc=>j a c.symm) _⟩
end
set_option maxRecDepth 100000 in
theorem ug(a:M6)(l:List Y)(c:Nat)(G:M6)(j:List (Int×Y))(N:Nat)(f:M6)(p:List Int)(cf:Nat)(w:Nb)(h:Strs w a l)(h':Wrs w G j)(hz:Ints w f p)(eN:p.length<=1048576)(cJ:LE l j=true):Calls prog 127 #[LF a l.length c G j.length N,.slice f p.length cf] w λe D=>∃b v d u,e=M3 (LF b l.length v d 0 u)/\OwnD D b (OI (OH p 0 (ME j) (l.map LI))) d []/\(∀g,blk b l.length=some g->w.heap.size<=g)/\Below w.heap.size w D:=by
 obtain⟨⟨eO,dU,dV⟩,o,t⟩:=LK cJ
 have T:∀b d,Below w.heap.size w ((w.alloc b).alloc d):=λb d=>(LO _ _).alloc σ _
 obtain⟨H,aG⟩:∃H,Hid (H=OH p 0 (ME j) (l.map LI)):=⟨_,Z rfl⟩;rw[<-aG.l];go_enter func127,ntmps127;go_wp2_with fail;refine(NG a l c G j N _ (h.I (T _ _)) (h'.I (T _ _)) ω ω (λs C=>by have:=o s C;omega) (λx b=>by have:=AV (t x b);omega)).z ?_;rw[cJ];rintro e w1 ⟨rfl,b⟩;have i:=(T _ _).j (b.z τ);obtain⟨x,q⟩:=UT b;have k:=(LM (w.alloc (.cells #[.slice a l.length c,.slice G j.length N] 26)) #[.slice none 0 0,.slice none 0 0] 26 (w.heap.size+1) σ).I b;have n:=Z k;have d:=Z i;clear k b i;go_wp2_with fail;refine(lc a l c G j N _ (h.I d.l) (h'.I d.l) dU dV).z ?_;rintro e r ⟨g,v,I,u,rfl,m,z,B,k⟩;clear x q;go_wp2;have J:l.length≠0:=ω
 have x:w1.heap.size<=g:=z g (by unfold blk;rw[AG J];rfl);have A:=n.l.lt
 have q:Row r g (l.map Value.string):=by
  rcases m.s with e|⟨b,e,i⟩
  ·exact absurd (CX List.length e) (by rw[BU,AR];omega)
  cases e;exact i
 have eK:=q.lt
 have y:NP j≠[]->I≠g:=λi=>by
  have b:j.length≠0:=λe=>i (by rw[AC e];rfl)
  rcases m.ne with e|e|e
  ·unfold blk at e;rw[AG J]at e;exact absurd e σ
  ·unfold blk at e;rw[AG b]at e;exact absurd e σ
  unfold blk at e;rw[AG J,AG b]at e;exactλi=>e (by rw[i])
 have i:PTs w (r.alloc (.cells #[.slice (Mw g 0) l.length v,.slice (Mw I 0) j.length u] 26)) (w.heap.size+1) r.heap.size g I l.length j.length v u j l :=⟨Below.then (Below.then d.l (AA _) k) (AA _) (LD _ _),(n.l.I k).alloc _,MT _ _ _,q.alloc _,m.p.I (LD _ _)⟩
 have b:=Z i;have HW:=Z t;have cM:=Z o;have cQ:=Z y;have cL:w.heap.size<=g:=AK d.l.size x;have S:w.heap.size+1≠g:=ω
 have cB:r.heap.size≠g:=ω
 have eG:w.heap.size+1<r.heap.size:=by have:=k.size;omega
 clear i m z B k q y t o n d x A;go_loopw [6,7,8] (λi _ _ wr=>∃(k:Nat) (q:List Y),k<=j.length/\i=.int .i64 k/\q.length=l.length/\Hid (∀s∈q,s.size=64)/\Hid (OH p k ((ME j).drop k) (q.map LI)=H)/\PTs w wr (w.heap.size+1) r.heap.size g I l.length j.length v u j q) (λi _ _ _=>j.length-(intOf i).toNat)
 case atStart=>exact⟨0,l,AM _,rfl,rfl,Z (λs C=>by have:=cM.l s C;omega),by show _=_;rw[FD,aG.l],b.l⟩
 case round =>
  clear b;obtain⟨k,q,O,rfl,y,aH,V,i⟩:=hrel
  by_cases M:k<j.length
  ·obtain⟨b,o,P,d,m,cC,cE,X⟩:=i.own.wrs.at M
   obtain⟨rfl,rfl⟩:I=b/\o=0:=by cases m;exact⟨rfl,rfl⟩
   rw[BG]at cC cE;clear m;have x:(P,d)∈j:=by rw[X.l];simp[List.getD,M]
   have n:=AV (HW.l (P,d) x);obtain⟨m,rfl,B⟩:∃m:Nat,P=(m:Int)/\m<l.length:=⟨P.toNat,by have:=n.1;omega,by have:=n.2.1;have:=n.1;simp at *;omega⟩;have aL:d.size=64:=by have:=n.2.2;simp at this;omega
   have cF:=i.rs.cell m (Mz (q.getD m ByteArray.empty)) (by simp[List.getD,y,B]);have Q:(q.getD m ByteArray.empty).size=64:=aH.l _ (by simp[List.getD,y,B]);have dL:=i.rs.froz m (by simp[y,B]);obtain⟨t,R⟩:∃t,Hid (t=q.getD m ByteArray.empty):=⟨_,Z rfl⟩;rw[<-R.l]at cF Q;have x0:=i.rx.y 0;have x1:=i.rx.y 1;have dR:=i.rx.lt;have eM:=i.rs.lt;have aM:=zd p k;have L:=Z i;have HZ:=Z (hz.I i.bel);clear i x n;obtain⟨F,hF⟩:∃F:Nat,F=fate p k:=⟨_,rfl⟩;have cV:F<=64:=by rw[hF];exact zd p k
   obtain⟨A,U⟩:∃A:Int,A=if k<p.length then p.getD k 0 else 0:=⟨_,rfl⟩;obtain⟨E,K⟩:∃E:Int,E=if A<0 then 0 else A:=⟨_,rfl⟩
   have W:(F:Int)=if 64<E then 64 else E:=by
    rw[hF,K,U];unfold fate
    by_cases x:k<p.length
    ·rw[AE x,AE x]
     by_cases n:p.getD k 0<0
     ·rw[AE n,AE n];rfl
     rw[AG n,AG n]
     by_cases z:64<p.getD k 0
     ·rw[AE z,AE z];rfl
     rw[AG z,AG z];omega
    rw[AG x,AG x];rfl
   have HF:=Z hF.symm;have bY:=Z U;have cT:=Z K;have cO:=Z W;clear hF U K W aM;go_upto_if 25 with fail;go_cut [7] from 22 to 29 (λn x=>n=.int .i64 A/\wr=x)
   case first =>
    by_cases K:k<p.length
    ·have e:=bY.l
     rw[AE K]at e;obtain⟨bz,oz,z,rfl,eH,eI,U⟩:=HZ.l.at K;obtain rfl:A=z:=by rw[e];exact U.l.symm
     clear e;have W:(k:Int)<(p.length:Int):=ω
     have eP:¬((p.length:Int)<=(k:Int)):=ω
     go_wp2_with fail;go_meet;exact⟨rfl,rfl⟩
    have e:=bY.l
    rw[AG K]at e;subst e;have W:¬((k:Int)<(p.length:Int)):=ω
    go_wp2_with fail;go_meet;exact⟨rfl,rfl⟩
   case rest =>
   obtain⟨rfl,rfl⟩:=hcut;go_upto_if 31 with fail;go_cut [7] from 30 to 31 (λn x=>n=.int .i64 E/\wr=x)
   case first =>
    have e:=cT.l
    by_cases z:A<0
    ·rw[AE z]at e
     subst e;go_wp2_with fail;go_meet;exact⟨rfl,rfl⟩
    rw[AG z]at e
    subst e;go_wp2_with fail;go_meet;exact⟨rfl,rfl⟩
   case rest =>
   obtain⟨rfl,rfl⟩:=hcut;go_upto_if 33 with fail;go_cut [7] from 32 to 33 (λn x=>n=.int .i64 (F:Int)/\wr=x)
   case first =>
    have e:=cO.l
    by_cases n:64<E
    ·rw[AE n]at e
     obtain rfl:F=64:=ω
     go_wp2_with fail;go_meet;exact⟨rfl,rfl⟩
    rw[AG n]at e
    subst e;go_wp2_with fail;go_meet;exact⟨rfl,rfl⟩
   case rest =>
   obtain⟨rfl,rfl⟩:=hcut;go_wp2_with fail;have n:=L.l.I (LD wr (.cells #[.int .i64 (m:Int),Mz d] 133));have z:=Cx.new wr (.int .i64 (m:Int)) (Mz d) 133;obtain⟨U,x⟩:∃U,U=wr.alloc (.cells #[.int .i64 (m:Int),Mz d] 133):=⟨_,rfl⟩;rw[<-x]at n z⊢;have eL:wr.heap.size<U.heap.size:=by rw[x];simp
   have eJ:g≠wr.heap.size:=ω
   have K:=n.rs.cell m (Mz t) (by rw[R.l];simp[List.getD,y,B]);have aN:=n.rs.froz m (by simp[y,B]);have W:=Z n;have HY:=Z z;have bW:=Z K;have cN:=Z aN;clear n z K aN cF dL x0 x1 cC cE x;refine AN (S:=λD=>D.cell? ⟨r.heap.size,0,none⟩=some (.slice (Mw g 0) l.length v)/\D.cell? ⟨wr.heap.size,0,none⟩=some (.int .i64 (m:Int))/\D.cell? ⟨wr.heap.size,1,none⟩=some (Mz d)) κ ⟨W.l.rx.y 0,HY.l.c0,HY.l.c1⟩ (λn=>?_);refine TZ 0 (Mv r.heap.size 0) rfl n (TZ 1 (.slice (Mw g 0) l.length v) rfl n (TZ 2 (Mv wr.heap.size 0) rfl n (TZ 3 (.int .i64 (m:Int)) rfl n (TZ 4 (Mv wr.heap.size 1) rfl n (TZ 5 (Mz d) rfl n (TZ 6 (.int .i64 (F:Int)) rfl n (TZ 7 (Mz (d.extract 0 F)) rfl n (TZ 8 (Mv r.heap.size 0) rfl n (TZ 9 (.slice (Mw g 0) l.length v) rfl n (TZ 10 (Mv wr.heap.size 0) rfl n (TZ 11 (.int .i64 (m:Int)) rfl n ?_)))))))))))
   simp only[PS];refine TZ 12 (Mv g m) rfl n (TZ 14 (.int .i64 (F:Int)) rfl n ?_);simp only[PS];refine RD 13 rfl (λK x=>?_);have z:=bW.l;go_simp;clear z;refine x.l _ _ n (λ_=>?_);clear x K;refine TZ 15 (Mz (t.extract F t.size)) rfl n (TZ 16 (Mz (d.extract 0 F++t.extract F t.size)) rfl n (TZ 17 (Mv g m) rfl n ?_));simp only[PS];refine RD 18 rfl (λK x=>?_);have z:=bW.l;have D:=cN.l;go_simp;clear z D;refine x.l _ _ ⟨(DC _ _ _ _ (by show g≠r.heap.size;omega)).j n.1,(DC _ _ _ _ (by show g≠wr.heap.size;omega)).j n.2.1,(DC _ _ _ _ (by show g≠wr.heap.size;omega)).j n.2.2⟩ (λ_=>?_);clear x K;refine DN ?_;have z:d.extract 0 F++t.extract F 64=d.extract 0 F++t.extract F 64:=ρ
   have D:=W.l.drew.set m ω (d.extract 0 F++t.extract F 64) cL S cB cQ.l;have K:=Z D
   have cP:Hid (OH p (k+1) ((ME j).drop (k+1)) ((q.set m (d.extract 0 F++t.extract F 64)).map LI)=H):=by
    show _=_;rw[z];have dM:fate p k=F:=HF.l
    have x:(ME j).drop k=((m:Int),LI d)::(ME j).drop (k+1):=by
     rw[YI (ME j) k (0,[]) (by rw[RL];exact M)]
     have dP:(ME j).getD k (0,[])=((m:Int),LI d):=by
      have e:=X.l;simp[ME,List.getD,M]at e⊢;rw[<-e];exact⟨rfl,rfl⟩
     rw[dP]
    rw[<-V.l,x,OH,BM,dM,JY,VJ F d t ω aL Q]
    congr 2
    rw[R.l];simp[List.getD,y,B]
   have cS:Hid (∀s∈q.set m (d.extract 0 F++t.extract F 64),s.size=64):=λs C=>by
    rw[z]at C;rcases FG C with x|x
    ·exact aH.l s x
    rw[x];exact VM F d t ω aL Q
   clear D n z;go_wp2;go_roundw
   case rel=>exact⟨k+1,_,ω,ν,by simp[y],cS,cP,K.l⟩
   case measure=>simp[intOf];omega
  have b:Hid (q=OI H):=by
   have:=V.l;rw[ED (by rw[RL];omega)]at this;show _=_;rw[<-this];show q=(q.map LI).map strOfNums;rw[IE];exact(JR (λs=>TM s) q).symm
  rw[b.l]at i;have L:=Z i;have A:=i.rx.y 0;have x:=i.rx.y 1;have z:=i.rx.A 1;have n:=i.rr.y 0;have o:=i.rr.y 1;obtain⟨s,t⟩:=i.rr.z2;have dR:=i.rx.lt;have d:=i.rr.lt;have m:r.heap.size≠w.heap.size+1:=ω
  clear i;go_wp2;have i:wr.heap.size≠w.heap.size+1:=ω
  refine AJ (v:=LF (Mw g 0) l.length v (Mw wr.heap.size 0) 0 0) (by simp[results,results127,go_sem,n,o,m,i,d]) rfl ⟨_,_,_,_,rfl,⟨.inr ⟨g,rfl,?_⟩,.inl rfl,.inr (.inl rfl)⟩,λk O=>?_,?_⟩
  ·exact((((L.l.rs.other _ (by show r.heap.size≠g;exact cB) _).other _ (by show w.heap.size+1≠g;exact S) _).other _ (by show w.heap.size+1≠g;exact S) _)).alloc _
  ·unfold blk at O
   rw[AG J]at O
   cases O
   exact cL
  exact(((L.l.bel.setCell (by show w.heap.size<=r.heap.size;omega) _).setCell (by show w.heap.size<=w.heap.size+1;omega) _).setCell (by show w.heap.size<=w.heap.size+1;omega) _).alloc τ _
end
theorem XV(a:M6)(b:List Y)(c:Nat)(f:M6)(d:List (Int×Y))(k:Nat)(v:Nc)(w:Nb)(h:Strs w a b)(p:Wrs w f d)(q:b.length<=1048576)(m:d.length<=1048576)(r:∀s∈b,s.size<=1048576)(o:∀x∈d,x.2.size<=1048576)(n:LE b d=false):Calls prog 124 #[LF a b.length c f d.length k,v] w λe g=>e=M3 (LF none 0 0 none 0 0)/\Below w.heap.size w g:=by
 have i:∀g j,Below w.heap.size w ((w.alloc g).alloc j):=λg j=>(LO _ _).alloc σ _
 go_enter func124,ntmps124;go_wp2_with fail;refine(NF a b c f d k _ (h.I (i _ _)) (p.I (i _ _)) q m r o).z ?_;rw[n];rintro e y ⟨rfl,j⟩;have l:=Z ((i _ _).j (j.z τ));have g:=(LM (w.alloc (.cells #[.slice a b.length c,.slice f d.length k] 26)) #[.slice none 0 0,.slice none 0 0] 26 (w.heap.size+1) σ).I j;have s:=g.y 0;have t:=g.y 1;obtain⟨u,x⟩:=g.z2;clear g j;go_wp2;exact AJ (v:=LF none 0 0 none 0 0) (by simp[results,results124,go_sem,s,t]) rfl ⟨rfl,(l.l.setCell (by show w.heap.size<=w.heap.size+1;omega) _).setCell (by show w.heap.size<=w.heap.size+1;omega) _⟩
theorem XW(a:M6)(b:List Y)(c:Nat)(f:M6)(d:List (Int×Y))(k:Nat)(v:Nc)(w:Nb)(h:Strs w a b)(p:Wrs w f d)(q:b.length<=1048576)(m:d.length<=1048576)(r:∀s∈b,s.size<=1048576)(o:∀x∈d,x.2.size<=1048576)(n:LE b d=false):Calls prog 127 #[LF a b.length c f d.length k,v] w λe g=>e=M3 (LF none 0 0 none 0 0)/\Below w.heap.size w g:=by
 have i:∀g j,Below w.heap.size w ((w.alloc g).alloc j):=λg j=>(LO _ _).alloc σ _
 go_enter func127,ntmps127;go_wp2_with fail;refine(NG a b c f d k _ (h.I (i _ _)) (p.I (i _ _)) q m r o).z ?_;rw[n];rintro e y ⟨rfl,j⟩;have l:=Z ((i _ _).j (j.z τ));have g:=(LM (w.alloc (.cells #[.slice a b.length c,.slice f d.length k] 26)) #[.slice none 0 0,.slice none 0 0] 26 (w.heap.size+1) σ).I j;have s:=g.y 0;have t:=g.y 1;obtain⟨u,x⟩:=g.z2;clear g j;go_wp2;exact AJ (v:=LF none 0 0 none 0 0) (by simp[results,results127,go_sem,s,t]) rfl ⟨rfl,(l.l.setCell (by show w.heap.size<=w.heap.size+1;omega) _).setCell (by show w.heap.size<=w.heap.size+1;omega) _⟩
def MN(c:List Int)(a:List Y)(b:List (Int×Y)):List Y:=if LE a b=true then OI (OH c 0 (ME b) (a.map LI)) else []
theorem WP(a:M6)(b:List Y)(c:Nat)(l:M6)(d:List (Int×Y))(q:Nat)(f:M6)(i:List Int)(u:Nat)(w:Nb)(h:Strs w a b)(v:Wrs w l d)(E:Ints w f i)(z:i.length<=1048576)(B:b.length<=1048576)(y:d.length<=1048576)(D:∀s∈b,s.size<=1048576)(A:∀x∈d,x.2.size<=1048576):Calls prog 124 #[LF a b.length c l d.length q,.slice f i.length u] w λe o=>∃k r p j,e=M3 (LF k (MN i b d).length r p 0 j)/\OwnS o k ((MN i b d).map Value.string)/\(∀g,blk k (MN i b d).length=some g->w.heap.size<=g)/\Below w.heap.size w o:=by
 by_cases m:LE b d=true
 ·have n:MN i b d=OI (OH i 0 (ME d) (b.map LI)):=by simp[MN,m]
  have x:(MN i b d).length=b.length:=by rw[n];simp[OI,MR]
  refine(uf a b c l d q f i u w h v E z m).z ?_;rintro e o ⟨k,r,p,j,rfl,C,t,s⟩;rw[x];exact⟨k,r,p,j,rfl,by rw[n];exact C.s,t,s⟩
 have n:MN i b d=[]:=by simp[MN,m]
 rw[n];refine(XV a b c l d q _ w h v B y D A (by simpa using m)).z ?_;rintro e o ⟨rfl,s⟩;exact⟨none,0,none,0,rfl,.inl rfl,(λg t=>by cases t),s⟩
theorem WQ(a:M6)(b:List Y)(c:Nat)(l:M6)(d:List (Int×Y))(q:Nat)(f:M6)(i:List Int)(u:Nat)(w:Nb)(h:Strs w a b)(v:Wrs w l d)(E:Ints w f i)(z:i.length<=1048576)(B:b.length<=1048576)(y:d.length<=1048576)(D:∀s∈b,s.size<=1048576)(A:∀x∈d,x.2.size<=1048576):Calls prog 127 #[LF a b.length c l d.length q,.slice f i.length u] w λe o=>∃k r p j,e=M3 (LF k (MN i b d).length r p 0 j)/\OwnS o k ((MN i b d).map Value.string)/\(∀g,blk k (MN i b d).length=some g->w.heap.size<=g)/\Below w.heap.size w o:=by
 by_cases m:LE b d=true
 ·have n:MN i b d=OI (OH i 0 (ME d) (b.map LI)):=by simp[MN,m]
  have x:(MN i b d).length=b.length:=by rw[n];simp[OI,MR]
  refine(ug a b c l d q f i u w h v E z m).z ?_;rintro e o ⟨k,r,p,j,rfl,C,t,s⟩;rw[x];exact⟨k,r,p,j,rfl,by rw[n];exact C.s,t,s⟩
 have n:MN i b d=[]:=by simp[MN,m]
 rw[n];refine(XW a b c l d q _ w h v B y D A (by simpa using m)).z ?_;rintro e o ⟨rfl,s⟩;exact⟨none,0,none,0,rfl,.inl rfl,(λg t=>by cases t),s⟩
theorem VH(W S L T H F R U O:Int)(a:M6)(d:List Pr)(c:Nat)(w:Nb)(h:Prs w a d)(p:d.length<=1048576)(q:∀x∈d,x.1.size<=1048576/\x.2.size<=1048576):Calls prog 131 #[NK W S L T H F R U O a d.length c] w λx f=>UH w f x (QX W S L T H F R U O d):=by
 have g:=Z (λf l=>km W S L T H F R U O a d c f l p q);have m:=Z h;clear h;obtain⟨D,i⟩:∃D,Hid (D=QX W S L T H F R U O d):=⟨_,Z rfl⟩;rw[<-i.l];unfold NK at g⊢;go_enter func131,ntmps131;go_upto_region 1 with fail;generalize b:w.alloc _=v;obtain⟨j,n,o⟩:=LY b;clear b;generalize b:v.alloc _=r;obtain⟨k,s,e⟩:=LY b;clear b;rw[n]at e;have b:StB w r (sJ W S L T H F R U O (.slice a d.length c)) (λ_=>True):=⟨j.j (k.z j.size),(o.I k).q,e.q,LQ (λ_=>trivial)⟩;have t:w.heap.size+1<r.heap.size:=e.q.lt;clear j k o e n s;refine BE ?_;refine AS rfl 33 _ rfl w.heap.size 0 rfl _ _ b.r1.range underlying33 rfl QI ?_;simp only[PS];go_wp2_with fail;refine(g.l _ (m.l.I b.e)).z ?_;rintro x B ⟨rfl,e⟩;replace b:=b.I e;clear e t g
 cases hok:OB W S L T H F R U O d with
 | false =>
  obtain rfl:D=LX 1:=by rw[i.l];unfold QX;rw[AG (by rw[hok];simp)]
  go_upto_region 2 with fail;refine b.noR 1 _ _ rfl γ rfl rfl rfl rfl (λy e g=>?_)
  try simp only[PS]
  clear b
  try go_wp2
  refine UF 2 results131 _ ?_ e ?_ g.l<;>rfl
 | true =>
  have e:=mq hok;have j:D=PM W S L T H F d:=by rw[i.l];unfold QX;rw[AE hok]
  have g:=Z (λf l=>vC W S L T H F R U O a d c f l p q e);rw[<-j]at g;unfold NK at g;clear hok j e;go_upto_region 3 with fail;refine BE ?_;refine AS rfl 33 _ rfl w.heap.size 0 rfl _ _ b.r1.range underlying33 rfl QI ?_;simp only[PS];go_wp2_with fail;refine(g.l _ (m.l.I b.e)).z ?_;rintro x z ⟨j,n,l,o,rfl,s,own,t,u,e⟩;have A:=b.r2.lt;replace b:=b.I e;clear e g;unfold NZ
  try simp only[PS]
  refine‹∀(a:Act) (w:Nb),wpList _ _ _ _ a w->_› _ _ ?_
  refine BI rfl 99 _ _ rfl (w.heap.size+1) 0 (dK D.C D.W D.S D.L D.T D.H D.F D.R D.U D.O (.slice j D.rs.length n) (.slice l D.ops.length o)) rfl rfl (b.r2.there rfl) UB κ ?_
  try simp only[PS]
  obtain⟨e,f⟩:=b.fin D j n l o s own (λg k=>by have:=t g k;omega) (λg k=>by have:=u g k;omega);have g:=Z f;clear f;generalize f:z.setCells _ _ _=y at e g⊢;clear f b
  try go_wp2
  refine UF 2 results131 _ ?_ e ?_ g.l<;>rfl
theorem WO(W S L T H F R U O:Int)(a:M6)(d:List Pr)(c:Nat)(w:Nb)(h:Prs w a d)(l:d.length<=c)(m:d.length<=1048576)(p:∀x∈d,x.1.size<=1048576/\x.2.size<=1048576)(i:XI W S L T H F d):Calls prog 102 #[NK W S L T H F R U O a d.length c] w λx f=>∃j k b e,x=M3 (NZ (PM W S L T H F d) j k b e)/\(PM W S L T H F d).ops.length<=e/\((j=a/\k=c/\(PM W S L T H F d).rs=d)\/(PM W S L T H F d).rs=[])/\OwnS f b (OO (PM W S L T H F d).ops)/\(∀g,blk b (PM W S L T H F d).ops.length=some g->w.heap.size<=g)/\Below w.heap.size w f:=by
 have q:=i.1;unfold PM
 cases hfit:WG S T F with
 | false =>
  refine(yN W S L T H F R U O a d c w i (JE (by unfold WG at hfit;exact hfit))).z ?_;rintro x f ⟨rfl,j⟩;exact⟨_,_,_,_,rfl,AA _,.inr rfl,.inl rfl,(λg k=>by cases k),j⟩
 | true =>
  obtain⟨n,rfl⟩:∃n:Nat,W=(n:Int):=⟨W.toNat,ω⟩;refine(Ik S L T H F R U O n (56-n) a d c w h l m p ω ω ω i (AV (by unfold WG at hfit;exact hfit))).z ?_;rintro x f ⟨b,e,rfl,g,o,k,j⟩;exact⟨_,_,_,_,rfl,g,.inl ⟨rfl,rfl,rfl⟩,o,k,j⟩
theorem VG(W S L T H F R U O:Int)(a:M6)(d:List Pr)(c:Nat)(w:Nb)(h:Prs w a d)(N:d.length<=c)(o:d.length<=1048576)(A:∀x∈d,x.1.size<=1048576/\x.2.size<=1048576):Calls prog 68 #[NK W S L T H F R U O a d.length c] w λx f=>ee w f x (QX W S L T H F R U O d):=by
 have g:=Z (λf k=>kn W S L T H F R U O a d c f k N o A);have s:=Z h;clear h;obtain⟨D,l⟩:∃D,Hid (D=QX W S L T H F R U O d):=⟨_,Z rfl⟩;rw[<-l.l];unfold NK at g⊢;go_enter func68,ntmps68;go_upto_region 1 with fail;generalize b:w.alloc _=P;obtain⟨i,m,n⟩:=LY b;clear b;generalize b:P.alloc _=C;obtain⟨j,p,e⟩:=LY b;clear b;rw[m]at e;have b:StB w C (sJ W S L T H F R U O (.slice a d.length c)) (λ_=>True):=⟨i.j (j.z i.size),(n.I j).q,e.q,LQ (λ_=>trivial)⟩;have q:w.heap.size+1<C.heap.size:=e.q.lt;clear i j n e m p;refine BE ?_;refine AS rfl 33 _ rfl w.heap.size 0 rfl _ _ b.r1.range underlying33 rfl QI ?_;simp only[PS];go_wp2_with fail;refine(g.l _ (s.l.I b.e)).z ?_;rintro x r ⟨rfl,e⟩;replace b:=b.I e;clear e q g
 cases hok:OB W S L T H F R U O d with
 | false =>
  obtain rfl:D=LX 1:=by rw[l.l];unfold QX;rw[AG (by rw[hok];simp)]
  go_upto_region 2 with fail;refine b.noR 1 _ _ rfl γ rfl rfl rfl rfl (λy e g=>?_)
  try simp only[PS]
  clear b
  try go_wp2
  refine VO 2 results68 _ ?_ e ?_ g.l<;>rfl
 | true =>
  have e:=mq hok;have g:D=PM W S L T H F d:=by rw[l.l];unfold QX;rw[AE hok]
  have i:=Z (λj n f k m=>WO W S L T H F R U O j d n f k m o A e);rw[<-g]at i;unfold NK at i;clear hok g e;have V:=b.r2.lt;have e:=b.r1.y 9;have g:=b.r1.lt;go_wp2_with fail;clear e g;have g:=ZF a d c r (s.l.I b.e) o;unfold MH at g;refine g.z ?_;rintro x Q ⟨m,n,rfl,t,j,u,e⟩;unfold MH;have f:=LS (lo:=r.heap.size) j SM u;replace b:=b.I e;clear e g j;have e:=b.r1.y 9;have j:=b.r1.A 9;have g:=b.r1.lt;go_upto_region 4 with fail;clear e j g;replace b:=b.set 9 σ (.slice m d.length n);replace f:=f.J (QC (BY Q (some w.heap.size)) 9 (.slice m d.length n)) (λg e=>by cases e;omega);generalize e:World.setCell _ _ _=v6 at b f⊢;clear e;refine BE ?_;refine AS rfl 33 _ rfl w.heap.size 0 rfl _ _ b.r1.range underlying33 rfl QI ?_;simp only[PS]
  go_wp2_with fail;refine(i.l m n _ f.q.prs t).z ?_;rintro x E ⟨j,q,p,B,rfl,J,K,v,z,e⟩;have X:=b.r2.lt
  have I:=λg k=>ZK (g:=g) f.q k
  replace b:=b.I e;replace f:=f.I e;clear e i;unfold NZ
  obtain⟨G,own,M⟩:D.rs.length<=q/\OwnDn E D.rs D.ops j p/\(∀g,blk j D.rs.length=some g->r.heap.size<=g):=by
   rcases K with ⟨rfl,rfl,e⟩|e
   ·rw[e]
    exact⟨t,⟨f.q,v,ZJ I z⟩,u⟩
   rw[e]
   exact⟨AM _,⟨.inl rfl,v,.inl rfl⟩,λg k=>by cases k⟩
  try simp only[PS]
  refine‹∀(a:Act) (w:Nb),wpList _ _ _ _ a w->_› _ _ ?_
  refine BI rfl 99 _ _ rfl (w.heap.size+1) 0 (dK D.C D.W D.S D.L D.T D.H D.F D.R D.U D.O (.slice j D.rs.length q) (.slice p D.ops.length B)) rfl rfl (b.r2.there rfl) UB κ ?_
  try simp only[PS]
  obtain⟨e,i⟩:=b.fin D j q p B G own (λg k=>by have:=M g k;omega) (λg k=>by have:=z g k;omega);have g:=Z i;clear i;generalize i:E.setCells _ _ _=y at e g⊢;clear i b
  try go_wp2
  refine VO 2 results68 _ ?_ e ?_ g.l J<;>rfl
end
end Go.Proofs.YtmlejnbjclkdjaaGreatDoor
namespace Go.Proofs.YtmlejnbjclkdjaaGreatDoor.nw
open _root_.Go.Proofs.Tryz
open Go.RowKit
theorem nw_i_yes(n d:Int)(w:Nb)(r:8<=n/\n<=200)(P:1<=d/\d<=8):Calls prog 19 #[.int .i64 n,.int .i64 d] w λe a=>NwPost w a e d (newSS n) 1:=by
 have N:decide (1<=d/\d<=8)=true:=AL P;have Q:decide (8<=n/\n<=200)=true:=AL r;obtain⟨m,i⟩:∃m:Nat,(newSS n).length=m:=⟨_,rfl⟩;have S:m≠0:=by rw[<-i];unfold newSS;rw[AE r];simp;omega
 have cH:¬(m:Int)=0:=ω
 have f:=Z i;go_enter func19,ntmps19
 go_wp2_with (first|(go_at_call 52;refine(QF _ _).z ?_;rw[Q];rintro e j ⟨rfl,b⟩;rw[b];clear b j)|(go_at_call 53;refine(SZ _ _).z ?_;rw[N];rintro e j ⟨rfl,b⟩;rw[b];clear b j)|(go_at_call 54;refine(new_i_any n _).z ?_;rintro e s ⟨a,c,l,q,rfl,k,h,g⟩;rw[i]at h⊢;have p:=Z k;have o:=Z h;have K:=Z (((AB w.heap.size w).alloc (AA _) _).j (g.z σ));have R:=(MT w _ _).I g;obtain⟨A,B,C,D,E,F,G,H,I,J,t,u,v,x,y,z,L⟩:=c16 R;obtain⟨bJ,bQ,bR,bT,bU,bV,bW,bY,bZ,b7,T,U,V,W,X,bC⟩:=f16 R;clear R;clear g k h))
 have M:=p.l.lt m (λb=>ig (by rw[f.l];exact b))
 have j:∀g,a=Mw g 0->(newSS n).map Value.string≠[]->w.heap.size<g:=λg b h=>by
  have:=o.l g (by subst b;exact NT _ _ _ S);simp at this;omega
 refine AJ (v:=worldV d a m c l q (Mw s.heap.size 0) 1 1) (by simp[results,results19,go_sem,worldV,L,A,B,C,D,E,F,G,H,I,J,t,u,v,x,y,z]) rfl ⟨a,c,l,q,_,1,by rw[f.l],?_,?_,?_,?_,?_⟩
 ·refine OwnS.I ?_ ((AB _ _).alloc (AA _) _)
  iterate 16(refine OwnS.setw ?_ _ (λg b h=>by have:=j g b h;show w.heap.size≠g;omega) _)
  exact p.l
 ·exact .inr ⟨s.heap.size,rfl,row_atw σ⟩
 ·intro g b
  rw[f.l]at b;have O:=o.l g b;have R:=M g b;simp at O
  exact⟨ω,λk h=>by rw[NT _ _ _ ω]at h;cases h;omega⟩
 ·intro g b
  rw[NT _ _ _ ω]at b;cases b;omega
 refine Below.alloc ?_ τ _
 iterate 16(refine II ?_ (by show w.heap.size<=w.heap.size;omega) _)
 exact K.l
end Go.Proofs.YtmlejnbjclkdjaaGreatDoor.nw
