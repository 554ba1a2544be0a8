import Derived.Test.YtkdedmclofhndaaGreatDoorPrG41
import Derived.Test.YtkdedmclofhndaaGreatDoorPrFate
set_option maxHeartbeats 16000000
set_option maxRecDepth 8000
set_option linter.all false
namespace Go.Proofs.YtkdedmclofhndaaGreatDoor
open Tryz
open Go.RowKit
variable {ws:List (Int×yZ)}{ss:List yZ}{N g:Nat}{F:Nat->Prop}{p:xA}{P:Program}{w:xV}
def NU(ss:List yZ)(ws:List (Int×yZ))(a:List (Bool×Int×yZ))(z:Int):List yZ×List (Int×yZ):=if LO ss ws=true then OD (a.take (QO z a.length)) (ss,ws) else ([],[])
theorem Jq(a:xA)(ss:List yZ)(c:Nat)(d:xA)(ws:List (Int×yZ))(k:Nat)(f:xA)(b:List (Bool×Int×yZ))(l:Nat)(z:Int)(w:xV)(h:Strs w a ss)(o:Wrs w d ws)(C:Ops w f b)(q:b.length<=l)(t:b.length<=1048576)(v:∀x∈b,x.2.2.size<=1048576)(A:ss.length<=1048576)(r:ws.length<=1048576)(B:∀s∈ss,s.size<=1048576)(u:∀x∈ws,x.2.size<=1048576):Calls prog 212 #[LM a ss.length c d ws.length k,yI f b.length l,Z z] w λe n=>∃i y j m,e=yT (LM i (NU ss ws b z).1.length y j (NU ss ws b z).2.length m)/\OwnD n i (NU ss ws b z).1 j (NU ss ws b z).2/\(∀g,blk i (NU ss ws b z).1.length=some g->w.heap.size<=g)/\(∀g,blk j (NU ss ws b z).2.length=some g->w.heap.size<=g)/\yX w n:=by
 by_cases i:LO ss ws=true
 ·have j:NU ss ws b z=OD (b.take (QO z b.length)) (ss,ws):=by simp[NU,i]
  rw[j];exact Hv a ss c d ws k f b l z w h o C q t v i
 have j:NU ss ws b z=([],[]):=by simp[NU,i]
 rw[j];refine(Ly a ss c d ws k _ _ w h o A r B u (by simpa using i)).J ?_;rintro e n ⟨rfl,s⟩;exact⟨none,0,none,0,rfl,⟨.inl rfl,.inl rfl,.inl rfl⟩,(λg m=>by cases m),(λg m=>by cases m),s⟩
section
def RF(zs:List Int):Nat->List (Int×List Int)->List (List Int)->List (List Int)
 | _,[],ps=>ps
 | i,x::r,ps=>RF zs (i+1) r (ps.set x.1.toNat (Qk (yAP zs i) x.2 (ps.getD x.1.toNat [])))
theorem ZX(zs:List Int):∀(hs:List (Int×List Int)) (i:Nat) (ps:List (List Int)),(RF zs i hs ps).length=ps.length
 | [],_,_=>rfl
 | x::r,i,ps=>by rw[RF,ZX zs r];simp
structure PLs(W w:xV)(R X g:Nat)(xs:List qD)(a2:xA)(hs:List (Int×List Int))(ps:List (List Int)):Prop where
 bel:yX W w
 rr:Row w R [yI none 0 0,yI none 0 0]
 rx:Row w X xs
 pr:PR w g ps
 own:OwnS w a2 (Ot hs)
section
variable {W w w':xV} {R X g:Nat} {xs:List qD} {a2:xA} {hs:List (Int×List Int)} {ps ps':List (List Int)}
theorem PLs.I(h:PLs W w R X g xs a2 hs ps)(a:yX w w'):PLs W w' R X g xs a2 hs ps :=⟨h.bel.E (a.J h.bel.size),h.rr.I a,h.rx.I a,h.pr.I a,h.own.I a⟩
theorem PLs.drew(h:PLs W w R X g xs a2 hs ps):PLs W w.drew R X g xs a2 hs ps:=h.I ((AB _ _).drew)
theorem PLs.V(h:PLs W w R X g xs a2 hs ps)(a:w.grownBy w' (some g))(n:PR w' g ps')(d:W.heap.size<=g)(f:R≠g)(i:X≠g)(j:∀b,a2=zY b 0->Ot hs≠[]->b≠g):PLs W w' R X g xs a2 hs ps' :=⟨h.bel.E (MF a h.bel.size (λk m=>by cases m;exact d)),h.rr.V a (λe=>f (by injection e)),h.rx.V a (λe=>i (by injection e)),n,h.own.V a (λb l c e=>j b l c (by injection e))⟩
end
set_option maxRecDepth 100000 in
theorem Ab(a:xA)(ss:List yZ)(c:Nat)(z:xA)(ws:List (Int×yZ))(I:Nat)(f:xA)(l:List Int)(X:Nat)(w:xV)(h:Strs w a ss)(h':Wrs w z ws)(hz:Ints w f l)(dH:l.length<=1048576)(cJ:LO ss ws=true):Calls prog 213 #[LM a ss.length c z ws.length I,yI f l.length X] w λe E=>∃r J A H,e=yT (LM r ss.length J A 0 H)/\OwnD E r (O4 (RF l 0 (LP ws) (ss.map LF))) A []/\(∀g,blk r ss.length=some g->w.heap.size<=g)/\yX w E:=by
 obtain⟨⟨eG,V,dL⟩,bY,t⟩:=OV cJ
 have S:∀b d,yX w ((w.alloc b).alloc d):=λb d=>(LG _ _).alloc σ _
 obtain⟨q,aJ⟩:∃q,Hid (q=RF l 0 (LP ws) (ss.map LF)):=⟨_,Y rfl⟩;rw[<-aJ.j];go_enter func213,ntmps213;go_wp2_with fail;refine(WA a ss c z ws I _ (h.I (S _ _)) (h'.I (S _ _)) ω ω (λs k=>by have:=bY s k;omega) (λx b=>by have:=AW (t x b);omega)).J ?_;rw[cJ];rintro e w1 ⟨rfl,d⟩;have n:=(S _ _).E (d.J τ);obtain⟨B,o⟩:=pq d;have j:=(NZ (w.alloc (.cells #[yI a ss.length c,yI z ws.length I] 32)) #[yI none 0 0,yI none 0 0] 32 (w.heap.size+1) σ).I d;have m:=Y j;have i:=Y n;clear j d n;go_wp2_with fail;refine(gw a ss c z ws I _ (h.I i.j) (h'.I i.j) V dL (λs k=>by have:=bY s k;omega) (λx b=>by have:=AW (t x b);omega)).J ?_;rintro e d ⟨g,v,rfl,K,s,L,j⟩;clear B o;have o:=Y (m.j.I j);have R:Hid (w.heap.size+1+1<=g):=by have:=m.j.lt;show _<=_;omega
 have u:=Y (Below.then i.j (AA _) j)
 obtain⟨n,C,hv,G,B⟩:∃n C,v=yI n ws.length C/\OwnS d n (Ot (LP ws))/\∀D,n=zY D 0->ws≠[]->D≠g/\D<d.heap.size:=by
  rcases MC s with ⟨e,O⟩|⟨D,k,e,h1,M,Q⟩
  ·have:ws=[]:=AD O
   subst this;exact⟨none,0,e,.inl rfl,λ_ _ y=>absurd rfl y⟩
  exact⟨_,k,e,.inr ⟨D,rfl,Q⟩,λT y _=>by cases y;exact⟨ω,M⟩⟩
 subst hv;have k:=Y K;have y:=Y G;clear K s G j i m;go_wp2
 have i:∀x∈ws,x.2.size=64:=λx b=>by have:=AW (t x b);omega
 have aI:=Y (jy i)
 have bJ:∀b,n=zY b 0->Ot (LP ws)≠[]->b≠g:=λb j m=>(B b j (λe=>m (by rw[e];rfl))).1
 have eB:g<d.heap.size:=k.j.lt;have cW:w.heap.size+1≠g:=by have:=R.j;omega
 have dR:w.heap.size<=g:=by have:=R.j;omega
 have j:PLs w (d.alloc (.cells #[yI (zY g 0) ss.length ss.length,yI n ws.length C] 110)) (w.heap.size+1) d.heap.size g [yI (zY g 0) ss.length ss.length,yI n ws.length C] n (LP ws) (ss.map LF) :=⟨Below.then u.j (AA _) (Oq _ _),o.j.alloc _,LS _ _ _,k.j.I (Oq _ _),y.j.I (Oq _ _)⟩
 have m:=Y j;have HW:=Y t;clear j k y u o B t i;go_loopw [6,7,17] (λ_ _ i wr=>∃(k:Nat) (s:List (List Int)),k<=ws.length/\i=Z k/\s.length=ss.length/\Hid (RF l k ((LP ws).drop k) s=q)/\PLs w wr (w.heap.size+1) d.heap.size g [yI (zY g 0) ss.length ss.length,yI n ws.length C] n (LP ws) s) (λ_ _ i _=>ws.length-(intOf i).toNat)
 case atStart=>exact⟨0,_,AL _,rfl,σ,by show _=_;rw[FH,aJ.j],m.j⟩
 case round =>
  clear m;obtain⟨k,s,hk,rfl,W,O,j⟩:=hrel;have cN:q.length=ss.length:=by rw[<-O.j,ZX,W]
  by_cases U:k<ws.length
  ·obtain⟨b,o,G,x,rfl,eF,K,HX⟩:=(j.own.hld aI.j).at (k:=k) (by rw[QL];exact U)
   have aP:Hid ((G,x)∈LP ws):=by show _∈_;rw[HX.j];simp[List.getD,QL,U]
   have cP:x.length=64:=aI.j (G,x) aP.j
   obtain⟨m,rfl,hm⟩:∃m:Nat,G=(m:Int)/\m<ss.length:=by
    obtain⟨y,t,e⟩:=DT.1 aP.j;have B:=AW (HW.j y t);have u:y.1=G:=by rw[EJ]at e;exact e.1
    exact⟨G.toNat,ω,ω⟩
   have t:(Z (m:Int)::x.map (Value.int .u8)).length=65:=by simp[cP]
   have Q:Hid ((prog.info? 145).map (·.size)=some (Z (m:Int)::x.map (Value.int .u8)).length):=by rw[t];show _=_;kernel_rfl
   have cV:=Y t.symm;have eI:=Qo;have y:=Y j;clear t j
   go_wp2_with (first|(with_reducible refine YO 145 _ rfl ?_;refine AZ rfl 145 _ rfl b (o+k*65) rfl (Z (m:Int)::x.map (Value.int .u8)) _ K underlying145 rfl Q.j ?_)|(with_reducible refine WJ 145 _ _ rfl ?_;refine Ox rfl 145 _ _ rfl (Z (m:Int)::x.map (Value.int .u8)) (Qg (m:Int) x) rfl rfl _ _ (by rw[<-cV.j];kernel_rfl) Q.j ?_;intro wx t B dQ))
   have u:=Y (y.j.I B);have T:=t.range;have aK:=Y t;have dF:wr.heap.size≠g:=by have:=y.j.pr.lt;omega
   have cC:=mQ l k;obtain⟨F,M⟩:∃F,Hid (F=yAP l k):=⟨_,Y rfl⟩;rw[<-M.j]at cC;have dU:=Y (((hz.I u.j.bel)));clear t K B dQ T;refine AN (S:=λE=>E.rangeAt wr.heap.size 0 (Z (m:Int)::x.map (Value.int .u8))) κ aK.j.drew.range (λB=>?_);refine TK 0 (.agg (Z (m:Int)::x.map (Value.int .u8)).toArray) rfl (yieldsIf_load_mid ρ _ _ rfl wr.heap.size 0 rfl (Z (m:Int)::x.map (Value.int .u8)) _ (λw t=>t) underlying145 rfl Q.j) B ?_;simp only[Act.put,CJ];refine TK 1 (yI f l.length X) rfl (AS ⟨ρ,λw t=>γ⟩) B ?_;simp only[Act.put];refine TK 2 (Z (k:Int)) rfl (AS ⟨ρ,λw t=>γ⟩) B ?_;simp only[Act.put];refine RD 3 rfl (λK E=>?_);refine LI ρ _ _ γ (Mu f l X k _ (hz.I u.j.drew.bel) dH ω) ?_
   rw[<-M.j];rintro e w3 ⟨rfl,rfl⟩;refine⟨_,rfl,?_⟩;refine E.j _ _ B (λ_=>?_);clear E K;simp only[Act.put];refine RD 4 rfl (λK E=>?_);refine LI ρ _ _ γ (Wu d.heap.size g ss.length ss.length (yI none 0 0) s m x F _ (u.j.drew.rx.y 0) ω u.j.drew.pr W hm V (AA _) cP cC) ?_;rintro e w4 ⟨rfl,aR,T⟩;refine⟨_,rfl,?_⟩;refine E.j _ _ (aK.j.drew.V T (λe=>dF (by injection e))).range (λ_=>?_);clear E K;simp only[Act.put];refine DN ?_;have E:=u.j.drew.V T aR dR cW ω bJ;have K:=Y E
   have cS:Hid (RF l (k+1) ((LP ws).drop (k+1)) (s.set m (Qk F x (s.getD m [])))=q):=by
    show _=_;rw[<-O.j,YG (LP ws) k (0,[]) (by rw[QL];exact U),<-HX.j,RF,DS,M.j]
   clear E aR T B;go_wp2;go_roundw
   case rel=>exact⟨k+1,_,ω,ν,by simp[W],cS,K.j⟩
   case measure=>simp[intOf];omega
  have Q:Hid (s=q):=by
   have:=O.j;rw[DY (by rw[QL];omega)]at this;exact this
  rw[Q.j]at j;have y:=Y j;have q0:=j.rx.y 0;have B:=j.rx.y 1;have f1:=j.rx.A 1;clear j;go_wp2_with fail;have cX:d.heap.size≠g:=ω
  have eE:w.heap.size+1<d.heap.size:=by have:=R.j;omega
  have m:=y.j.pr.other (yA d.heap.size 1) cX (yI none 0 0);have o:=y.j.rr.other (yA d.heap.size 1) (by show d.heap.size≠w.heap.size+1;omega) (yI none 0 0);have u:=y.j.bel.setCell (p:=(yA d.heap.size 1)) (by show w.heap.size<=d.heap.size;omega) (yI none 0 0);refine(Rl (zY g 0) q ss.length ss.length none [] 0 0 cN rfl _ m.plt (.inl rfl) V ω m.len (λp hp=>by simp at hp)).J ?_;rintro e w5 ⟨r,J,A,H,rfl,K,G,dB,t⟩;have j:=o.I t;have r0:=j.y 0;have r1:=j.y 1;obtain⟨dV,dZ⟩:=j.z2;have T:=Y (Below.then u (AA _) t);have cY:=u.size;have cT:=Y K
  have E:Hid (∀g,blk r ss.length=some g->w.heap.size+1<g):=λg L=>by
   have h1:=G g L;have M:=o.lt;omega
  clear K G dB t j m o u q0 B f1 cY;go_wp2;have K:(O4 q).length=ss.length:=by simp[O4,cN]
  refine AE (v:=LM r ss.length J A 0 H) (by simp[results,results213,go_sem,r0,r1]) rfl ⟨r,J,A,H,rfl,⟨?_,.inl rfl,.inr (.inl rfl)⟩,λg L=>by have:=E.j g L;omega,?_⟩
  ·have t:∀(o:xV) (u:qD) (i:Nat),OwnS o r ((O4 q).map Value.string)->OwnS (o.setCell (yA (w.heap.size+1) i) u) r ((O4 q).map Value.string):=λo u i m=>by
    rcases m with m|⟨j,B,G⟩
    ·exact .inl m
    refine .inr ⟨j,B,G.other _ (λe=>?_) _⟩
    have:=E.j j (by rw[B];exact ML j 0 _ ω);have M:w.heap.size+1=j:=e;omega
   exact t _ _ _ (t _ _ _ cT.j.s)
  exact(T.j.setCell (by show w.heap.size<=w.heap.size+1;omega) _).setCell (by show w.heap.size<=w.heap.size+1;omega) _
end
section
theorem pE(p:yZ)(i j:Nat)(h:i<=j):LF (p.extract i j)=((LF p).take j).drop i:=by
 unfold LF;rw[IL,JV];simp[KS,GS,List.take_drop,Nat.add_sub_cancel' h]
theorem Cy(F:Nat)(d t:yZ)(hF:F<=64)(a:d.size=64)(b:t.size=64):LF (d.extract 0 F++t.extract F 64)=Qk F (LF d) (LF t):=by
 rw[oB,pE _ _ _ (AL _),pE _ _ _ hF,Qk,FH];rw[AR (l:=LF t) (by rw[MR];omega)]
theorem Dp(F:Nat)(d t:yZ)(hF:F<=64)(a:d.size=64)(b:t.size=64):(d.extract 0 F++t.extract F 64).size=64:=by
 rw[BW,AQ,AQ];omega
structure PTs(W w:xV)(R X g g' n n' c1 c1':Nat)(ws:List (Int×yZ))(ts:List yZ):Prop where
 bel:yX W w
 rr:Row w R [yI none 0 0,yI none 0 0]
 rx:Row w X [yI (zY g 0) n c1,yI (zY g' 0) n' c1']
 rs:Row w g (ts.map Value.string)
 own:OwnS w (zY g' 0) (MH ws)
section
variable {W w w':xV} {R X g g' n n' c1 c1':Nat} {ws:List (Int×yZ)} {ts:List yZ}
theorem PTs.I(h:PTs W w R X g g' n n' c1 c1' ws ts)(a:yX w w'):PTs W w' R X g g' n n' c1 c1' ws ts :=⟨h.bel.E (a.J h.bel.size),h.rr.I a,h.rx.I a,h.rs.I a,h.own.I a⟩
theorem PTs.drew(h:PTs W w R X g g' n n' c1 c1' ws ts):PTs W w.drew R X g g' n n' c1 c1' ws ts:=h.I ((AB _ _).drew)
theorem PTs.set(h:PTs W w R X g g' n n' c1 c1' ws ts)(m:Nat)(k:m<ts.length)(s:yZ)(d:W.heap.size<=g)(f:R≠g)(i:X≠g)(j:MH ws≠[]->g'≠g):PTs W (w.setCell (yA g m) (yQ s)) R X g g' n n' c1 c1' ws (ts.set m s):=by
 refine⟨h.bel.setCell d _,h.rr.other _ (λe=>f e.symm) _,h.rx.other _ (λe=>i e.symm) _,?_,?_⟩
 ·rw[KE];exact h.rs.set m (by simpa using k) _
 rcases h.own with l|⟨b,e,o⟩
 ·exact .inl l
 injection e with e;injection e with e
 by_cases a:MH ws=[]
 ·exact .inl a
 exact .inr ⟨g',rfl,(e ▸ o).other _ (λc=>j a c.symm) _⟩
end
set_option maxRecDepth 100000 in
theorem Eh(a:xA)(ss:List yZ)(c:Nat)(E:xA)(ws:List (Int×yZ))(M:Nat)(f:xA)(l:List Int)(cf:Nat)(w:xV)(h:Strs w a ss)(h':Wrs w E ws)(hz:Ints w f l)(eJ:l.length<=1048576)(cI:LO ss ws=true):Calls prog 134 #[LM a ss.length c E ws.length M,yI f l.length cf] w λe C=>∃b u d r,e=yT (LM b ss.length u d 0 r)/\OwnD C b (O4 (RF l 0 (LP ws) (ss.map LF))) d []/\(∀g,blk b ss.length=some g->w.heap.size<=g)/\yX w C:=by
 obtain⟨⟨eK,dN,dP⟩,n,t⟩:=OV cI
 have U:∀b d,yX w ((w.alloc b).alloc d):=λb d=>(LG _ _).alloc σ _
 obtain⟨G,aG⟩:∃G,Hid (G=RF l 0 (LP ws) (ss.map LF)):=⟨_,Y rfl⟩;rw[<-aG.j];go_enter func134,ntmps134;go_wp2_with fail;refine(WH a ss c E ws M _ (h.I (U _ _)) (h'.I (U _ _)) ω ω (λs B=>by have:=n s B;omega) (λx b=>by have:=AW (t x b);omega)).J ?_;rw[cI];rintro e w1 ⟨rfl,b⟩;have i:=(U _ _).E (b.J τ);obtain⟨o,v⟩:=pq b;have j:=(NZ (w.alloc (.cells #[yI a ss.length c,yI E ws.length M] 32)) #[yI none 0 0,yI none 0 0] 32 (w.heap.size+1) σ).I b;have m:=Y j;have d:=Y i;clear j b i;go_wp2_with fail;refine(So a ss c E ws M _ (h.I d.j) (h'.I d.j) dN dP).J ?_;rintro e q ⟨g,u,H,r,rfl,k,y,A,j⟩;clear o v;go_wp2;have I:ss.length≠0:=ω
 have v:w1.heap.size<=g:=y g (by unfold blk;rw[AF I];rfl);have z:=m.j.lt
 have o:Row q g (ss.map Value.string):=by
  rcases k.s with e|⟨b,e,i⟩
  ·exact absurd (BC List.length e) (by rw[BO,AT];omega)
  cases e;exact i
 have eG:=o.lt
 have x:MH ws≠[]->H≠g:=λi=>by
  have b:ws.length≠0:=λe=>i (by rw[AD e];rfl)
  rcases k.ne with e|e|e
  ·unfold blk at e;rw[AF I]at e;exact absurd e σ
  ·unfold blk at e;rw[AF b]at e;exact absurd e σ
  unfold blk at e;rw[AF I,AF b]at e;exactλi=>e (by rw[i])
 have i:PTs w (q.alloc (.cells #[yI (zY g 0) ss.length u,yI (zY H 0) ws.length r] 32)) (w.heap.size+1) q.heap.size g H ss.length ws.length u r ws ss :=⟨Below.then (Below.then d.j (AA _) j) (AA _) (Oq _ _),(m.j.I j).alloc _,LS _ _ _,o.alloc _,k.p.I (Oq _ _)⟩
 have b:=Y i;have HW:=Y t;have cL:=Y n;have cP:=Y x;have cJ:w.heap.size<=g:=AJ d.j.size v;have T:w.heap.size+1≠g:=ω
 have bZ:q.heap.size≠g:=ω
 have dZ:w.heap.size+1<q.heap.size:=by have:=j.size;omega
 clear i k y A j o x t n m d v z;go_loopw [6,7,8] (λi _ _ wr=>∃(k:Nat) (n:List yZ),k<=ws.length/\i=Z k/\n.length=ss.length/\Hid (∀s∈n,s.size=64)/\Hid (RF l k ((LP ws).drop k) (n.map LF)=G)/\PTs w wr (w.heap.size+1) q.heap.size g H ss.length ws.length u r ws n) (λi _ _ _=>ws.length-(intOf i).toNat)
 case atStart=>exact⟨0,ss,AL _,rfl,rfl,Y (λs B=>by have:=cL.j s B;omega),by show _=_;rw[FH,aG.j],b.j⟩
 case round =>
  clear b;obtain⟨k,n,O,rfl,x,aH,W,i⟩:=hrel
  by_cases L:k<ws.length
  ·obtain⟨b,o,Q,d,j,cA,cC,HX⟩:=i.own.wrs.at L
   obtain⟨rfl,rfl⟩:H=b/\o=0:=by cases j;exact⟨rfl,rfl⟩
   rw[BK]at cA cC;clear j;have v:(Q,d)∈ws:=by rw[HX.j];simp[List.getD,L]
   have j:=AW (HW.j (Q,d) v);obtain⟨m,rfl,A⟩:∃m:Nat,Q=(m:Int)/\m<ss.length:=⟨Q.toNat,by have:=j.1;omega,by have:=j.2.1;have:=j.1;simp at *;omega⟩;have aL:d.size=64:=by have:=j.2.2;simp at this;omega
   have cE:=i.rs.cell m (yQ (n.getD m ByteArray.empty)) (by simp[List.getD,x,A]);have R:(n.getD m ByteArray.empty).size=64:=aH.j _ (by simp[List.getD,x,A]);have cZ:=i.rs.froz m (by simp[x,A]);obtain⟨t,S⟩:∃t,Hid (t=n.getD m ByteArray.empty):=⟨_,Y rfl⟩;rw[<-S.j]at cE R;have x0:=i.rx.y 0;have x1:=i.rx.y 1;have dM:=i.rx.lt;have eI:=i.rs.lt;have aM:=mQ l k;have J:=Y i;have HZ:=Y (hz.I i.bel);clear i v j;obtain⟨F,hF⟩:∃F:Nat,F=yAP l k:=⟨_,rfl⟩;have cV:F<=64:=by rw[hF];exact mQ l k
   obtain⟨y,V⟩:∃y:Int,y=if k<l.length then l.getD k 0 else 0:=⟨_,rfl⟩;obtain⟨D,K⟩:∃D:Int,D=if y<0 then 0 else y:=⟨_,rfl⟩
   have X:(F:Int)=if 64<D then 64 else D:=by
    rw[hF,K,V];unfold yAP
    by_cases v:k<l.length
    ·rw[AI v,AI v]
     by_cases j:l.getD k 0<0
     ·rw[AI j,AI j];rfl
     rw[AF j,AF j]
     by_cases z:64<l.getD k 0
     ·rw[AI z,AI z];rfl
     rw[AF z,AF z];omega
    rw[AF v,AF v];rfl
   have HF:=Y hF.symm;have bU:=Y V;have cS:=Y K;have cN:=Y X;clear hF V K X aM;go_upto_if 25 with fail;go_cut [7] from 22 to 29 (λj v=>j=Z y/\wr=v)
   case first =>
    by_cases K:k<l.length
    ·have e:=bU.j
     rw[AI K]at e;obtain⟨bz,oz,z,rfl,eB,eE,V⟩:=HZ.j.at K;obtain rfl:y=z:=by rw[e];exact V.j.symm
     clear e;have X:(k:Int)<(l.length:Int):=ω
     have eL:¬((l.length:Int)<=(k:Int)):=ω
     go_wp2_with fail;go_meet;exact⟨rfl,rfl⟩
    have e:=bU.j
    rw[AF K]at e;subst e;have X:¬((k:Int)<(l.length:Int)):=ω
    go_wp2_with fail;go_meet;exact⟨rfl,rfl⟩
   case rest =>
   obtain⟨rfl,rfl⟩:=hcut;go_upto_if 31 with fail;go_cut [7] from 30 to 31 (λj v=>j=Z D/\wr=v)
   case first =>
    have e:=cS.j
    by_cases z:y<0
    ·rw[AI z]at e
     subst e;go_wp2_with fail;go_meet;exact⟨rfl,rfl⟩
    rw[AF z]at e
    subst e;go_wp2_with fail;go_meet;exact⟨rfl,rfl⟩
   case rest =>
   obtain⟨rfl,rfl⟩:=hcut;go_upto_if 33 with fail;go_cut [7] from 32 to 33 (λj v=>j=Z (F:Int)/\wr=v)
   case first =>
    have e:=cN.j
    by_cases j:64<D
    ·rw[AI j]at e
     obtain rfl:F=64:=ω
     go_wp2_with fail;go_meet;exact⟨rfl,rfl⟩
    rw[AF j]at e
    subst e;go_wp2_with fail;go_meet;exact⟨rfl,rfl⟩
   case rest =>
   obtain⟨rfl,rfl⟩:=hcut;go_wp2_with fail;have j:=J.j.I (Oq wr (.cells #[Z (m:Int),yQ d] 147));have z:=Cx.new wr (Z (m:Int)) (yQ d) 147;obtain⟨V,v⟩:∃V,V=wr.alloc (.cells #[Z (m:Int),yQ d] 147):=⟨_,rfl⟩;rw[<-v]at j z⊢;have eH:wr.heap.size<V.heap.size:=by rw[v];simp
   have eF:g≠wr.heap.size:=ω
   have K:=j.rs.cell m (yQ t) (by rw[S.j];simp[List.getD,x,A]);have aN:=j.rs.froz m (by simp[x,A]);have X:=Y j;have HY:=Y z;have bT:=Y K;have cM:=Y aN;clear j z K aN cE cZ x0 x1 cA cC v;refine AN (S:=λC=>C.cell? (yA q.heap.size 0)=some (yI (zY g 0) ss.length u)/\C.cell? (yA wr.heap.size 0)=some (Z (m:Int))/\C.cell? (yA wr.heap.size 1)=some (yQ d)) κ ⟨X.j.rx.y 0,HY.j.c0,HY.j.c1⟩ (λj=>?_);refine TZ 0 (zW q.heap.size 0) rfl j (TZ 1 (yI (zY g 0) ss.length u) rfl j (TZ 2 (zW wr.heap.size 0) rfl j (TZ 3 (Z (m:Int)) rfl j (TZ 4 (zW wr.heap.size 1) rfl j (TZ 5 (yQ d) rfl j (TZ 6 (Z (F:Int)) rfl j (TZ 7 (yQ (d.extract 0 F)) rfl j (TZ 8 (zW q.heap.size 0) rfl j (TZ 9 (yI (zY g 0) ss.length u) rfl j (TZ 10 (zW wr.heap.size 0) rfl j (TZ 11 (Z (m:Int)) rfl j ?_)))))))))))
   simp only[PS];refine TZ 12 (zW g m) rfl j (TZ 14 (Z (F:Int)) rfl j ?_);simp only[PS];refine RD 13 rfl (λK v=>?_);have z:=bT.j;go_simp;clear z;refine v.j _ _ j (λ_=>?_);clear v K;refine TZ 15 (yQ (t.extract F t.size)) rfl j (TZ 16 (yQ (d.extract 0 F++t.extract F t.size)) rfl j (TZ 17 (zW g m) rfl j ?_));simp only[PS];refine RD 18 rfl (λK v=>?_);have z:=bT.j;have C:=cM.j;go_simp;clear z C;refine v.j _ _ ⟨(DR _ _ _ _ (by show g≠q.heap.size;omega)).E j.1,(DR _ _ _ _ (by show g≠wr.heap.size;omega)).E j.2.1,(DR _ _ _ _ (by show g≠wr.heap.size;omega)).E j.2.2⟩ (λ_=>?_);clear v K;refine DN ?_;have z:d.extract 0 F++t.extract F 64=d.extract 0 F++t.extract F 64:=ρ
   have C:=X.j.drew.set m ω (d.extract 0 F++t.extract F 64) cJ T bZ cP.j;have K:=Y C
   have cO:Hid (RF l (k+1) ((LP ws).drop (k+1)) ((n.set m (d.extract 0 F++t.extract F 64)).map LF)=G):=by
    show _=_;rw[z];have dB:yAP l k=F:=HF.j
    have v:(LP ws).drop k=((m:Int),LF d)::(LP ws).drop (k+1):=by
     rw[YG (LP ws) k (0,[]) (by rw[QL];exact L)]
     have dH:(LP ws).getD k (0,[])=((m:Int),LF d):=by
      have e:=HX.j;simp[LP,List.getD,L]at e⊢;rw[<-e];exact⟨rfl,rfl⟩
     rw[dH]
    rw[<-W.j,v,RF,DS,dB,KE,Cy F d t ω aL R]
    congr 2
    rw[S.j];simp[List.getD,x,A]
   have cQ:Hid (∀s∈n.set m (d.extract 0 F++t.extract F 64),s.size=64):=λs B=>by
    rw[z]at B;rcases EZ B with v|v
    ·exact aH.j s v
    rw[v];exact Dp F d t ω aL R
   clear C j z;go_wp2;go_roundw
   case rel=>exact⟨k+1,_,ω,ν,by simp[x],cQ,cO,K.j⟩
   case measure=>simp[intOf];omega
  have b:Hid (n=O4 G):=by
   have:=W.j;rw[DY (by rw[QL];omega)]at this;show _=_;rw[<-this];show n=(n.map LF).map strOfNums;rw[IM];exact(KT (λs=>UA s) n).symm
  rw[b.j]at i;have J:=Y i;have z:=i.rx.y 0;have o:=i.rx.y 1;have y:=i.rx.A 1;have m:=i.rr.y 0;have s:=i.rr.y 1;obtain⟨t,v⟩:=i.rr.z2;have dM:=i.rx.lt;have d:=i.rr.lt;have j:q.heap.size≠w.heap.size+1:=ω
  clear i;go_wp2;have i:wr.heap.size≠w.heap.size+1:=ω
  refine AE (v:=LM (zY g 0) ss.length u (zY wr.heap.size 0) 0 0) (by simp[results,results134,go_sem,m,s,j,i,d]) rfl ⟨_,_,_,_,rfl,⟨.inr ⟨g,rfl,?_⟩,.inl rfl,.inr (.inl rfl)⟩,λk O=>?_,?_⟩
  ·exact((((J.j.rs.other _ (by show q.heap.size≠g;exact bZ) _).other _ (by show w.heap.size+1≠g;exact T) _).other _ (by show w.heap.size+1≠g;exact T) _)).alloc _
  ·unfold blk at O
   rw[AF I]at O
   cases O
   exact cJ
  exact(((J.j.bel.setCell (by show w.heap.size<=q.heap.size;omega) _).setCell (by show w.heap.size<=w.heap.size+1;omega) _).setCell (by show w.heap.size<=w.heap.size+1;omega) _).alloc τ _
end
theorem Ih(a:xA)(ss:List yZ)(c:Nat)(b:xA)(ws:List (Int×yZ))(j:Nat)(v:qD)(w:xV)(h:Strs w a ss)(o:Wrs w b ws)(q:ss.length<=1048576)(l:ws.length<=1048576)(r:∀s∈ss,s.size<=1048576)(n:∀x∈ws,x.2.size<=1048576)(m:LO ss ws=false):Calls prog 213 #[LM a ss.length c b ws.length j,v] w λe d=>e=yT (LM none 0 0 none 0 0)/\yX w d:=by
 have f:∀d i,yX w ((w.alloc d).alloc i):=λd i=>(LG _ _).alloc σ _
 go_enter func213,ntmps213;go_wp2_with fail;refine(WA a ss c b ws j _ (h.I (f _ _)) (o.I (f _ _)) q l r n).J ?_;rw[m];rintro e y ⟨rfl,i⟩;have k:=Y ((f _ _).E (i.J τ));have d:=(NZ (w.alloc (.cells #[yI a ss.length c,yI b ws.length j] 32)) #[yI none 0 0,yI none 0 0] 32 (w.heap.size+1) σ).I i;have s:=d.y 0;have t:=d.y 1;obtain⟨u,x⟩:=d.z2;clear d i;go_wp2;exact AE (v:=LM none 0 0 none 0 0) (by simp[results,results213,go_sem,s,t]) rfl ⟨rfl,(k.j.setCell (by show w.heap.size<=w.heap.size+1;omega) _).setCell (by show w.heap.size<=w.heap.size+1;omega) _⟩
theorem Ar(a:xA)(ss:List yZ)(c:Nat)(b:xA)(ws:List (Int×yZ))(j:Nat)(v:qD)(w:xV)(h:Strs w a ss)(o:Wrs w b ws)(q:ss.length<=1048576)(l:ws.length<=1048576)(r:∀s∈ss,s.size<=1048576)(n:∀x∈ws,x.2.size<=1048576)(m:LO ss ws=false):Calls prog 134 #[LM a ss.length c b ws.length j,v] w λe d=>e=yT (LM none 0 0 none 0 0)/\yX w d:=by
 have f:∀d i,yX w ((w.alloc d).alloc i):=λd i=>(LG _ _).alloc σ _
 go_enter func134,ntmps134;go_wp2_with fail;refine(WH a ss c b ws j _ (h.I (f _ _)) (o.I (f _ _)) q l r n).J ?_;rw[m];rintro e y ⟨rfl,i⟩;have k:=Y ((f _ _).E (i.J τ));have d:=(NZ (w.alloc (.cells #[yI a ss.length c,yI b ws.length j] 32)) #[yI none 0 0,yI none 0 0] 32 (w.heap.size+1) σ).I i;have s:=d.y 0;have t:=d.y 1;obtain⟨u,x⟩:=d.z2;clear d i;go_wp2;exact AE (v:=LM none 0 0 none 0 0) (by simp[results,results134,go_sem,s,t]) rfl ⟨rfl,(k.j.setCell (by show w.heap.size<=w.heap.size+1;omega) _).setCell (by show w.heap.size<=w.heap.size+1;omega) _⟩
def PL(a:List Int)(ss:List yZ)(ws:List (Int×yZ)):List yZ:=if LO ss ws=true then O4 (RF a 0 (LP ws) (ss.map LF)) else []
theorem K2(a:xA)(ss:List yZ)(c:Nat)(j:xA)(ws:List (Int×yZ))(o:Nat)(f:xA)(b:List Int)(t:Nat)(w:xV)(h:Strs w a ss)(u:Wrs w j ws)(D:Ints w f b)(y:b.length<=1048576)(A:ss.length<=1048576)(v:ws.length<=1048576)(C:∀s∈ss,s.size<=1048576)(z:∀x∈ws,x.2.size<=1048576):Calls prog 213 #[LM a ss.length c j ws.length o,yI f b.length t] w λe m=>∃i q n d,e=yT (LM i (PL b ss ws).length q n 0 d)/\OwnS m i ((PL b ss ws).map Value.string)/\(∀g,blk i (PL b ss ws).length=some g->w.heap.size<=g)/\yX w m:=by
 by_cases k:LO ss ws=true
 ·have l:PL b ss ws=O4 (RF b 0 (LP ws) (ss.map LF)):=by simp[PL,k]
  have x:(PL b ss ws).length=ss.length:=by rw[l];simp[O4,ZX]
  refine(Ab a ss c j ws o f b t w h u D y k).J ?_;rintro e m ⟨i,q,n,d,rfl,B,s,r⟩;rw[x];exact⟨i,q,n,d,rfl,by rw[l];exact B.s,s,r⟩
 have l:PL b ss ws=[]:=by simp[PL,k]
 rw[l];refine(Ih a ss c j ws o _ w h u A v C z (by simpa using k)).J ?_;rintro e m ⟨rfl,r⟩;exact⟨none,0,none,0,rfl,.inl rfl,(λg s=>by cases s),r⟩
theorem Hb(a:xA)(ss:List yZ)(c:Nat)(j:xA)(ws:List (Int×yZ))(o:Nat)(f:xA)(b:List Int)(t:Nat)(w:xV)(h:Strs w a ss)(u:Wrs w j ws)(D:Ints w f b)(y:b.length<=1048576)(A:ss.length<=1048576)(v:ws.length<=1048576)(C:∀s∈ss,s.size<=1048576)(z:∀x∈ws,x.2.size<=1048576):Calls prog 134 #[LM a ss.length c j ws.length o,yI f b.length t] w λe m=>∃i q n d,e=yT (LM i (PL b ss ws).length q n 0 d)/\OwnS m i ((PL b ss ws).map Value.string)/\(∀g,blk i (PL b ss ws).length=some g->w.heap.size<=g)/\yX w m:=by
 by_cases k:LO ss ws=true
 ·have l:PL b ss ws=O4 (RF b 0 (LP ws) (ss.map LF)):=by simp[PL,k]
  have x:(PL b ss ws).length=ss.length:=by rw[l];simp[O4,ZX]
  refine(Eh a ss c j ws o f b t w h u D y k).J ?_;rintro e m ⟨i,q,n,d,rfl,B,s,r⟩;rw[x];exact⟨i,q,n,d,rfl,by rw[l];exact B.s,s,r⟩
 have l:PL b ss ws=[]:=by simp[PL,k]
 rw[l];refine(Ar a ss c j ws o _ w h u A v C z (by simpa using k)).J ?_;rintro e m ⟨rfl,r⟩;exact⟨none,0,none,0,rfl,.inl rfl,(λg s=>by cases s),r⟩
structure Ev where
 K:Int
 b:List Ch
 cut:Int
 fs:List Int
def Wo.call(x:Wo)(e:Ev):Dd×Bool :=if e.K=1 then (NM x.ss x.ws x.w,!x.up)
 else if e.K=2 then (PJ x.W x.S x.L x.T x.H x.F x.R x.U x.O x.rs e.b,x.up)
 else if e.K=3 then (PZ x.W x.S x.L x.T x.H x.F x.R x.U x.O x.rs,x.up)
 else if e.K=4 then (OY x.W x.S x.L x.T x.H x.F x.R x.U x.O x.rs,x.up)
 else (LJ 0,false)
def Wo.pow(x:Wo)(a:List Int):Wo:={ x with ss:=PL a x.ss x.ws,ws:=[],up:=false,W:=0,S:=0,L:=0,T:=0,H:=0,F:=0,R:=0,U:=0,O:=0,rs:=[] }
def QV(e:Ev)(d:Dd):Bool:=decide (0<=e.cut/\e.cut<=d.ops.length)
def VM(e:Ev)(d:Dd):Nat:=if 0<=e.cut/\e.cut<=d.ops.length then e.cut.toNat else d.ops.length
theorem pB(e:Ev)(d:Dd):VM e d<=d.ops.length:=by unfold VM;split<;>omega
def NH(a:List OpT):List yZ:=a.filterMap λo=>if o.1=true then none else some o.2.2
theorem Fj(l:List OpT)(o:OpT):NH (l++[o])=NH l++(if o.1=true then [] else [o.2.2]):=by
 unfold NH;rw[List.filterMap_append]
 by_cases h:o.1=true<;>simp[h]
theorem zb(l:List OpT):(NH l).length<=l.length:=List.length_filterMap_le _ _
def QJ(x:Wo)(e:Ev)(d:Dd):List yZ:=x.ts++NH (d.ops.take (VM e d))
def OF(x:Wo)(e:Ev)(d:Dd):List (List Pr):=if e.K=2 then x.P++[d.rs] else x.P
def Wo.ran(x:Wo)(e:Ev)(d:Dd):Wo:={ x with ss:=(NU x.ss x.ws d.ops (VM e d)).1,ws:=(NU x.ss x.ws d.ops (VM e d)).2,P:=OF x e d,ts:=QJ x e d }
def Wo.upS(x:Wo)(d:Dd):Wo:={ x with up:=true,W:=d.W,S:=d.S,L:=d.L,T:=d.T,H:=d.H,F:=d.F,R:=d.R,U:=d.U,O:=d.O,rs:=d.rs }
def Wo.doE(x:Wo)(e:Ev):Wo :=if e.K=5 then x.pow e.fs
 else if (x.call e).2=false\/(x.call e).1.C≠0 then x
 else if 2000<(QJ x e (x.call e).1).length\/200<(OF x e (x.call e).1).length then x
 else if QV e (x.call e).1=true then (x.ran e (x.call e).1).pow e.fs
 else if e.K=2 then (x.ran e (x.call e).1).upS (x.call e).1
 else { (x.ran e (x.call e).1).upS (x.call e).1 with P:=[(x.call e).1.rs] }
structure Wo.ok(x:Wo):Prop where
 d:LO x.ss x.ws=true\/(x.ss=[]/\x.ws=[])
 s:LX x.rs=true
 p:x.P.length<=200/\∀r∈x.P,LX r=true
 t:x.ts.length<=2000/\∀s∈x.ts,s.size<=64
theorem Wo.ok.le{x:Wo}(h:x.ok):x.le 1048576:=by
 have a:=UN h.s
 have b:(x.ss.length<=1048576/\∀s∈x.ss,s.size<=1048576)/\(x.ws.length<=1048576/\∀s∈x.ws,s.2.size<=1048576):=by
  rcases h.d with h|⟨c,d⟩
  ·obtain⟨⟨c,d,i⟩,e,f⟩:=OV h
   refine⟨⟨ω,λs a=>by have:=e s a;omega⟩,ω,λs a=>?_⟩;have:=AW (f s a);omega
  rw[c,d];simp
 exact⟨b.1.1,b.1.2,b.2.1,b.2.2,ω,a.2,by have:=h.p.1;omega,λr c=>by have:=UN (h.p.2 r c);exact⟨ω,this.2⟩,by have:=h.t.1;omega,λs a=>by have:=h.t.2 s a;omega⟩
theorem lm(k l m:Int)(p:yZ)(n:Int):(MJ k l m p n).size<=64:=by
 unfold MJ
 split
 ·rename_i h
  have a:=AW (by unfold NC at h;exact h);rw[cz _ _ _ _ _ ω];exact AA _
 simp
theorem qI(s:yZ)(l f:Int)(n m:Nat):∀p∈OC s l f n m,p.size<=64:=by
 unfold OC
 split
 ·intro p a
  obtain⟨i,_,rfl⟩:=DT.1 a;exact lm _ _ _ _ _
 simp
theorem yE(q:Int)(l:List yZ)(h:∀p∈l,p.size<=64):∀o∈MM q l,o.2.2.size<=64:=by
 intro o a;obtain⟨i,b,rfl⟩:=List.mem_mapIdx.1 a;exact h _ (GA _)
theorem Mr(L F:Int)(n m:Nat)(a:List (List Ch)):∀p∈ON L F n m a,p.size<=64:=by
 have e:∀(a:List (List Ch)) (d:List yZ),(∀p∈d,p.size<=64)->∀p∈a.foldl (lT L F n m) d,p.size<=64:=by
  intro a
  induction a with
  | nil=>intro d h;exact h
  | cons b a f =>
   intro d h;refine f _ ?_;unfold lT;intro p c;rcases BZ.1 c with c|c
   ·exact h p c
   exact qI _ _ _ _ _ p c
 refine e a _ ?_;intro p c;rw[DK.1 c];exact lm _ _ _ _ _
def Dd.ok(d:Dd):Prop:=LX d.rs=true/\d.ops.length<=1000/\∀o∈d.ops,o.2.2.size<=64
theorem bn(C:Int):(LJ C).ok:=⟨VB,by simp[LJ],by simp[LJ]⟩
theorem wT(W S L T H F:Int)(b:List Pr)(h:LX b=true)(c:(OH W S L T H F b).ops.length<=1000):(OH W S L T H F b).ok:=by
 refine⟨?_,c,?_⟩<;>unfold OH<;>split
 ·exact h
 ·exact VB
 ·intro o a
  unfold WU at a;simp only[BZ,DX,EW,IX]at a;rcases a with a|rfl|rfl|rfl
  ·exact yE _ _ (Mr _ _ _ _ _) o a
  ·simp
  ·show(OS _ _ _ _ _).size<=64
   unfold OS
   split
   ·exact lm _ _ _ _ _
   simp
  simp
 simp[LJ]
theorem E7(W S L T H F R U O:Int)(a:List Pr)(b:List Ch):(PJ W S L T H F R U O a b).ok:=by
 have c:=(E9 W S L T H F R U O a b).2
 refine⟨?_,c,?_⟩<;>unfold PJ<;>(repeat' split)<;>first|exact VB|(simp[LJ];done)|skip
 ·rename_i h _ _
  show LX (PH a b)=true;unfold PH;rw[AI h];exact Ro h
 exact yE _ _ (qI _ _ _ _ _)
theorem Ft(W S L T H F R U O:Int)(b:List Pr):(PZ W S L T H F R U O b).ok:=by
 unfold PZ
 split
 ·rename_i h
  obtain⟨_,_,_,_,_,_,_,_,a⟩:=WV h
  exact⟨by first|exact a|exact a.1,σ,σ⟩
 exact bn 1
theorem N5(W S L T H F R U O:Int)(b:List Pr)(d:b.length<=1048576):(OY W S L T H F R U O b).ok:=by
 have a:=(M4 W S L T H F R U O b d).2;unfold OY at a⊢
 split
 ·rename_i h
  rw[AI h]at a;obtain⟨_,_,_,_,_,_,_,_,c⟩:=WV h;exact wT _ _ _ _ _ _ _ (by first|exact c|exact c.1) a
 exact bn 1
theorem Hs(ss:List yZ)(ws:List (Int×yZ))(n:Int):(NM ss ws n).ok:=by
 have a:=(qn ss ws n).2;unfold NM at a⊢
 split
 ·rename_i h
  rw[AI h]at a
  cases hf:NV (OA ss ws n).1 [] with
  | none=>exact bn 2
  | some i =>
   rw[hf]at a;have c:=dx _ _ VB _ hf;simp only at a⊢
   split
   ·exact bn 3
   rename_i d
   rw[AF d]at a
   split
   ·exact bn 4
   rename_i e
   rw[AF e]at a
   split
   ·rename_i f
    rw[AI f]at a;exact wT _ _ _ _ _ _ _ c a
   refine⟨c,σ,?_⟩
   intro o b;simp only[DX,EW,IX]at b;rcases b with rfl|rfl
   ·exact lm _ _ _ _ _
   simp
 exact bn 1
theorem Wo.ok.call{x:Wo}(h:x.ok)(e:Ev):(x.call e).1.ok:=by
 have:=(UN h.s).1;unfold Wo.call
 split
 ·exact Hs _ _ _
 split
 ·exact E7 _ _ _ _ _ _ _ _ _ _ _
 split
 ·exact Ft _ _ _ _ _ _ _ _ _ _
 split
 ·exact N5 _ _ _ _ _ _ _ _ _ _ ω
 exact bn 0
theorem xd(zs:List Int):∀(hs:List (Int×List Int)) (i:Nat) (ps:List (List Int)),(∀p∈hs,p.2.length=64)->(∀p∈ps,p.length=64)->∀p∈RF zs i hs ps,p.length=64
 | [],_,_,_,h2=>h2
 | x::r,i,ps,h1,h2=>by
  rw[RF]
  by_cases hk:x.1.toNat<ps.length
  ·refine xd zs r (i+1) _ (λp hp=>h1 p (DJ _ hp)) (λp hp=>?_)
   rcases EZ hp with hp|rfl
   ·exact h2 p hp
   have e1:=h1 x EM
   have e2:=h2 (ps.getD x.1.toNat []) (by simp[List.getD,hk]);unfold Qk;simp only[AK,AX,BQ];omega
  rw[List.set_eq_of_length_le ω]
  exact xd zs r (i+1) _ (λp hp=>h1 p (DJ _ hp)) h2
theorem Lv(c:List Int)(ss:List yZ)(ws:List (Int×yZ))(h:LO ss ws=true):∀s∈O4 (RF c 0 (LP ws) (ss.map LF)),(s.size:Int)=64:=by
 obtain⟨_,d,e⟩:=OV h;intro s i;obtain⟨l,f,rfl⟩:=DT.1 i
 have:=xd c (LP ws) 0 (ss.map LF) (λp a=>by
  obtain⟨x,b,rfl⟩:=DT.1 a;have:=(dm (e x b)).2
  simp only[MR];omega) (λp a=>by
  obtain⟨x,b,rfl⟩:=DT.1 a;have:=d x b
  simp only[MR];omega) l f
 rw[CY,this];rfl
theorem pA(a:List Int)(ss:List yZ)(ws:List (Int×yZ)):LO (PL a ss ws) []=true\/(PL a ss ws=[]/\([]:List (Int×yZ))=[]):=by
 unfold PL
 split
 ·rename_i h
  refine .inl ?_;obtain⟨⟨c,d,e⟩,f,i⟩:=OV h;refine ma ⟨by simp[O4,ZX];omega,by simp[O4,ZX];omega,σ⟩ (λs b=>?_) σ;exact Lv a ss ws h s b
 exact .inr ⟨rfl,rfl⟩
theorem Wo.ok.pow{x:Wo}(h:x.ok)(a:List Int):(x.pow a).ok:=⟨pA a x.ss x.ws,VB,h.p,h.t⟩
theorem n6(ss:List yZ)(ws:List (Int×yZ))(a:List OpT)(z:Int):LO (NU ss ws a z).1 (NU ss ws a z).2=true\/((NU ss ws a z).1=[]/\(NU ss ws a z).2=[]):=by
 unfold NU
 split
 ·rename_i h;exact .inl (pI _ (ss,ws) h)
 exact .inr ⟨rfl,rfl⟩
theorem Wo.ok.ran{x:Wo}(h:x.ok)(e:Ev){d:Dd}(k:d.ok)(c:(QJ x e d).length<=2000/\(OF x e d).length<=200):(x.ran e d).ok:=by
 obtain⟨i,m,j⟩:=k
 have f:∀s∈QJ x e d,s.size<=64:=by
  intro s b;rcases BZ.1 b with b|b
  ·exact h.t.2 s b
  obtain⟨o,l,a⟩:=List.mem_filterMap.1 b
  split at a
  ·cases a
  injection a with a
  rw[<-a];exact j o (DM l)
 have b:∀r∈OF x e d,LX r=true:=by
  unfold OF
  split
  ·intro r a
   rcases BZ.1 a with a|a
   ·exact h.p.2 r a
   rw[DK.1 a];exact i
  exact h.p.2
 exact⟨n6 _ _ _ _,h.s,⟨c.2,b⟩,⟨c.1,f⟩⟩
theorem Wo.ok.doE{x:Wo}(h:x.ok)(e:Ev):(x.doE e).ok:=by
 have j:=h.call e;unfold Wo.doE;generalize (x.call e)=c at j⊢;obtain⟨d,m⟩:=c;obtain⟨b,f,i⟩:=j
 split
 ·exact h.pow _
 split
 ·exact h
 split
 ·exact h
 rename_i k
 simp only at k b f i⊢;have a:=h.ran e (d:=d) ⟨b,f,i⟩ ω
 split
 ·exact a.pow _
 split
 ·exact⟨a.d,b,a.p,a.t⟩
 exact⟨a.d,b,⟨σ,λr l=>by rw[DK.1 l];exact b⟩,a.t⟩
theorem Mk{s:yZ}{l f:Int}{n m k:Nat}(d:1<=n/\n<=8)(c:n+m=56)(h:1<=l/\l<=60000/\1<=f/\f+(N:Int)<=1000000001)(b:k<N):(XT s l f n m N k).size=64:=by
 unfold XT MJ;have e:(s.extract (k*m) (k*m+m)).size<=m:=by rw[AQ];omega
 have a:NC (if k+1=N then 2 else 1) l (f+(k:Int)) (s.extract (k*m) (k*m+m)) (n:Int)=true:=by
  unfold NC;refine AM ?_
  split<;>omega
 rw[AI a,cz _ _ _ _ _ τ]
theorem On{n:Int}(h:(NM ss ws n).C=0):(NM ss ws n).S=ss.length:=by
 unfold NM at h⊢
 split at h
 ·rename_i d
  rw[AI d]
  split at h
  ·exact absurd h (by simp[LJ])
  rename_i f e
  by_cases a:60000<(OA ss ws n).2.2+1
  ·rw[AI a]at h;exact absurd h (by simp[LJ])
  rw[AF a]at h⊢
  by_cases b:hv ss.length-1<MG (MK f) n
  ·rw[AI b]at h;exact absurd h (by simp[LJ])
  rw[AF b]at h⊢
  by_cases k3:hv ss.length<=(OA ss ws n).2.1
  ·rw[AI k3]at h⊢
   unfold OH at h⊢
   by_cases c:XO (ss.length:Int) (MQ ss ws n).1 (MQ ss ws n).2.2.1=true
   ·rw[AI c];rfl
   rw[AF c]at h;exact absurd h (by simp[LJ])
  rw[AF k3]
 exact absurd h (by simp[LJ])
theorem vP(h:LO ss ws=true)(a:List OpT)(z:Int):LO (NU ss ws a z).1 (NU ss ws a z).2=true/\(NU ss ws a z).1.length=ss.length:=by
 have b:(NU ss ws a z).1.length=ss.length:=by unfold NU;rw[AI h,s8]
 have c:=(OV h).1.1;refine⟨(n6 ss ws a z).resolve_right (λk=>?_),b⟩;rw[k.1]at b;simp at b;omega
theorem Ng{x:Wo}{e:Ev}(h:(x.call e).1.C=0)(a:(x.call e).2=true)(d:x.up=true->x.S=x.ss.length):(x.call e).1.S=x.ss.length:=by
 unfold Wo.call at h a⊢
 by_cases f:e.K=1
 ·rw[AI f]at h⊢;exact On h
 rw[AF f]at h a⊢
 by_cases i:e.K=2
 ·rw[AI i]at h a⊢
  rw[<-d a];show(PJ x.W x.S x.L x.T x.H x.F x.R x.U x.O x.rs e.b).S=x.S;replace h:(PJ x.W x.S x.L x.T x.H x.F x.R x.U x.O x.rs e.b).C=0:=h;unfold PJ at h⊢
  split at h
  ·rename_i b;rw[AI b]
   split at h
   ·rename_i c;rw[AI c]
    split at h
    ·rename_i k;rw[AI k]
     split at h
     ·rename_i l;rw[AI l]
     exact absurd h (by simp[LJ])
    exact absurd h (by simp[LJ])
   exact absurd h (by simp[LJ])
  exact absurd h (by simp[LJ])
 rw[AF i]at h a⊢
 by_cases k3:e.K=3
 ·rw[AI k3]at h a⊢
  rw[<-d a];show(PZ x.W x.S x.L x.T x.H x.F x.R x.U x.O x.rs).S=x.S;replace h:(PZ x.W x.S x.L x.T x.H x.F x.R x.U x.O x.rs).C=0:=h;unfold PZ at h⊢
  split at h
  ·rename_i b;rw[AI b]
  exact absurd h (by simp[LJ])
 rw[AF k3]at h a⊢
 by_cases j:e.K=4
 ·rw[AI j]at h a⊢
  rw[<-d a];show(OY x.W x.S x.L x.T x.H x.F x.R x.U x.O x.rs).S=x.S;replace h:(OY x.W x.S x.L x.T x.H x.F x.R x.U x.O x.rs).C=0:=h;unfold OY at h⊢
  split at h
  ·rename_i b;rw[AI b]
   unfold OH at h⊢
   split at h
   ·rename_i c;rw[AI c];rfl
   exact absurd h (by simp[LJ])
  exact absurd h (by simp[LJ])
 rw[AF j]at a
 exact absurd a σ
theorem ie(h:LO ss ws=true)(a:List Int):LO (PL a ss ws) []=true/\(PL a ss ws).length=ss.length:=by
 have b:(PL a ss ws).length=ss.length:=by unfold PL O4;rw[AI h];simp[ZX]
 have c:=(OV h).1.1;refine⟨(pA a ss ws).resolve_right (λk=>?_),b⟩;rw[k.1]at b;simp at b;omega
structure Wo.good(x:Wo)(N:Nat):Prop where
 ok:x.ok
 d:LO x.ss x.ws=true
 n:x.ss.length=N
 u:x.up=true->x.S=x.ss.length
theorem Wo.good.pow{x:Wo}(h:x.good N)(a:List Int):(x.pow a).good N :=⟨h.ok.pow a,(ie h.d a).1,(ie h.d a).2.E h.n,λk=>by cases k⟩
theorem Wo.good.doE{x:Wo}(h:x.good N)(e:Ev):(x.doE e).good N:=by
 refine⟨h.ok.doE e,?_,?_,?_⟩
 all_goals
  obtain⟨D,m⟩:∃D,D=x.call e:=⟨_,rfl⟩;have d:=Ng (x:=x) (e:=e);unfold Wo.doE;rw[<-m]at d⊢;have a:=vP h.d D.1.ops (VM e D.1)
  by_cases j:e.K=5
  ·rw[AI j]
   first|exact(h.pow e.fs).d|exact(h.pow e.fs).n|exact(h.pow e.fs).u
  rw[AF j]
  by_cases b:D.2=false\/D.1.C≠0
  ·rw[AI b]
   first|exact h.d|exact h.n|exact h.u
  rw[AF b]
  have n:D.2=true:=by
   cases hd2:D.2 with
   | true=>rfl
   | false=>exact absurd (.inl hd2) b
  have l:D.1.C=0:=Decidable.not_not.1 (λk=>b (.inr k));have c:=d l n h.u
  by_cases f:2000<(QJ x e D.1).length\/200<(OF x e D.1).length
  ·rw[AI f]
   first|exact h.d|exact h.n|exact h.u
  rw[AF f]
  by_cases k3:QV e D.1=true
  ·rw[AI k3]
   first|exact(ie a.1 e.fs).1|exact((ie a.1 e.fs).2.E a.2).E h.n|(intro k;cases k)
  rw[AF k3]
  by_cases i:e.K=2
  ·rw[AI i]
   first|exact a.1|exact a.2.E h.n|(intro _;exact c.E (by rw[show((x.ran e D.1).upS D.1).ss.length=x.ss.length from a.2]))
  ·rw[AF i]
   first|exact a.1|exact a.2.E h.n|(intro _;exact c.E (BC Nat.cast (show x.ss.length=((x.ran e D.1).upS D.1).ss.length from a.2.symm)))
section
structure Only(o:Nat->Nat)(K:Nat->Prop)(w w':xV):Prop where
 os:w'.os=w.os
 tape:w'.tape=w.tape
 output:w'.output=w.output
 size:w.heap.size<=w'.heap.size
 block:∀b,b<w.heap.size->¬K (o b)->w'.heap[b]?=w.heap[b]?
def OwL(w:xV)(o:Nat->Nat)(k:Nat)(a:xA)(b:List qD):Prop:=b=[]\/∃g,a=zY g 0/\Row w g b/\o g=k
def PsR(w:xV)(o:Nat->Nat)(p:xA)(n:Nat)(R:Nat->List Pr):Prop :=n=0\/∃b,p=zY b 0/\b<w.heap.size/\o b=5/\∀i,i<n->∃a c,w.cell? (yA b i)=some (yI a (R i).length c)/\OwL w o (7+i) a (LN (R i))
section
variable {w w' v:xV} {o o':Nat->Nat} {k:Nat} {a p:xA} {cs:List qD} {r:Option Nat} {K K':Nat->Prop} {n:Nat} {R R':Nat->List Pr} {rs:List Pr}
theorem Only.E(h:Only o K w w')(c:Only o K w' v):Only o K w v :=⟨c.os.E h.os,c.tape.E h.tape,c.output.E h.output,AJ h.size c.size,λb d e=>(c.block b (AC d h.size) e).E (h.block b d e)⟩
theorem Only.J(h:Only o K w w')(d:∀k,K k->K' k):Only o K' w w':=⟨h.os,h.tape,h.output,h.size,λb c k=>h.block b c (λe=>k (d _ e))⟩
theorem tu(h:yX w w'):Only o K w w':=⟨h.os,h.tape,h.output,h.size,λb c _=>h.block b c⟩
theorem iz(h:w.grownBy w' r)(d:∀g,r=some g->K (o g)):Only o K w w':=⟨h.os,h.tape,h.output,h.size,λb c k=>h.block b c (λe=>k (d b e.symm))⟩
theorem OwL.own(h:OwL w o k a cs):OwnS w a cs:=h.imp_right λ⟨g,e,h,_⟩=>⟨g,e,h⟩
theorem vi(h:OwnS w a cs)(e:∀g,a=zY g 0->cs≠[]->o g=k):OwL w o k a cs:=by
 by_cases b:cs=[]
 ·exact .inl b
 obtain⟨g,c,d⟩:=h.resolve_left b
 exact .inr ⟨g,c,d,e g c b⟩
theorem OwL.only(h:OwL w o k a cs)(b:Only o K w w')(c:¬K k):OwL w' o k a cs :=h.imp_right λ⟨g,e,h,n⟩=>⟨g,e,SX h (b.block g h.lt (by rw[n];exact c)) (AC h.lt b.size),n⟩
theorem OwL.lab(h:OwL w o k a cs)(c:∀b,b<w.heap.size->o' b=o b):OwL w o' k a cs:=h.imp_right λ⟨g,e,h,n⟩=>⟨g,e,h,(c g h.lt).E n⟩
theorem OwL.gb{m:Nat}(h:OwL w o k a cs)(c:cs=[]->m=0)(e:blk a m=some g):o g=k:=by
 rcases h with h|⟨b,rfl,h,n⟩
 ·rw[c h]at e;simp[blk]at e
 rw[du e];exact n
theorem OwL.prb(h:OwL w o k a (LN rs))(e:blk a rs.length=some g):o g=k:=h.gb (λe=>by have:=BC List.length e;rw[WY,AT]at this;omega) e
theorem PsR.only(h:PsR w o p n R)(d:Only o K w w')(q:¬K 5)(s:∀i,¬K (7+i)):PsR w' o p n R :=h.imp_right λ⟨b,e,f,c,u⟩=>⟨b,e,AC f d.size,c,λi t=>by
  obtain⟨x,j,l,m⟩:=u i t
  exact⟨x,j,(DP (a:=(yA b i)) (d.block b f (by rw[c];exact q))).E l,m.only d (s i)⟩⟩
theorem PsR.lab(h:PsR w o p n R)(f:∀b,b<w.heap.size->o' b=o b):PsR w o' p n R :=h.imp_right λ⟨b,e,d,c,s⟩=>⟨b,e,d,(f b d).E c,λi q=>by
  obtain⟨t,j,l,m⟩:=s i q
  exact⟨t,j,l,m.lab f⟩⟩
theorem PsR.congr(h:PsR w o p n R)(f:∀i,i<n->R i=R' i):PsR w o p n R' :=h.imp_right λ⟨b,e,j,c,l⟩=>⟨b,e,j,c,λi d=>by rw[<-f i d];exact l i d⟩
theorem PsR.put(h:PsR w o p n R){j:Nat}(I:j<n):∃b c f,p=zY b 0/\b<w.heap.size/\w.cell? (yA b j)=some (yI c (R j).length f)/\OwL w o (7+j) c (LN (R j))/\∀w' S,w.grownBy w' (blk c (R j).length)->OwnS w' c (LN S)->S.length=(R j).length->PsR w' o p n (λi=>if i=j then S else R i):=by
 obtain⟨b,e,s,z,C⟩:=h.resolve_left ω;obtain⟨c,f,y,q⟩:=C j I;refine⟨b,c,f,e,s,y,q,λw' S B J G=>.inr ⟨b,e,AC s B.size,z,λi H=>?_⟩⟩;have A:Only o (λk=>k=7+j) w w':=iz B (λg k=>q.prb k);obtain⟨t,m,d,E⟩:=C i H;have u:=(DP (a:=(yA b i)) (A.block b s (by rw[z];omega))).E d
 by_cases l:i=j
 ·subst l
  obtain⟨rfl,_,rfl⟩:t=c/\True/\m=f:=by rw[y]at d;injection d with d;injection d with i x D;exact⟨i.symm,trivial,D.symm⟩
  refine⟨t,m,?_,?_⟩
  ·simp only[IU];rw[G];exact u
  simp only[IU]
  exact vi J (λg i x=>q.gb (m:=1) (λe=>absurd (AD (by have:=BC List.length e;rw[WY,AT]at this;omega:S.length=0)) (λe=>x (by rw[e];rfl))) (by rw[i];rfl))
 refine⟨t,m,?_,?_⟩
 ·simp only[AF l];exact u
 simp only[AF l];exact E.only A ω
end
abbrev XF(w:xV)(o:Nat->Nat)(p:xA)(P:List (List Pr)):Prop:=PsR w o p P.length (λi=>P.getD i [])
theorem PsR.pst{o:Nat->Nat}{P:List (List Pr)}(h:XF w o p P):Pst w p P:=by
 rcases h with h|⟨b,e,j,m,k⟩
 ·exact .inl (AD h)
 refine .inr ⟨b,0,e,j,λi f=>?_⟩
 obtain⟨l,a,c,d⟩:=k i f;exact⟨l,a,by rw[BK];exact c,d.own.prs⟩
structure WoG(c1 c2 c3:List qD)(n:Nat)(R:Nat->List Pr)(c5:List qD)(w:xV)(q:Wp)(o:Nat->Nat):Prop where
 h1:OwL w o 1 q.a c1
 h2:OwL w o 2 q.a' c2
 h3:OwL w o 3 q.s c3
 h4:PsR w o q.p n R
 h5:OwL w o 4 q.t c5
section
variable {c1 c2 c3:List qD} {n:Nat} {R:Nat->List Pr} {c5:List qD} {w w':xV} {q:Wp} {o o':Nat->Nat} {K:Nat->Prop}
theorem WoG.only(h:WoG c1 c2 c3 n R c5 w q o)(b:Only o K w w')(a:∀k,K k->k=0):WoG c1 c2 c3 n R c5 w' q o :=⟨h.h1.only b (λk=>nomatch a _ k),h.h2.only b (λk=>nomatch a _ k),h.h3.only b (λk=>nomatch a _ k),h.h4.only b (λk=>nomatch a _ k) (λi k=>by have:=a _ k;omega),h.h5.only b (λk=>nomatch a _ k)⟩
theorem WoG.I(h:WoG c1 c2 c3 n R c5 w q o)(a:yX w w'):WoG c1 c2 c3 n R c5 w' q o:=h.only (tu (K:=λ_=>False) a) (λ_ k=>k.elim)
theorem WoG.V(h:WoG c1 c2 c3 n R c5 w q o)(b:w.grownBy w' (some g))(a:o g=0):WoG c1 c2 c3 n R c5 w' q o:=h.only (iz (K:=λk=>k=0) b (λ_ e=>by cases e;exact a)) (λ_ k=>k)
theorem WoG.lab(h:WoG c1 c2 c3 n R c5 w q o)(a:∀b,b<w.heap.size->o' b=o b):WoG c1 c2 c3 n R c5 w q o':=⟨h.h1.lab a,h.h2.lab a,h.h3.lab a,h.h4.lab a,h.h5.lab a⟩
end
abbrev QG(x:Wo)(w:xV)(q:Wp)(o:Nat->Nat):Prop:=WoG (x.ss.map Value.string) (MH x.ws) (LN x.rs) x.P.length (λi=>x.P.getD i []) (x.ts.map Value.string) w q o
theorem WoG.at{x:Wo}{q:Wp}{o:Nat->Nat}(h:QG x w q o):x.at w q:=⟨h.h1.own.strs,h.h2.own.wrs,h.h3.own.prs,PsR.pst h.h4,h.h5.own.strs⟩
end
section
def PstF(w:xV)(F:Nat->Prop)(p:xA)(P:List (List Pr)):Prop :=P=[]\/∃b o,p=zY b o/\b<w.heap.size/\F b/\∀i,i<P.length->∃a c,w.cell? (yA b (o+i))=some (yI a (P.getD i []).length c)/\DepF w F (λW=>Prs W a (P.getD i []))
section
variable {w w':xV} {F G:Nat->Prop} {p:xA} {P:List (List Pr)}
theorem PstF.step(h:PstF w F p P)(a:Below 0 w w')(e:∀b,F b->b<w.heap.size->w'.heap[b]?=w.heap[b]?):PstF w' F p P:=by
 rcases h with h|⟨b,o,j,c,d,k⟩
 ·exact .inl h
 refine .inr ⟨b,o,j,AC c a.size,d,λi n=>?_⟩
 obtain⟨q,f,l,m⟩:=k i n;exact⟨q,f,(DP (a:=(yA b (o+i))) (e b d c)).E l,m.step a e⟩
theorem PstF.J(h:PstF w F p P)(hF:∀b,b<w.heap.size->F b->G b):PstF w G p P:=by
 rcases h with h|⟨b,o,d,a,e,f⟩
 ·exact .inl h
 refine .inr ⟨b,o,d,a,hF b a e,λi l=>?_⟩
 obtain⟨m,c,j,k⟩:=f i l;exact⟨m,c,j,k.J hF⟩
theorem PstF.pst(h:PstF w F p P):Pst w p P:=by
 rcases h with h|⟨b,o,c,d,m,e⟩
 ·exact .inl h
 refine .inr ⟨b,o,c,d,λi k=>?_⟩
 obtain⟨l,a,f,j⟩:=e i k;exact⟨l,a,f,j.q⟩
theorem PstF.I(h:PstF w F p P)(a:yX w w'):PstF w' F p P:=h.step (a.J (AL _)) (λb _ c=>a.block b c)
end
structure WoF(x:Wo)(w:xV)(F:Nat->Prop)(q:Wp):Prop where
 h1:DepF w F (λW=>Strs W q.a x.ss)
 h2:DepF w F (λW=>Wrs W q.a' x.ws)
 h3:DepF w F (λW=>Prs W q.s x.rs)
 h4:PstF w F q.p x.P
 h5:DepF w F (λW=>Strs W q.t x.ts)
section
variable {x:Wo} {w w':xV} {F G:Nat->Prop} {q:Wp}
theorem WoF.step(h:WoF x w F q)(a:Below 0 w w')(c:∀b,F b->b<w.heap.size->w'.heap[b]?=w.heap[b]?):WoF x w' F q:=⟨h.h1.step a c,h.h2.step a c,h.h3.step a c,h.h4.step a c,h.h5.step a c⟩
theorem WoF.I(h:WoF x w F q)(a:yX w w'):WoF x w' F q:=h.step (a.J (AL _)) (λb _ c=>a.block b c)
theorem WoF.V{r:Option Nat}(h:WoF x w F q)(a:w.grownBy w' r)(f:∀g,r=some g->¬F g):WoF x w' F q :=h.step (MF a (AL _) (λ_ _=>AL _)) (λb c d=>a.block b d (λe=>f b e.symm c))
theorem WoF.J(h:WoF x w F q)(hF:∀b,b<w.heap.size->F b->G b):WoF x w G q:=⟨h.h1.J hF,h.h2.J hF,h.h3.J hF,h.h4.J hF,h.h5.J hF⟩
theorem WoF.at(h:WoF x w F q):x.at w q:=⟨h.h1.q,h.h2.q,h.h3.q,h.h4.pst,h.h5.q⟩
end
def oN(w a:xV)(F:Nat->Prop)(e:Ending)(x:Wo):Prop:=∃q,e=yT (LT x q)/\WoF x a (λb=>F b\/w.heap.size<=b) q/\yX w a
theorem I6{P:List (List Pr)}(h:PstF w F p P):∃a:List qD,a.length=P.length/\(∀u∈a,u.oneCell'=true)/\(∀i,i<P.length->∃d f,a[i]?=some (yI d (P.getD i []).length f)/\DepF w F (λW=>Prs W d (P.getD i [])))/\(P=[]\/∃b o,p=zY b o/\b<w.heap.size/\∀i u,a[i]?=some u->w.cell? (yA b (o+i))=some u):=by
 rcases h with h|⟨b,o,l,m,n,j⟩
 ·exact⟨[],by simp[h],σ,by simp[h],.inl h⟩
 have q:∀i,i<P.length->∃u,w.cell? (yA b (o+i))=some u:=λi a=>by obtain⟨d,f,c,_⟩:=j i a;exact⟨_,c⟩
 refine⟨(List.range P.length).map λi=>(w.cell? (yA b (o+i))).getD undef,σ,λu k=>?_,λi a=>?_,.inr ⟨b,o,l,m,λi u k=>?_⟩⟩
 ·obtain⟨i,a,rfl⟩:=DT.1 k
  obtain⟨d,f,c,_⟩:=j i (FP.1 a);rw[c];rfl
 ·obtain⟨d,f,c,e⟩:=j i a
  exact⟨d,f,by simp[a,c],e⟩
 obtain⟨a,e⟩:=DI.1 k
 simp only[BO,KO]at a;obtain⟨d,f,c,_⟩:=j i a;rw[<-e];simp[c]
theorem VP(w:xV)(o:Obj):yX w (w.alloc o):=LG _ _
theorem ZN(b j:Nat):((yA b 0):Addr).add j=(yA b j):=by unfold Addr.add;split<;>simp_all
theorem OP(x:Int)(a:-9223372036854775808<=x)(b:x<=9223372036854775807):IntKind.i64.wrap x=x:=by
 simp[IntKind.wrap,IntKind.bits,IntKind.signed];omega
theorem qX{i:Nat}{v:qD}(h:w.cell? (yA g i)=some v):g<w.heap.size:=by
 by_cases a:g<w.heap.size
 ·exact a
 simp[World.cell?,EG (by omega:w.heap.size<=g)]at h
theorem ja{a:Nat}{e:TypeId}{c:Nat}{n d:Nat}{i:List qD}(h:w.ownsRow a e c (yI (zY g 0) n d) n i):a<=g:=by
 rcases h.2 with h|⟨k,j,f,b,l,_⟩
 ·cases h.1
 injection b with b
 injection b with b;injection b with b;omega
theorem Nf{Q:List (List Pr)}(h:PstF w F p Q)(t e:TypeId)(k:P.underlying t=some (.slice e))(c:Nat):∃a,(∀d,yX w d->Src P 1 t (yI p Q.length c) Q.length a d)/\a.length=Q.length/\(∀i,i<Q.length->∃b f,a[i]?=some (yI b (Q.getD i []).length f)/\DepF w F (λW=>Prs W b (Q.getD i []))):=by
 obtain⟨a,i,l,m,f⟩:=I6 h;refine⟨a,λd q=>?_,i,m⟩;rcases f with f|⟨b,o,rfl,r,n⟩
 ·subst f
  have:a=[]:=AD i;subst this
  cases p with
  | none=>exact Src.ofNil d k c
  | some x=>exact Src.ofSlice d k x 0 c [] σ σ σ
 refine Src.ofSlice d k (yA b o) Q.length c a ω (λj u s=>?_) l
 have d:((yA b o):Addr).add j=(yA b (o+j)):=by unfold Addr.add;split<;>simp_all
 rw[d];exact(q.cell (p:=(yA b (o+j))) r).E (n j u s)
theorem ks{G:Nat->Prop}{P:List (List Pr)}{a:List Pr}{news:List qD}{f:xA}{k:Nat}(r:news.length=P.length)(h:∀i,i<P.length->∃b c,news[i]?=some (yI b (P.getD i []).length c)/\DepF w F (λW=>Prs W b (P.getD i [])))(d:Row w g (news++[yI f a.length k]))(o:F g)(n:DepF w F (λW=>Prs W f a)):PstF w F (zY g 0) (P++[a]):=by
 refine .inr ⟨g,0,rfl,d.lt,o,λi q=>?_⟩;rw[AK,EI]at q
 by_cases j:i<P.length
 ·obtain⟨b,c,l,m⟩:=h i j
  have e:(P++[a]).getD i []=P.getD i []:=by simp[List.getD,BN j]
  rw[e,BK];exact⟨b,c,d.cell i _ (by rw[BN ω];exact l),m⟩
 obtain rfl:i=P.length:=ω
 have e:(P++[a]).getD P.length []=a:=by simp[List.getD]
 rw[e,BK];exact⟨f,k,d.cell _ _ (by rw[<-r];simp),n⟩
theorem Hz{a:List Pr}{b:xA}{h:Nat}(f:Row w g [yI b a.length h])(d:F g)(c:DepF w F (λW=>Prs W b a)):PstF w F (zY g 0) [a] :=ks (G:=F) (P:=[]) (news:=[]) rfl (λi e=>absurd e σ) f d c
theorem oZ(t h e:TypeId)(i:TypeInfo)(z:qD)(a k:Nat)(o:P.underlying t=some (.slice e))(m:P.info? e=some i)(D:i.zero=some z)(q:i.size=a)(u:i.bytes=k)(y:z.cells.size=a)
  (b B:Nat)(A:w.ownsRow B e a (yI (zY b 0) 0 0) 0 [])(v:qD)(n:Nat)(c:List qD)(d:Src P a t v n c w)(E:n<=1048576)(s:n*k<=281474976710656)(C:B<=w.heap.size):∃g f j,(Builtin.append_ #[t,t] h #[yI (zY b 0) 0 0,v]).run P w=.ok (yI (zY g 0) n f) j/\j.ownsRow B e a (yI (zY g 0) n f) n c/\(g=b\/g=w.heap.size)/\yX w j:=by
 subst q u
 by_cases x:n=0
 ·subst x
  have j:c=[]:=AD (by have:=d.newsLen;omega);subst j;have f:=run_append_room_src (P:=P) w t t h e i o m b 0 0 0 v 0 [] d ω σ σ;exact⟨_,_,_,f,A,.inl rfl,AB _ _⟩
 have r:(Builtin.firstCells i.size 0 (yI (zY b 0) 0 0)).run P w.drew=.ok ([]:List qD).toArray w.drew:=GI w.drew i.size 0 _ 0 0 [] σ σ
 have f:=run_append_grow_src (P:=P) w t t h e i z o m D (zY b 0) 0 0 [] r v n c d ω ω (by rw[BK,oA n ω];exact s);refine⟨_,_,_,by rw[f,BK],?_,.inr rfl,(AB _ _).drew.alloc (AA _) _⟩;have j:=JL w (0+n) 0 e;have l:=IQ w (0+n) 0 e (by unfold maxLen;omega);rw[BK]at j l;refine⟨d.newsLen,.inr ⟨w.heap.size,_,_,rfl,C,AU w.drew _,j,l,?_,?_⟩⟩
 ·simp[KJ,d.newsLen,y]
  rw[<-IW]
  congr 1
  omega
 simp[d.newsLen]
theorem qG{m:Array Oper}{l:List Oper}{o:Oper}{a:Act}{Q:Exit->Act->xV->Prop}(C:o.guard=none)(s x:Operand)(t:TypeId)
  (R:o.op=.call { callee:=.builtin .append,args:=#[s,x],argTypes:=#[t,t] })(e:TypeId)(i:TypeInfo)(z:qD)(c k:Nat)(T:P.underlying t=some (.slice e))(M:P.info? e=some i)(V:i.zero=some z)(q:i.size=c)(A:i.bytes=k)(D:z.cells.size=c)
  (b B:Nat)(S:a.eval s=yI (zY b 0) 0 0)(E:w.ownsRow B e c (yI (zY b 0) 0 0) 0 [])(v:qD)(U:a.eval x=v)(n:Nat)(d:List qD)(u:Src P c t v n d w)(O:n<=1048576)(y:n*k<=281474976710656)(J:B<=w.heap.size)
  (h:∀g f j,j.ownsRow B e c (yI (zY g 0) n f) n d->(g=b\/g=w.heap.size)->yX w j->wpList P m Q l (a.put o.dst (yI (zY g 0) n f)) j):wpList P m Q (o::l) a w:=by
 refine ID C λK L=>?_
 obtain⟨g,f,j,r,G,H,I⟩:=oZ (P:=P) (w:=w) t o.type e i z c k T M V q A D b B E v n d u O y J;unfold Oper.wp;simp[execOp,R,resolve,invoke,builtin,S,U,r,Result.andThen];exact L _ _ (h g f j G H I)
theorem lN{l:Array Oper}{o:Oper}{a:Act}{K:Act->xV->Prop}{Q:Exit->Act->xV->Prop}{E:Prop}(A:o.guard=none)(s x:Operand)(t:TypeId)
  (O:o.op=.call { callee:=.builtin .append,args:=#[s,x],argTypes:=#[t,t] })(e:TypeId)(i:TypeInfo)(z:qD)(c k:Nat)(S:P.underlying t=some (.slice e))(L:P.info? e=some i)(V:i.zero=some z)(m:i.size=c)(y:i.bytes=k)(C:z.cells.size=c)
  (b B:Nat)(R:a.eval s=yI (zY b 0) 0 0)(D:w.ownsRow B e c (yI (zY b 0) 0 0) 0 [])(v:qD)(U:a.eval x=v)(n:Nat)(d:List qD)(r:Src P c t v n d w)(M:n<=1048576)(u:n*k<=281474976710656)(J:B<=w.heap.size)
  (h:∀g f j,j.ownsRow B e c (yI (zY g 0) n f) n d->(g=b\/g=w.heap.size)->yX w j->K (a.put o.dst (yI (zY g 0) n f)) j):if Region.wanted o (yielded l a.tmps)=true then Oper.wp P o a w K Q else E:=by
 have T:Region.wanted o (yielded l a.tmps)=true:=by simp[Region.wanted,A]
 rw[AI T];obtain⟨g,f,j,q,G,H,I⟩:=oZ (P:=P) (w:=w) t o.type e i z c k S L V m y C b B D v n d r M u J;unfold Oper.wp;simp[execOp,O,resolve,invoke,builtin,R,U,q,Result.andThen];exact h g f j G H I
end
theorem MP:(prog.info? 42).map (·.size)=some 16:=κ
theorem PstF.V{c:xV}{P:List (List Pr)}{r:Option Nat}(h:PstF w F p P)(a:w.grownBy c r)(i:∀g,r=some g->¬F g):PstF c F p P :=h.step (MF a (AL _) (λ_ _=>AL _)) (λb d f=>a.block b f (λe=>i b e.symm d))
theorem em:(prog.info? 39).map (·.size)=some 10:=κ
def qk(w d:xV)(e:Ending)(b:Option (List Pr)):Prop:=∃a c,e=yT (.tuple #[LR a (b.getD []).length c,yR b.isSome])/\(b.getD []).length<=c/\OwnS d a (LN (b.getD []))/\(∀g,blk a (b.getD []).length=some g->w.heap.size<=g)/\yX w d
theorem tE{s:yZ}{o:List Ch}(h:UM s=some o):OM o=true:=by
 rw[<-sC]at h;unfold YN at h
 split at h
 ·cases h
 split at h
 ·rename_i a;cases h;exact a
 cases h
theorem yS{a:xA}{b:List Ch}(h:OwnS w a (MS b)):Chs w a b:=by
 rcases h with h|⟨g,rfl,h⟩
 ·refine .inl ?_
  cases b with
  | nil=>rfl
  | cons x r=>obtain⟨c,d,e⟩:=x;exact absurd h (by simp[MS])
 exact h.chs
theorem ue{l:List Pr}(h:LN l≠[]):l.length≠0:=λe=>h (by rw[AD e];rfl)
theorem OwnS.setF{a:xA}{b:List qD}(h:OwnS w a b)(p:Addr)(d:∀g,a=zY g 0->b≠[]->p.block≠g)(v:qD):OwnS (w.setCell p v) a b:=by
 by_cases c:b=[]
 ·exact .inl c
 rcases h with h|⟨g,rfl,e⟩
 ·exact absurd h c
 exact .inr ⟨g,rfl,e.other p (d g rfl c) v⟩
structure FdB(w W:xV)(rs:List Pr)(sa:xA)(sc:Nat):Prop where
 rb:Row W w.heap.size [yI none 0 0]
 st:Row W (w.heap.size+1) [yI sa rs.length sc]
 own:OwnS W sa (LN rs)
 lo:∀g,blk sa rs.length=some g->w.heap.size+2<=g
 cap:rs.length<=sc
 be:yX w W
theorem FdB.new(w:xV):FdB w ((w.alloc (.cells #[yI none 0 0] 37)).alloc (.cells #[yI none 0 0] 37)) [] none 0 :=⟨(NZ w #[yI none 0 0] 37 w.heap.size rfl).alloc _,NZ _ #[yI none 0 0] 37 _ σ,.inl rfl,λg a=>(by cases a),AA _,(LG _ _).alloc σ _⟩
theorem FdB.I{W b:xV}{c:List Pr}{d:xA}{e:Nat}(h:FdB w W c d e)(a:yX W b):FdB w b c d e:=⟨h.rb.I a,h.st.I a,h.own.I a,h.lo,h.cap,h.be.E (a.J h.be.size)⟩
theorem FdB.set{X:xV}{d:Obj}{l a:List Pr}{m b:xA}{n c:Nat}(h:FdB w (X.alloc d) l m n)(k:OwnS X b (LN a))(f:a.length<=c)(e:∀g,blk b a.length=some g->w.heap.size+2<=g):FdB w ((X.alloc d).setCell (yA (w.heap.size+1) 0) (yI b a.length c)) a b c:=by
 refine⟨h.rb.other _ (by show w.heap.size+1≠w.heap.size;omega) _,h.st.set 0 σ _,OwnS.setF (k.I (LG _ _)) _ (λg i j=>?_) _,e,f,h.be.setCell (by show w.heap.size<=w.heap.size+1;omega) _⟩;have:=e g (by subst i;exact ML _ _ _ (ue j));show w.heap.size+1≠g;omega
theorem Jo(a:xA)(d:List yZ)(c:Nat)(w:xV)(h:Strs w a d)(hl:d.length<=1000)(hs:∀e∈d,e.size<=1048576):Calls prog 126 #[yI a d.length c] w λe b=>qk w b e (NV d []):=by
 obtain⟨t,aG⟩:∃t,Hid (t=NV d []):=⟨_,Y rfl⟩;rw[<-aG.j];have HH:=Y h;have HS:=Y hs;clear h hs;go_enter func126,ntmps126;go_wp2;go_loopw [5] (λb wr=>∃(i:Nat) (f:List Pr) (A:xA) (B:Nat) (W:xV),W=wr/\b=Z (i:Int)/\i<=d.length/\LX f=true/\Hid (NV (d.drop i) f=t)/\FdB w W f A B) (λb _=>((d.length:Int)-intOf b).toNat)
 case atStart =>
  exact⟨0,[],none,0,_,rfl,rfl,AL _,VB,by show _=_;rw[aG.j];rfl,FdB.new w⟩
 case round =>
  obtain⟨i,f,A,B,wr,rfl,rfl,hi,j,x,D⟩:=hrel;have q:=Y D;have V:=D.st.y 0;have S:=D.st.lt;have K:=D.rb.y 0;have R:=D.rb.lt;have Q:=D.rb.A 0;have b:=UN j;have bU:=b.1;have bJ:=Y j;have bB:=Y b.2;clear j b D
  by_cases U:i<d.length
  ·have aU:(i:Int)<(d.length:Int):=ω
   have bR:(0:Int)<=(i:Int):=ω
   have bV:IntKind.i64.wrap ((i:Int)+1)=(i:Int)+1:=by simp[IntKind.wrap,IntKind.bits,IntKind.signed];omega
   obtain⟨b,o,s,rfl,L,X⟩:=(HH.j.I q.j.be).at U;have bF:s.size<=1048576:=HS.j s (by rw[X.j];simp[List.getD,U]);have j:d.drop i=s::d.drop (i+1):=by rw[X.j];simp[List.getD,U]
   have bP:b<wr.heap.size:=by have:=DQ wr _ L;simpa using this
   have E:=Y (λk=>Cl s k bF)
   skip
   rw[j]at x;have bI:=Y j;clear j
   cases hR:UM s with
   | none =>
    rw[hR]at E;have r:Hid (t=none):=by show _=_;rw[<-x.j];exact tF hR
    clear hR;go_wp2_with fail;refine(E.j _).J ?_;rintro e w5 ⟨ab,cb,rfl,_,_,u⟩;simp only[JS,JH,AT];have j:=q.j.I u;have y:=Y j;have z:=j.rb.y 0;have T:=j.rb.lt;have H:=j.rb.A 0;clear V S K R Q j u L;go_wp2;refine AE (v:=.tuple #[LR none 0 0,yR false]) (by simp[results,results126,go_sem,z,LR]) rfl ?_;rw[r.j];exact⟨none,0,rfl,AA _,.inl rfl,λg n=>(by cases n),y.j.be.setCell (by show w.heap.size<=w.heap.size;omega) _⟩
   | some m =>
    rw[hR]at E;have j:=nM (tE hR);have aY:=Y j.2;have bC:=j.1;clear j
    by_cases l:PK f m=0
    focus
     have r:Hid (NV (d.drop (i+1)) (MV f m)=t):=by show _=_;rw[<-x.j];exact(oU hR l).symm
     have z:PH f m=MV f m:=by unfold PH;rw[AI l]
     have aZ:=Y (Ro l)
    rotate_left
    focus
     have r:Hid (t=none):=by show _=_;rw[<-x.j];exact uW hR l
     have z:PH f m=[]:=by unfold PH;rw[AF l]
     have bQ:(PK f m == 0)=false:=by simp[l]
     have bE:(PK f m != 0)=true:=by simp[l]
    rotate_left
    all_goals
     clear hR;go_wp2_with fail;refine(E.j _).J ?_;rintro e w5 ⟨ab,cb,rfl,H,T,u⟩;simp only[GC,JI]at H T⊢;have j:=q.j.I u;have y:=Y j;have r1:=j.st.y 0;have aX:=j.st.lt;have D:=Y (zF A f B ab m cb w5 j.own.prs ω bB.j (yS H) ω aY.j)
    ·rw[z,l]at D
     clear V S K R Q j u L H T;go_wp2_with fail;refine D.j.J ?_;rintro e M ⟨C,J,rfl,aW,I,G,v⟩;have k:=(y.j.I v).I (Oq M (.cells #[yI C (MV f m).length J] 37));have O:=Y (k.set I aW (λg n=>by have:=G g n;omega));have x1:=k.st.y 0;have bW:=k.st.A 0;have bY:=k.st.lt;have x6:M.heap.size≠w.heap.size+1:=by have:=(y.j.I v).st.lt;omega
     clear r1 aX k v I G l z;go_wp2;exact⟨⟨i+1,_,C,J,_,rfl,σ,ω,aZ.j,r,O.j⟩,by simp[intOf];omega⟩
    rw[z]at D
    clear V S K R Q j u L H T z;go_wp2_with fail;refine D.j.J ?_;rintro e M ⟨C,J,rfl,aW,I,G,v⟩;have k:=(y.j.I v).I (Oq M (.cells #[yI C 0 J] 37));have O:=Y k;have z:=k.rb.y 0;have T:=k.rb.lt;have H:=k.rb.A 0;clear r1 aX k v I G;go_wp2;refine AE (v:=.tuple #[LR none 0 0,yR false]) (by simp[results,results126,go_sem,z,LR]) rfl ?_;rw[r.j];exact⟨none,0,rfl,AA _,.inl rfl,λg n=>(by cases n),O.j.be.setCell (by show w.heap.size<=w.heap.size;omega) _⟩
  have r:Hid (t=some f):=by show _=_;rw[<-x.j,DY ω];rfl
  have aU:¬((i:Int)<(d.length:Int)):=ω
  have j:¬(w.heap.size=w.heap.size+1):=ω
  go_wp2;refine AE (v:=.tuple #[LR A f.length B,yR true]) (by simp[results,results126,go_sem,K,LR]) rfl ?_;rw[r.j];refine⟨A,B,rfl,q.j.cap,OwnS.setF q.j.own (yA w.heap.size 0) (λg n b=>?_) _,λg n=>by have:=q.j.lo g n;omega,q.j.be.setCell (by show w.heap.size<=w.heap.size;omega) _⟩;have:=q.j.lo g (by subst n;exact ML _ _ _ (ue b));show w.heap.size≠g;omega
