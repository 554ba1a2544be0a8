import Derived.Deep.CutBlock
import Derived.Test.YtmlejnbjclkdjaaGreatDoorPrG35
set_option maxHeartbeats 16000000
namespace Go.Proofs.YtmlejnbjclkdjaaGreatDoor
open Tryz
open Go.RowKit nw
set_option maxRecDepth 8000
set_option linter.all false
theorem Am{N n:Nat}(f:8<=N/\N<=40)(g:1<=n/\n<=8):NI (LN (N:Int) (n:Int))=true:=by
 have b:LE (newSS (N:Int)) []=true:=by
  unfold newSS;rw[AE ω];exact MQ (by rw[DI];simp;omega) (λs a=>by rw[List.eq_of_mem_replicate a];decide) (λx c=>by cases c)
 have c:QR [[]]=true:=by unfold QR;simp[UG]
 have a:QU (LN (N:Int) (n:Int))=true:=rfl;have d:RV []=true:=rfl;have e:1<=(LN (N:Int) (n:Int)).w/\(LN (N:Int) (n:Int)).w<=8:=by show 1<=(n:Int)/\(n:Int)<=8;omega
 unfold NI;simp only[AX,AT];exact⟨e,b,a,c,d⟩
theorem Iu{N n:Nat}(f:8<=N/\N<=40)(g:1<=n/\n<=8){x:Wo}(c:x=LN (N:Int) (n:Int))(v:Nb):Calls prog 5 #[.int .i64 (x.ss.length:Int),.int .i64 x.w] v λe a=>∃q,e=M3 (MB x q)/\DepF a (λb=>v.heap.size<=b/\b<a.heap.size) (λW=>x.at W q)/\Below v.heap.size v a:=by
 have b:x.ss.length=N:=by rw[c];show(newSS (N:Int)).length=N;unfold newSS;rw[AE ω];simp
 have d:x.w=(n:Int):=by rw[c];rfl
 rw[b,d];refine(nw_s_yes (N:Int) (n:Int) v ω ω).z ?_;intro e a h;rw[c];exact n7 h
def US:EvY:=⟨⟨5,[],0,[]⟩,none,0,none,0⟩
def UP:EvY:=⟨⟨1,[],-1,[]⟩,none,0,none,0⟩
theorem Mi{b a:List EvY}(e:a=b++[US,UP])(i:Nat)(h:i<a.length)(k:i+2=a.length):(a[i]).e.K=5:=by
 subst e;have:i=b.length:=by simp at k;omega
 subst this;simp[US]
theorem Ap{b a:List EvY}(e:a=b++[US,UP])(i:Nat)(h:i<a.length)(k:i+1=a.length):(a[i]).e=⟨1,[],-1,[]⟩:=by
 subst e;have:i=b.length+1:=by simp at k;omega
 subst this;simp[UP]
def Jn(w wr:Nb)(B C b g N d e:Nat)(a:List EvY)(c:Nc):Prop:=∃(k:Nat) (x:Wo) (q r:Wp),c=.int .i64 (k:Int)/\k<=a.length/\TwI w wr B C b g a x q x r/\TI x N d e (k:Int)/\NI x=true/\(k+1=a.length->x.up=false)
theorem In(a1:M6)(n c:Nat)(a2:M6)(m d:Nat)(w:Nb)(h1:Bys w a1 n)(h2:Bys w a2 m)(hc:n<=c)(hd:m<=d)(hn:n<=1048576)(hm:m<=1048576)(hv:CwG w):Calls prog 3 #[.slice a1 n c,.slice a2 m d] w λe D=>e=M3 (M0 true)/\Below w.heap.size w D:=by
 have gE:¬(1048576<(n:Int)):=ω
 have gD:¬(1048576<(m:Int)):=ω
 have a:=Z (yZ a1 n c w h1 hn hc);have HV:=Z hv;obtain⟨i0,b,f,g,dM⟩:=nr nJ;have HI:=Z (AH b (AH f (AH g dM)));clear b f g dM h1 hv;go_enter func3,ntmps3;go_wp2_with fail;refine a.l.z ?_;rintro r v1 ⟨N,nw,q0,rfl,b,g,l,M⟩;clear a
 try simp only[PS]
 refine‹∀(a:Act) (w:Nb),wpList _ _ _ _ a w->_› _ _ ?_
 refine VR (.tuple #[MB (LN (N:Int) (nw:Int)) q0,M0 true]) (VR (MB (LN (N:Int) (nw:Int)) q0) (VR (M0 true) (ks ?_)));generalize j:v1.alloc _=v2;obtain⟨h,f⟩:=Fj M l (AM _) j;obtain⟨B,k⟩:∃B,B=v1.heap.size:=⟨_,rfl⟩;rw[<-k]at h f⊢;clear j k l M;simp only[PS];refine vf h ?_;generalize j:v2.setCells _ _ _=v3 at f⊢;clear j h;obtain⟨P,j⟩:∃x,x=LN (N:Int) (nw:Int):=⟨_,rfl⟩;rw[<-j]at f⊢;have K:=Z (show NI P=true by rw[j];exact Am b g);obtain⟨qq,h⟩:=Lx b g;rw[<-j]at h;have R:=Z h;have k:=Z (λv=>Iu b g j v);have V:Hid (P.rs.length=0):=Z (by rw[j];rfl);clear h j b g;simp only[PS];obtain⟨t,G,z2,z3,z4,u,q,s,F,y,b,g,h,l,o,p,U⟩:=c16 f.r;go_wp2_with fail;refine(k.l _).z ?_;rintro r v4 ⟨q4,rfl,J,j⟩;clear t G z2 z3 z4 u q s F y b g h l o p k
 try simp only[PS]
 refine‹∀(a:Act) (w:Nb),wpList _ _ _ _ a w->_› _ _ ?_
 refine ks ?_;generalize G:v4.alloc _=v5;obtain⟨I,u,E⟩:=LY G;have h:=E.q;obtain⟨C,H⟩:∃C,C=v4.heap.size:=⟨_,rfl⟩;rw[<-H]at h⊢;simp only[PS];refine vf h ?_;have o:=h.sets (OS P q4) rfl;have t:=LG v5 C 0 (OS P q4);generalize L:v5.setCells _ _ _=S at o t⊢;have F:Below v4.heap.size v4 S:=I.j (NR t I.size (λg e=>by cases e;omega));have q:=(f.I j).I F;have T:=f.r.lt;have M:=j.size;have y:DepF S (λb=>w.heap.size<=b/\b<S.heap.size/\b≠B/\b≠C) (λW=>P.at W q0):=((f.m.z (G:=λb=>w.heap.size<=b/\b≠B/\b≠C) (λb l k=>⟨k.1,k.2,ω⟩)).I j |>.I F).z (λb l k=>⟨k.1,l,k.2⟩);have O:=f.bl.size;have z:DepF S (λb=>w.heap.size<=b/\b<S.heap.size/\b≠B/\b≠C) (λW=>P.at W q4):=(J.I F).z (λb l k=>⟨ω,l,ω,ω⟩);have s:=o.lt;have eZ:B≠C:=ω
 have eY:w.heap.size<=C:=ω
 have A:B<S.heap.size:=q.r.lt;have Q:=Z h2;have p:=Z (AH y z);have g:=Z (AH q o);clear y z q o L t F I u E h G j J f T M O U h2 H
 try simp only[PS]
 have f:=Z (Gp a2 m d S (Q.l.I g.l.1.bl) hm hd);clear Q;go_wp2_with fail;refine f.l.z ?_;rintro r J ⟨U,g7,cS,rfl,dN,h,j⟩;clear f;have f:=Z (AH (p.l.1.I j) (p.l.2.I j));have t:=Z (AH (g.l.1.I j) (g.l.2.I j));obtain⟨e0,o⟩:∃e,e=S.heap.size:=⟨_,rfl⟩;rw[<-o]at h f s A;have l7:e0<=J.heap.size:=by rw[o];exact j.size
 have T:=Z h;clear p g j h o;go_upto_region 8 with fail;refine BE ?_;refine VR (.slice (Mw g7 0) U.length cS) (VR (.agg #[.int .i64 5,.slice none 0 0,.int .i64 0,.slice none 0 0]) (VR (.agg #[.int .i64 1,.slice none 0 0,.int .i64 (-1),.slice none 0 0]) ?_));simp only[PS];refine pB (SG [US,UP]) 2 ?_ rfl (by show _=Result.ok _ (World.alloc J (.cells #[.int .i64 5,.slice none 0 0,.int .i64 0,.slice none 0 0,.int .i64 1,.slice none 0 0,.int .i64 (-1),.slice none 0 0] 45));go_simp);simp only[PS];have j:=RZ J (.cells (SG [US,UP]).toArray 45);have q:=T.l.I j;have H:(J.alloc (.cells (SG [US,UP]).toArray 45)).heap.size=J.heap.size+1:=σ
 have o:=t.l.1.I j;have M:=t.l.2.I j;have I:=f.l.1.I j;have L:=f.l.2.I j;clear t f;refine QY _ rfl _ _ 40 rfl e0 underlying40 HI.l rfl ω _ U.length _ rfl q.own ⟨J.heap.size,0,none⟩ 2 2 (SG [US,UP]) rfl rfl (World.news_of_block (AU J _)) (by intro u hu;rcases BJ.1 hu with z|z;exact yw _ u z;exact yw UP u (by simpa[SG] using z)) ω (J.heap.size+1) H ?_;intro E bJ v8 F g X dH;have f:(J.alloc (.cells (SG [US,UP]).toArray 45)).grownBy v8 (some g7):=g;clear g
 have O:g7=E\/E=(J.alloc (.cells (SG [US,UP]).toArray 45)).heap.size:=by
  rcases X with e|e
  ·exact .inl (CE e)
  exact .inr (by rw[H];exact e)
 have t:=q.push (zs:=[US,UP]) (λz g=>⟨by simp at g;rcases g with rfl|rfl<;>exact⟨⟨by simp[US,UP],λx h=>by cases h⟩,by simp[US,UP]⟩,LQ (λW=>by simp at g;rcases g with rfl|rfl<;>exact⟨.inl rfl,.inl rfl⟩)⟩) F f O
 have lg:=q.own.lt g7 rfl;have G:TwI w v8 B C e0 E (U++[US,UP]) P q0 P q4:=⟨o.r.J f (λe=>by have:=CE e;omega),M.J f (λe=>by have:=CE e;omega),(I.J f (λb e k=>by cases e;omega)).z (λb _ k=>⟨k.1,k.2.2⟩),(L.J f (λb e k=>by cases e;omega)).z (λb _ k=>⟨k.1,k.2.2⟩),t.rd,⟨o.lo,A⟩,⟨eY,s⟩,AK ω f.size,eZ,by have:=V.l;omega,o.bl.j (NR f o.bl.size (λb e=>by cases e;omega))⟩;obtain⟨p,g⟩:∃p,p=U++[US,UP]:=⟨_,rfl⟩;have Q:p.length=U.length+2:=by rw[g];simp
 have HL:Hid (∀y∈p,y.e.le):=Z (by rw[g];exactλy b=>(t.dp y b).1);have HP:Hid (∀i (h:i<p.length),i+2=p.length->(p[i]).e.K=5):=Z (Mi g);have HQ:Hid (∀i (h:i<p.length),i+1=p.length->(p[i]).e=⟨1,[],-1,[]⟩):=Z (Ap g);rw[<-g]at G;have W:U.length+2=p.length:=Q.symm;clear q t o M I L F f X O dH lg H j T s eY A eZ l7 g;rw[W];have dM:2<=p.length/\p.length<=37:=ω
 clear W Q dN;go_wp2_with fail;go_loopw [9,10,11,12,13,14,15] (λf _ _ _ _ _ _ wr=>Jn w wr B C e0 E N nw qq p f) (λf _ _ _ _ _ _ _=>p.length-(intOf f).toNat)
 case atStart=>exact⟨0,P,q0,q4,rfl,AM _,G,R.l,K.l,λe=>ω⟩
 case round =>
  obtain⟨k,x,q,r,rfl,hk,I,g,O,f⟩:=hrel;clear G R K V
  by_cases L:k<p.length
  rotate_left
  ·have fG:¬(k:Int)<(p.length:Int):=ω
   go_wp2;go_ret;exact⟨rfl,I.bl⟩
  have fG:(k:Int)<(p.length:Int):=ω
  have fY:(0:Int)<=(k:Int):=ω
  obtain⟨y,b⟩:∃y,y=p[k]:=⟨_,rfl⟩;have Q:y.e.le:=HL.l y (by rw[b];exact GL L);have R:=Z g;have HU:=Z f;clear g f;have M:=I.r2.y 14;have s:=I.r2.lt;go_upto_region 13 with fail;clear M s;have H:=I.I (AB _ _).drew;have s:=H.ev.q.at L;rw[<-b]at s;have j:=Z (xX H HV.l O L (by rw[<-b];exact Q));rw[<-b]at j;unfold EvY.v OD at j;refine VS (6) (S:=λD=>Row D B (OS x q)/\D.cell? ⟨E,k*4,none⟩=some (.int .i64 y.e.K)/\D.cell? ⟨E,k*4+1,none⟩=some (.slice y.ba y.e.b.length y.bc)/\D.cell? ⟨E,k*4+2,none⟩=some (.int .i64 y.e.cut)/\D.cell? ⟨E,k*4+3,none⟩=some (.slice y.fa y.e.fs.length y.fc)) κ (⟨H.r1,s.1,s.2.1,s.2.2.1,s.2.2.2⟩) (λf=>?_);refine OZ 0 (MB x q) rfl (BO ⟨ρ,λw g=>by obtain⟨t,G,z2,z3,z4⟩:=g;exact LJ 36 _ rfl B 0 rfl (OS x q) _ t.range underlying36 rfl MO⟩) f ?_
  simp only[PS];refine NN 1 (.slice (Mw E 0) p.length bJ) rfl f ?_;simp only[PS];refine NN 2 (.int .i64 (k:Int)) rfl f ?_;simp only[PS];refine NN 3 (Mv E (k*4)) rfl f ?_;simp only[PS];refine NN 4 (.agg #[.int .i64 y.e.K,.slice y.ba y.e.b.length y.bc,.int .i64 y.e.cut,.slice y.fa y.e.fs.length y.fc]) rfl f ?_;simp only[PS];refine PH 5 rfl (λKq K=>?_);refine LW ρ 7 #[MB x q,.agg #[.int .i64 y.e.K,.slice y.ba y.e.b.length y.bc,.int .i64 y.e.cut,.slice y.fa y.e.fs.length y.fc]] γ j.l ?_;rintro o u1 ⟨A,rfl,T,K1,M⟩;refine⟨_,rfl,?_⟩;have F:=T.ev.q.at L;rw[<-b]at F;clear j;refine K.l _ _ (⟨T.r1,F.1,F.2.1,F.2.2.1,F.2.2.2⟩) (λaJ=>?_)
  try simp only[PS]
  refine RT (rs:=[6]) κ σ ?_;refine AllReadyT.last rfl (λKq K=>?_);refine LH ρ 36 _ _ ρ B 0 (OS (x.doE y.e) A).toArray ρ ρ (T.r1.there rfl) MO κ ?_;generalize j:World.setCells _ _ _ _=t1 at K1⊢;clear j T F H s M;refine K.l _ _ trivial (λ_=>?_)
  try simp only[PS]
  refine UY κ ?_ _
  go_upto_region 14 with fail;have M:=K1.I (AB _ _).drew;have F:=M.ev.q.at L;rw[<-b]at F;have j:=Z (Lu M O L (by rw[<-b];exact Q));rw[<-b]at j;unfold EvY.v OD at j;refine VS (6) (S:=λD=>Row D C (OS x r)/\D.cell? ⟨E,k*4,none⟩=some (.int .i64 y.e.K)/\D.cell? ⟨E,k*4+1,none⟩=some (.slice y.ba y.e.b.length y.bc)/\D.cell? ⟨E,k*4+2,none⟩=some (.int .i64 y.e.cut)/\D.cell? ⟨E,k*4+3,none⟩=some (.slice y.fa y.e.fs.length y.fc)) κ (⟨M.r2,F.1,F.2.1,F.2.2.1,F.2.2.2⟩) (λf=>?_);refine OZ 0 (MB x r) rfl (BO ⟨ρ,λw g=>by obtain⟨t,G,z2,z3,z4⟩:=g;exact LJ 36 _ rfl C 0 rfl (OS x r) _ t.range underlying36 rfl MO⟩) f ?_;simp only[PS];refine NN 1 (.slice (Mw E 0) p.length bJ) rfl f ?_;simp only[PS];refine NN 2 (.int .i64 (k:Int)) rfl f ?_;simp only[PS];refine NN 3 (Mv E (k*4)) rfl f ?_
  simp only[PS];refine NN 4 (.agg #[.int .i64 y.e.K,.slice y.ba y.e.b.length y.bc,.int .i64 y.e.cut,.slice y.fa y.e.fs.length y.fc]) rfl f ?_;simp only[PS];refine PH 5 rfl (λKq K=>?_);refine LW ρ 8 #[MB x r,.agg #[.int .i64 y.e.K,.slice y.ba y.e.b.length y.bc,.int .i64 y.e.cut,.slice y.fa y.e.fs.length y.fc]] γ j.l ?_;rintro o u2 ⟨p2,rfl,T,s,cP,V⟩;refine⟨_,rfl,?_⟩;have H:=T.ev.q.at L;rw[<-b]at H;clear j;refine K.l _ _ (⟨T.r2,H.1,H.2.1,H.2.2.1,H.2.2.2⟩) (λaJ=>?_)
  try simp only[PS]
  refine RT (rs:=[6]) κ σ ?_;refine AllReadyT.last rfl (λKq K=>?_);refine LH ρ 36 _ _ ρ C 0 (OS (x.doE y.e) p2).toArray ρ ρ (T.r2.there rfl) MO κ ?_;generalize j:World.setCells _ _ _ _=t2 at s cP⊢;clear j T H M F V;refine K.l _ _ trivial (λ_=>?_)
  try simp only[PS]
  refine UY κ ?_ _
  try simp only[PS]
  have bZ:=nI O y.e;have V:=Z (λj=>Fs R.l ω O y.e j);have cE:Hid (k+2=p.length->(x.doE y.e).up=false):=Z (λe=>zG (by rw[b];exact HP.l k L e));have cC:Hid (k+1=p.length->y.e=⟨1,[],-1,[]⟩):=Z (λe=>by rw[b];exact HQ.l k L e);obtain⟨X,j⟩:∃X,X=x.doE y.e:=⟨_,rfl⟩;rw[<-j]at s bZ V cE⊢;have H:=Z ((dk bZ).1.le);have W:Hid (x.P.length<=1048576/\∀r∈x.P,r.length<=1048576):=Z (by have:=(dk O).1.le;exact⟨this.l4,λr hr=>(this.s4 r hr).1⟩);clear j b Q R O K1 I;go_upto_region 15 with fail;refine BE ?_;refine ZZ s.r1 ?_;simp only[PS];refine ZZ s.r2 ?_;simp only[PS];go_wp2_with fail;refine(Gn X A p2 t2 s.m1.q s.m2.q H.l).z ?_;rintro o t3 ⟨rfl,b⟩;have F:=s.I b;have I:=cP.I b;clear s cP b
  try simp only[PS]
  refine‹∀(a:Act) (w:Nb),wpList _ _ _ _ a w->_› _ _ ?_
  refine VR (M0 false) (VR (M0 false) ?_);simp only[PS];refine ZZ F.r1 ?_;simp only[PS];go_wp2_with fail;refine(yt X A t3 F.m1.q H.l).z ?_;rw[bZ];rintro o t4 ⟨rfl,j⟩;have b:=F.I j;have aZ:=I.I j;clear F I j;go_upto_region 17 with fail;have s:=HV.l.I b.bl;obtain⟨O,M,j⟩:=s.np;have Q:=Z (Fo X A t4 b.m1.q b.cap H.l O M j s.et s.ln);clear s j;obtain⟨s,R⟩:∃s,s=TJ X:=⟨_,rfl⟩;have T:=Z (λv hv=>Lf X p2 v hv H.l);rw[<-R]at Q T V;have cL:Hid (¬s=ByteArray.empty->∃y,MA s X.w=some y):=Z (λe=>by rw[R]at e⊢;exact Ei e);clear R;refine BE ?_;refine ZZ b.r1 ?_;simp only[PS];go_wp2_with fail;refine Q.l.z ?_;rintro o t5 ⟨rfl,I⟩;clear Q;have j:=b.I I;have Q:=aZ.I I;clear b aZ I;go_upto_region 18 with fail;refine BE ?_;refine VR (Mz s) ?_;simp only[PS];refine ZZ j.r2 ?_;simp only[PS];go_wp2_with fail
  refine(T.l t5 j.m2.q).z ?_;rintro o t6 ⟨rfl,F⟩;clear T;have b:=j.I F;have bE:=Q.I F;clear j Q F;go_upto_region 20 with fail
  by_cases R:s=ByteArray.empty
  rotate_left
  ·obtain⟨⟨j1,j2,j3,j4⟩,eQ⟩:=cL.l R
   have gF:(s.toList == (ByteArray.mk #[]).toList)=false:=cu (λe=>R e)
   have fI:s.toList≠[]:=λe=>R (by apply EP;rw[DF]at e;exact Array.toList_inj.1 e)
   have gG:(s.toList == ([]:List UInt8))=false:=by simpa using fI
   have I:=HV.l.I b.bl;obtain⟨O,M,j⟩:=I.np;have F:=Z (mt s X.w t6 O M j I.et I.ln);rw[eQ]at F;have c0:=b.r1.y 0;have T:=b.r1.lt;have Q:=b.bl;clear cL V I j eQ;go_upto_region 21 with fail;go_wp2_with fail;refine F.l.z ?_;rintro o t7 ⟨rfl,j⟩;replace Q:=Q.j (j.z Q.size);clear F c0 T j;unfold TP OE;go_upto_region 22 with fail;go_wp2;go_ret;exact⟨rfl,Q.j ((RZ t7 _).z Q.size)⟩
  subst R;obtain⟨eI,F,aM⟩:=V.l rfl;have cM:=Z eI;have cA:=Z aM;have I:=HV.l.I b.bl;obtain⟨O,M,j⟩:=I.np;have Q:=Z (mL X A t6 b.m1.q b.cap H.l O M j I.et I.ln);have cH:(RP X).1.length<=1048576:=(H.l.s4 _ F.fr).1;have cZ:=F.fd;have T:=F.fr;have eP:=F.ri;have dZ:=Z F.up;obtain⟨fs,fd,eL⟩:∃fs fd,RP X=(fs,fd):=⟨_,_,rfl⟩;rw[eL]at Q cH cZ T;simp only at cZ T cH;subst cZ;have dR:=Z T;clear cL V eI aM F eL I j T O M;go_upto_region 23 with fail;refine BE ?_;refine ZZ b.r1 ?_;simp only[PS];go_wp2_with fail;refine Q.l.z ?_;rintro o t7 ⟨fa,fc,rfl,fV,F,-,j⟩;clear Q;have M:=b.I j;have T:=bE.I j;clear b bE j;have I:=F.prs;clear F;unfold MH;go_upto_region 24 with fail;generalize V:t7.alloc _=t8;obtain⟨j,F,O⟩:=LY V;have Q:=O.q;obtain⟨b,eH⟩:∃b,b=t7.heap.size:=⟨_,rfl⟩;rw[<-eH]at Q⊢;have eB:=I.I j;clear V eH F O I;have I:=M.I j
  have V:=T.I j;clear M T j;have T:=HV.l.I I.bl;obtain⟨O,M,j⟩:=T.np;have F:=Z (Kt X A t8 I.m1.q I.cap H.l O M j T.et T.ln);rw[eP]at F;clear T j O M eP;refine BE ?_;refine VR (.int .i64 0) (VR (M0 false) (VR (M0 false) ?_));simp only[PS];refine ZZ I.r1 ?_;simp only[PS];go_wp2_with fail;refine F.l.z ?_;rintro o t9 ⟨rfl,j⟩;have eC:=eB.I j;replace Q:=Q.I j;clear F eB;have F:=I.I j;have O:=V.I j;clear I V j;have j:=Z (zo A.p X.P A.cp fa fs fc t9 F.m1.q.h4 eC H.l.l4 (λr hr=>(H.l.s4 r hr).1) cH dR.l);unfold MH at j;have M:=F.r1.y 14;have T:=F.r1.lt;have cY:=Q.y 0;have lY:=Q.lt;clear eC dR cH Q;go_wp2_with fail;refine j.l.z ?_;rintro o V ⟨rfl,I⟩;clear j M T cY lY;have cO:=F.I I;have T:=O.I I;clear F O I;go_upto_region 26 with fail;go_cut [125] from 109 to 124 (λv j=>v=M0 false/\Below V.heap.size V j)
  case first =>
   have Q:=(AB V.heap.size V).drew;have F:=cO.I Q;clear T cM cA cE cC HU W
   cases hu:X.up with
   | false =>
    refine AN (S:=λD=>Row D B (OS X A)/\True) κ (⟨F.r1,trivial⟩) (λf=>?_);refine TK 0 (Mv B 3) rfl (BO ⟨ρ,λw g=>by obtain⟨t,G⟩:=g;have l:=t.lt;go_simp⟩) f ?_;simp only[PS];refine TK 1 (M0 false) rfl (BO ⟨ρ,λw g=>by obtain⟨t,G⟩:=g;have c:=t.y 3;rw[hu]at c;go_simp⟩) f ?_;simp only[PS];refine TY 2 (M0 false) rfl f ?_;simp only[PS];refine TK 3 (undef) rfl (GD ⟨κ,rfl⟩) f ?_;simp only[PS];refine TK 4 (undef) rfl (GD ⟨κ,rfl⟩) f ?_;simp only[PS];refine TK 5 (undef) rfl (GD ⟨κ,rfl⟩) f ?_;simp only[PS];refine TK 6 (undef) rfl (GD ⟨κ,rfl⟩) f ?_;simp only[PS];refine TK 7 (undef) rfl (GD ⟨κ,rfl⟩) f ?_;simp only[PS];refine TK 8 (undef) rfl (GD ⟨κ,rfl⟩) f ?_;simp only[PS];refine TK 9 (undef) rfl (GD ⟨κ,rfl⟩) f ?_
    simp only[PS];refine TK 10 (undef) rfl (GD ⟨κ,rfl⟩) f ?_;simp only[PS];refine TK 11 (undef) rfl (GD ⟨κ,rfl⟩) f ?_;simp only[PS];refine TK 12 (undef) rfl (GD ⟨κ,rfl⟩) f ?_;simp only[PS];refine TK 13 (undef) rfl (GD ⟨κ,rfl⟩) f ?_;simp only[PS];refine TK 14 (undef) rfl (GD ⟨κ,rfl⟩) f ?_;simp only[PS];refine TK 15 (undef) rfl (GD ⟨κ,rfl⟩) f ?_;simp only[PS];refine TY 16 (M0 false) rfl f ?_;simp only[PS];refine DN ?_;go_wp2_with fail;go_meet;exact⟨rfl,Q⟩
   | true =>
    obtain⟨j,hj,v⟩:=Mm (dZ.l hu);have fH:=H.l.l4;obtain⟨I,O,pp,pc,eO,M,cc,dU⟩:=F.m1.q.h4.at (k:=j) ω;rw[v]at cc dU;have gH:IntKind.i64.wrap ((X.P.length:Int)-1)=(j:Int):=by rw[QQ _ ω ω];omega
    have fX:(j:Int)<(X.P.length:Int):=ω
    have fW:(0:Int)<=(j:Int):=ω
    clear v hj fH;refine AN (S:=λD=>Row D B (OS X A)/\D.cell? ⟨I,O+j,none⟩=some (.slice pp X.rs.length pc)) κ (⟨F.r1,cc⟩) (λf=>?_);refine TK 0 (Mv B 3) rfl (BO ⟨ρ,λw g=>by obtain⟨t,G⟩:=g;have l:=t.lt;go_simp⟩) f ?_;simp only[PS];refine TK 1 (M0 true) rfl (BO ⟨ρ,λw g=>by obtain⟨t,G⟩:=g;have c:=t.y 3;rw[hu]at c;go_simp⟩) f ?_;simp only[PS];refine TY 2 (M0 true) rfl f ?_;simp only[PS];refine TK 3 (Mv B 14) rfl (BO ⟨ρ,λw g=>by obtain⟨t,G⟩:=g;have l:=t.lt;go_simp⟩) f ?_;simp only[PS];refine TK 4 (.slice (Mw I O) X.P.length A.cp) rfl (BO ⟨ρ,λw g=>by obtain⟨t,G⟩:=g;have c:=t.y 14;rw[eO]at c;go_simp⟩) f ?_;simp only[PS];refine TK 5 (Mv B 14) rfl (BO ⟨ρ,λw g=>by obtain⟨t,G⟩:=g;have l:=t.lt;go_simp⟩) f ?_
    simp only[PS];refine TK 6 (.slice (Mw I O) X.P.length A.cp) rfl (BO ⟨ρ,λw g=>by obtain⟨t,G⟩:=g;have c:=t.y 14;rw[eO]at c;go_simp⟩) f ?_;simp only[PS];refine TY 7 (.int .i64 (X.P.length:Int)) rfl f ?_;simp only[PS];refine TY 8 (.int .i64 (j:Int)) rfl f ?_;simp only[PS];refine TY 9 (Mv I (O+j)) rfl f ?_;simp only[PS];refine TY 10 (.agg #[.slice pp X.rs.length pc]) rfl f ?_;simp only[PS];refine TK 11 (Mv B 4) rfl (BO ⟨ρ,λw g=>by obtain⟨t,G⟩:=g;have l:=t.lt;go_simp⟩) f ?_;simp only[PS];refine TK 12 (Mv B 13) rfl (BO ⟨ρ,λw g=>by obtain⟨t,G⟩:=g;have l:=t.lt;go_simp⟩) f ?_;simp only[PS];refine TK 13 (.agg #[.slice A.s X.rs.length A.cs]) rfl (BO ⟨ρ,λw g=>by obtain⟨t,G⟩:=g;have c:=t.y 13;go_simp⟩) f ?_;simp only[PS];refine RD 14 rfl (λKq K=>?_)
    refine Jt ρ _ _ γ (kz pp A.s X.rs X.rs pc A.cs _ dU.l F.m1.q.h3 H.l.l3 H.l.l3) ?_;rw[AL (rfl:X.rs=X.rs)];rintro o gJ ⟨rfl,v⟩;refine⟨_,rfl,?_⟩;have D:=Q.j (v.z Q.size);refine K.l _ _ (⟨F.r1.I v,(v.cell (p:=⟨I,O+j,none⟩) M).j cc⟩) (λaJ=>?_)
    try simp only[PS]
    refine TY 15 (M0 false) rfl aJ ?_;simp only[PS];refine TY 16 (M0 false) rfl aJ ?_;simp only[PS];refine DN ?_;go_wp2_with fail;go_meet;exact⟨rfl,D⟩
  case rest =>
   obtain⟨rfl,v⟩:=hcut;have D:=cO.I v;have F:=T.I v;clear cO T v dZ;go_upto_region 28 with fail;have gI:IntKind.i64.wrap ((p.length:Int)-1)=(p.length:Int)-1:=QQ _ ω ω;have fZ:IntKind.i64.wrap ((k:Int)+1)=(k:Int)+1:=QQ _ ω ω;have v:=Z (AH cM.l cE.l);clear cM cE
   by_cases I:k+1=p.length
   ·obtain⟨u1,u2⟩:=cA.l (HU.l I) (cC.l I)
    have fF:((k:Int) == (p.length:Int)-1)=true:=by rw[beq_iff_eq];omega
    have O:=D.r1.y 3;rw[u1]at O;have fB:=D.r1.y 13;have T:=D.r1.lt;have j:=Z (zo r.p x.P r.cp A.s X.rs A.cs _ F.q.h4 D.m1.q.h3 W.l.1 W.l.2 H.l.l3 u2);unfold MH at j;clear cA HU cC W F u2;go_wp2_with fail;refine j.l.z ?_;rintro o gK ⟨rfl,M⟩;have Q:=D.I M;clear j O fB T D M;go_wp2;go_roundw
    case rel=>exact⟨k+1,X,A,p2,ν,ω,Q,v.l.1,bZ,λe=>v.l.2 ω⟩
    case measure=>simp[intOf];omega
   have fF:((k:Int) == (p.length:Int)-1)=false:=by rw[EO];omega
   clear cA HU cC W F;go_wp2;go_roundw
   case rel=>exact⟨k+1,X,A,p2,ν,ω,D,v.l.1,bZ,λe=>v.l.2 ω⟩
   case measure=>simp[intOf];omega
