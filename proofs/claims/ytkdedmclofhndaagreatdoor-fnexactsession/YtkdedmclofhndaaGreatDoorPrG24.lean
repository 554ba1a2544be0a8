import Derived.Test.YtkdedmclofhndaaGreatDoorPrG30
import Derived.Test.YtkdedmclofhndaaGreatDoorPrG29
import Derived.Maps.Own
import Derived.Maps.Views
import Derived.ProofKit
import Derived.OpenShut
import Derived.ShutString
import Derived.ChangeOld
import Derived.OpenVars
import Derived.LaidLaws
import Derived.LaidHandle
import Derived.Lib.LaidTab
import Derived.Deep.DeepHandedRow
import Derived.Test.YtkdedmclofhndaaGreatDoorCards
import Derived.Test.YtkdedmclofhndaaGreatDoorTie
set_option maxHeartbeats 64000000
set_option maxRecDepth 8000
set_option linter.all false
namespace Go.Proofs.YtkdedmclofhndaaGreatDoor
open _root_.ByteArray(empty)
section
open _root_.Go.Proofs.Tryz
open Go.RowKit Go.Proofs.YtkdedmclofhndaaGreatDoor.nw
variable {s:yZ}{n:Nat}
structure Dk where
 x:Wo
 b:List Ch
def Qc(n a:Int):Wo:={ w:=a,ss:=newSS n,ws:=[],up:=false,W:=0,S:=0,L:=0,T:=0,H:=0,F:=0,R:=0,U:=0,O:=0,rs:=[],P:=[[]],ts:=[] }
theorem Rm{n b:Int}(h:nwOk n b):LW (Qc n b)=true:=by
 have c:LO (newSS n) []=true:=by
  unfold newSS;rw[AI h.1];exact ma (by have:=h.1;rw[DU];simp;omega) (λs a=>by rw[List.eq_of_mem_replicate a];decide) (λx d=>by cases d)
 have d:PW [[]]=true:=by unfold PW;simp[VB]
 have a:OW (Qc n b)=true:=rfl;have e:QP []=true:=rfl;unfold LW;simp only[BD,BG];exact⟨h.2,c,a,d,e⟩
abbrev O0:yZ:=⟨#[98,97,100]⟩
abbrev Qd:yZ:=⟨#[100,111,119,110]⟩
abbrev wPut:yZ:=⟨#[112,117,116]⟩
abbrev wDel:yZ:=⟨#[100,101,108]⟩
abbrev Rk:yZ:=⟨#[103,101,116]⟩
abbrev P6:yZ:=⟨#[102,111,117,110,100]⟩
abbrev Qv:yZ:=⟨#[114,111,111,109]⟩
abbrev Qn:yZ:=⟨#[112,111,119,101,114]⟩
abbrev Ql:yZ:=⟨#[100,105,115,107]⟩
abbrev Re:yZ:=⟨#[111,112,101,110]⟩
abbrev P2:yZ:=⟨#[99,111,109,109,105,116]⟩
abbrev Qm:yZ:=⟨#[102,108,117,115,104]⟩
abbrev Ps:yZ:=⟨#[99,111,109,112,97,99,116]⟩
def P4(d:Dk)(c:Ch):Dk×yZ:=(⟨d.x,d.b++[c]⟩,⟨#[119,97,105,116,32]⟩++LH (d.b.length+1))
def Q8(d:Dk)(a:List yZ):Dk×yZ:=if QX a=true/\a.length=2 then P4 d ((PD a).getD 0 empty,(PD a).getD 1 empty,false) else (d,O0)
def Q6(d:Dk)(a:List yZ):Dk×yZ:=if QX a=true/\a.length=1 then P4 d ((PD a).getD 0 empty,empty,true) else (d,O0)
def Rg(x:Wo)(k:yZ):yZ:=if (Pe (x.P.getD (x.P.length-1) []) k).isSome=true then SR ((Pe (x.P.getD (x.P.length-1) []) k).getD ⟨#[]⟩) else ⟨#[110,111,110,101]⟩
def Rh(d:Dk)(a:List yZ):Dk×yZ:=if QX a=true/\a.length=1 then (d,Rg d.x ((PD a).getD 0 empty)) else (d,O0)
def Sb(x:Wo):yZ:=LH (NP x).2.toNat++⟨#[32,112,97,105,114,115,32]⟩++LH (NP x).1.length++(if RZ x=true then ⟨#[32,114,105,103,104,116]⟩ else ⟨#[32,119,114,111,110,103]⟩)
def Q1(x:Wo):yZ:=if (UE x).size=0 then Sb x else Sb x++⟨#[32,102,111,114,103,101,100]⟩
def Rf(d:Dk)(a:List yZ):Dk×yZ:=if a.length=0 then (d,Q1 d.x) else (d,O0)
def Q3(x:Wo):yZ:=if x.up=true then LH x.U.toNat++⟨#[32,111,102,32]⟩++LH (hv x.S).toNat else Qd
def Ri(d:Dk)(a:List yZ):Dk×yZ:=if a.length=0 then (d,Q3 d.x) else (d,O0)
def Ss(d:Dk)(a:List yZ):Dk×yZ:=if MZ a=true then (⟨d.x.doR ⟨5,[],0,OZ a⟩,d.b⟩,Qd) else (d,O0)
def Qb(d:Dk)(a:List yZ):Dk×yZ :=if MZ a=true/\a.length=2 then
  if nwOk ((OZ a).getD 0 0) ((OZ a).getD 1 0) then (⟨Qc ((OZ a).getD 0 0) ((OZ a).getD 1 0),d.b⟩,⟨#[111,107]⟩) else (d,⟨#[110,111]⟩)
 else (d,O0)
def Tl(k:Int)(b:List Ch)(a:List Int):Ev:=⟨k,if k=2 then b else [],a.getD 0 (-1),a.drop 1⟩
def codeP(x:Wo)(e:Ev):Nat:=if (x.call e).2=true then (x.call e).1.C.toNat else 9
def XN(x:Wo)(e:Ev):yZ:=(if (x.doR e).up=true then ⟨#[117,112,32]⟩ else ⟨#[100,111,119,110,32]⟩)++LH (codeP x e)
def Pp(k:Int)(d:Dk)(a:List yZ):Dk×yZ:=if MZ a=true then (⟨d.x.doR (Tl k d.b (OZ a)),if k=2 then [] else d.b⟩,XN d.x (Tl k d.b (OZ a))) else (d,O0)
def Pk(d:Dk)(f:yZ)(a:List yZ):Dk×yZ :=if f=wPut then Q8 d a
 else if f=wDel then Q6 d a
 else if f=Rk then Rh d a
 else if f=P6 then Rf d a
 else if f=Qv then Ri d a
 else if f=Qn then Ss d a
 else if f=Ql then Qb d a
 else if f=Re then Pp 1 d a
 else if f=P2 then Pp 2 d a
 else if f=Qm then Pp 3 d a
 else if f=Ps then Pp 4 d a
 else (d,O0)
def Qs(a:List yZ):Bool:=a.any λs=>decide (s.size=0)
def Oy(d:Dk)(s:yZ):Dk×yZ:=if Qs (MB 32 s)=true then (d,O0) else Pk d ((MB 32 s).getD 0 empty) ((MB 32 s).drop 1)
def Pb:Dk->List yZ->List UInt8
 | _,[]=>[]
 | d,s::r=>(Oy d s).2.data.toList++10::Pb (Oy d s).1 r
def Po:Dk->List yZ->Dk
 | d,[]=>d
 | d,s::r=>Po (Oy d s).1 r
def Qi(t:yZ):yZ:=if 20000<t.size\/400<(TW t).length then ⟨#[116,111,111,32,108,111,110,103,10]⟩ else ⟨(Pb ⟨Qc 40 8,[]⟩ (TW t)).toArray⟩
theorem Qa:∀(ls:List yZ) (d:Dk) (s:yZ),Pb d (ls++[s])=Pb d ls++((Oy (Po d ls) s).2.data.toList++[10])
 | [],d,s=>by simp[Pb,Po]
 | t::ls,d,s=>by
  show(Oy d t).2.data.toList++10::Pb (Oy d t).1 (ls++[s])=((Oy d t).2.data.toList++10::Pb (Oy d t).1 ls)++_;rw[Qa ls];simp[Po]
theorem Qx:∀(ls:List yZ) (d:Dk) (s:yZ),Po d (ls++[s])=(Oy (Po d ls) s).1
 | [],d,s=>rfl
 | t::ls,d,s=>Qx ls _ s
structure Dk.ok(d:Dk)(n:Nat):Prop where
 w:LW d.x=true
 l:d.b.length<=n
 s:∀c∈d.b,c.1.size<=30000/\c.2.1.size<=30000
theorem Dk.ok.J{d:Dk}{m:Nat}(h:d.ok n)(k:n<=m):d.ok m:=⟨h.w,AJ h.l k,h.s⟩
theorem Tq:∀(k:Nat) (l r:List UInt8),TH k l=some r->r.length<=l.length
 | k,[],r,h=>by
  have e:some []=some r:=by rw[<-h];cases k<;>rfl
  cases e
  exact AA _
 | 0,c::l,r,h=>by simp[TH]at h
 | k+1,c::l,r,h=>by
  rw[TH]at h
  split at h
  ·obtain⟨t,a,rfl⟩:=DZ.1 h
   have:=Tq k l t a;simp only[BJ];omega
  split at h
  ·obtain⟨x,d,b⟩:=Option.bind_eq_some_iff.1 h
   obtain⟨t,a,rfl⟩:=DZ.1 b;have:=Tq k _ t a;rw[BQ]at this;simp only[BJ];omega
  cases h
theorem Xv{t:yZ}(h:MU s=some t):t.size<=s.size:=by
 unfold MU at h
 split at h
 ·cases h;exact AL _
 obtain⟨l,a,rfl⟩:=DZ.1 h
 exact Tq _ _ _ a
theorem Xw{a:List yZ}(h:∀s∈a,s.size<=20000):∀t∈PD a,t.size<=20000:=by
 intro t c;obtain⟨s,b,rfl⟩:=DT.1 c
 cases e:MU s with
 | none=>exact AL _
 | some t=>exact AJ (Xv e) (h s b)
theorem Sq{l:List yZ}{N:Nat}(h:∀t∈l,t.size<=N)(i:Nat):(l.getD i empty).size<=N:=by
 by_cases a:i<l.length
 ·rw[show l.getD i empty=l[i] by simp[List.getD,a]];exact h _ (GA a)
 rw[show l.getD i empty=empty by simp[List.getD,List.getElem?_eq_none (show l.length<=i by omega)]];exact AL _
theorem T2(W S L T H F:Int)(a:List Pr):0<=(OH W S L T H F a).C/\(OH W S L T H F a).C<=9:=by
 unfold OH WU
 split<;>simp[LJ]
theorem T4(a:List yZ)(b:List (Int×yZ))(n:Int):0<=(NM a b n).C/\(NM a b n).C<=9:=by
 unfold NM
 split
 ·split
  ·simp[LJ]
  split
  ·simp[LJ]
  split
  ·simp[LJ]
  split
  ·exact T2 _ _ _ _ _ _ _
  simp
 simp[LJ]
theorem Ud(W S L T H F R U O:Int)(a:List Pr)(b:List Ch):0<=(PJ W S L T H F R U O a b).C/\(PJ W S L T H F R U O a b).C<=9:=by
 unfold PJ
 split
 ·split
  ·split
   ·split<;>simp[LJ]
   simp[LJ]
  simp[LJ]
 simp[LJ]
theorem U8(W S L T H F R U O:Int)(a:List Pr):0<=(PZ W S L T H F R U O a).C/\(PZ W S L T H F R U O a).C<=9:=by
 unfold PZ
 split<;>simp[LJ]
theorem Tg(W S L T H F R U O:Int)(a:List Pr):0<=(OY W S L T H F R U O a).C/\(OY W S L T H F R U O a).C<=9:=by
 unfold OY
 split
 ·exact T2 _ _ _ _ _ _ _
 simp[LJ]
theorem Te(x:Wo)(e:Ev):0<=(x.call e).1.C/\(x.call e).1.C<=9:=by
 unfold Wo.call
 split
 ·exact T4 _ _ _
 split
 ·exact Ud _ _ _ _ _ _ _ _ _ _ _
 split
 ·exact U8 _ _ _ _ _ _ _ _ _ _
 split
 ·exact Tg _ _ _ _ _ _ _ _ _ _
 simp[LJ]
theorem Rt(x:Wo)(e:Ev):codeP x e<=9:=by
 unfold codeP;have:=Te x e
 split<;>omega
theorem U7(x:Wo):0<=(NP x).2/\(NP x).2<=9:=by
 unfold NP
 split
 ·exact T4 _ _ _
 simp
theorem U6{x:Wo}(h:LW x=true)(e:Ev):LW (x.doR e)=true:=by unfold Wo.doR;rw[AI h];exact De h e
theorem Td{d:Dk}{c:Ch}(h:d.ok n)(a:c.1.size<=30000/\c.2.1.size<=30000):(P4 d c).1.ok (n+1) :=⟨h.w,by have:=h.l;simp[P4];omega,λx b=>by
  rcases BZ.1 b with k|k
  ·exact h.s x k
  rw[DK.1 k];exact a⟩
theorem Vw{d:Dk}(h:d.ok n)(f:yZ)(g:List yZ)(j:∀s∈g,s.size<=20000):(Pk d f g).1.ok (n+1):=by
 have a:d.ok (n+1):=h.J ω
 have e:=λi=>Sq (Xw j) i
 have b:∀k,(Pp k d g).1.ok (n+1):=λk=>by
  unfold Pp
  split
  ·refine⟨U6 h.w _,?_,?_⟩
   ·show(if k=2 then [] else d.b).length<=n+1
    split
    ·exact AL _
    exact a.l
   show ∀c∈(if k=2 then [] else d.b),_
   split
   ·intro c l;cases l
   exact h.s
  exact a
 unfold Pk
 split
 ·unfold Q8
  split
  ·exact Td h ⟨AJ (e 0) δ,AJ (e 1) δ⟩
  exact a
 split
 ·unfold Q6
  split
  ·exact Td h ⟨AJ (e 0) δ,AL _⟩
  exact a
 split
 ·unfold Rh;split<;>exact a
 split
 ·unfold Rf;split<;>exact a
 split
 ·unfold Ri;split<;>exact a
 split
 ·unfold Ss
  split
  ·exact⟨U6 h.w _,a.l,h.s⟩
  exact a
 split
 ·unfold Qb
  split
  ·split
   ·rename_i k;exact⟨Rm k,a.l,h.s⟩
   exact a
  exact a
 split
 ·exact b 1
 split
 ·exact b 2
 split
 ·exact b 3
 split
 ·exact b 4
 exact a
theorem Wl(a:s.size<=20000):∀t∈(MB 32 s).drop 1,t.size<=20000:=λt b=>AJ (jv (EY b)) a
theorem Vc{d:Dk}(h:d.ok n)(a:s.size<=20000):(Oy d s).1.ok (n+1):=by
 unfold Oy
 split
 ·exact h.J ω
 exact Vw h _ _ (Wl a)
theorem S9{t:yZ}(a:t.size<=20000)(h:s∈TW t):s.size<=20000:=by
 have:s∈MB 10 t:=by
  unfold TW at h
  split at h
  ·exact(List.dropLast_sublist _).subset h
  exact h
 exact AJ (jv this) a
theorem Q0:∀(ls:List yZ) (d:Dk) (n:Nat),d.ok n->(∀s∈ls,s.size<=20000)->(Po d ls).ok (n+ls.length)
 | [],d,n,h,_=>h
 | s::r,d,n,h,hs=>(Q0 r _ (n+1) (Vc h (hs s σ)) (λt ht=>hs t (by simp[ht]))).J τ
theorem Pl(h:n<1000000000):(LH n).size<=9:=p7 8 n h
theorem Xu(h:s.size<=100):(SR s).size<=300:=by
 unfold SR
 split
 ·exact(by decide:(1:Nat)<=300)
 split
 ·exact(by decide:(3:Nat)<=300)
 have:=lU s.data.toList
 have e:s.data.toList.length=s.size:=rfl;show(SA s.data.toList).length<=300;omega
theorem Sp{a:List Pr}{k v:yZ}(h:Pe a k=some v):v.size<=100:=by
 unfold Pe at h
 split at h
 ·rename_i c
  obtain⟨p,b,rfl⟩:=DZ.1 h;have:=(((P0 a).1 c).2.1 p (List.mem_of_find?_eq_some b)).2;unfold OB at this;simpa using this
 cases h
theorem V8(x:Wo)(k:yZ):(Rg x k).size<=300:=by
 unfold Rg
 cases e:Pe (x.P.getD (x.P.length-1) []) k with
 | none=>exact(by decide:(4:Nat)<=300)
 | some v=>exact Xu (Sp e)
theorem V7(x:Wo):(Q1 x).size<=300:=by
 have a:(LH (NP x).2.toNat).size<=9:=Pl (by have:=U7 x;omega);have b:(LH (NP x).1.length).size<=9:=Pl (by have:=jm x;omega)
 have c:(Sb x).size<=40:=by
  unfold Sb
  split<;>(simp only[BW];show _+7+_+6<=40;omega)
 unfold Q1
 split
 ·omega
 rw[BW];show _+7<=300;omega
theorem Wg{x:Wo}(h:LW x=true):(Q3 x).size<=300:=by
 unfold Q3
 split
 ·rename_i c
  have a:OW x=true:=by unfold LW at h;simp only[BD]at h;exact h.2.2.1
  unfold OW at a;rw[AI c]at a;unfold NX at a;simp only[BD,BG]at a;have f:=a.1.1.1.1.2;have g:=PG a.1.1.1.1.1.1.1.2;have d:(LH x.U.toNat).size<=9:=Pl ω;have e:(LH (hv x.S).toNat).size<=9:=Pl ω;simp only[BW];show _+4+_<=300;omega
 exact(by decide:(4:Nat)<=300)
theorem Xi(x:Wo)(e:Ev):(XN x e).size<=300:=by
 have a:(LH (codeP x e)).size<=9:=Pl (by have:=Rt x e;omega);unfold XN;rw[BW]
 split
 ·show 3+_<=300;omega
 show 5+_<=300;omega
theorem R0{d:Dk}(h:d.ok n)(f:n<=1000)(s:yZ):(Oy d s).2.size<=300:=by
 have b:O0.size<=300:=δ
 have e:∀c,(P4 d c).2.size<=300:=λc=>by
  have a:(LH (d.b.length+1)).size<=9:=Pl (by have:=h.l;omega);show((⟨#[119,97,105,116,32]⟩:yZ)++LH (d.b.length+1)).size<=300;rw[BW];show 5+_<=300;omega
 have c:∀k a,(Pp k d a).2.size<=300:=λk a=>by
  unfold Pp
  split
  ·exact Xi _ _
  exact b
 unfold Oy
 split
 ·exact b
 unfold Pk
 split
 ·unfold Q8
  split
  ·exact e _
  exact b
 split
 ·unfold Q6
  split
  ·exact e _
  exact b
 split
 ·unfold Rh
  split
  ·exact V8 _ _
  exact b
 split
 ·unfold Rf
  split
  ·exact V7 _
  exact b
 split
 ·unfold Ri
  split
  ·exact Wg h.w
  exact b
 split
 ·unfold Ss
  split
  ·exact(by decide:Qd.size<=300)
  exact b
 split
 ·unfold Qb
  split
  ·split
   ·exact(by decide:(2:Nat)<=300)
   exact(by decide:(2:Nat)<=300)
  exact b
 split
 ·exact c _ _
 split
 ·exact c _ _
 split
 ·exact c _ _
 split
 ·exact c _ _
 exact b
end
section
open _root_.Go.Proofs.Tryz
open Go.RowKit Go.Proofs.YtkdedmclofhndaaGreatDoor.nw
def Ry(s:yZ):Int:=if s=Re then 1 else if s=P2 then 2 else if s=Qm then 3 else if s=Ps then 4 else 0
theorem Pc{s:yZ}{l:List UInt8}(h:s=⟨l.toArray⟩):(s.toList == l)=true:=by rw[RA,h];simp
theorem O7{s:yZ}{l:List UInt8}(h:¬s=⟨l.toArray⟩):(s.toList == l)=false:=by rw[RA];exact BI.2 (λe=>h (TE (by rw[e])))
theorem Xm(s:yZ)(w:xV):Calls prog 32 #[yQ s] w λr a=>r=yT (Z (Ry s))/\a=w:=by
 unfold Ry
 by_cases a:s=Re
 ·rw[AI a]
  have b:=Pc (l:=[111,112,101,110]) a;clear a;go_enter func32,ntmps32;go_wp2;exact AE (v:=Z 1) (by simp[results,results32]) rfl ⟨rfl,rfl⟩
 rw[AF a];have b:=O7 (l:=[111,112,101,110]) a;clear a
 by_cases a:s=P2
 ·rw[AI a]
  have c:=Pc (l:=[99,111,109,109,105,116]) a;clear a;go_enter func32,ntmps32;go_wp2;exact AE (v:=Z 2) (by simp[results,results32]) rfl ⟨rfl,rfl⟩
 rw[AF a];have c:=O7 (l:=[99,111,109,109,105,116]) a;clear a
 by_cases a:s=Qm
 ·rw[AI a]
  have k3:=Pc (l:=[102,108,117,115,104]) a;clear a;go_enter func32,ntmps32;go_wp2;exact AE (v:=Z 3) (by simp[results,results32]) rfl ⟨rfl,rfl⟩
 rw[AF a];have k3:=O7 (l:=[102,108,117,115,104]) a;clear a
 by_cases a:s=Ps
 ·rw[AI a]
  have d:=Pc (l:=[99,111,109,112,97,99,116]) a;clear a;go_enter func32,ntmps32;go_wp2;exact AE (v:=Z 4) (by simp[results,results32]) rfl ⟨rfl,rfl⟩
 rw[AF a];have d:=O7 (l:=[99,111,109,112,97,99,116]) a;clear a;go_enter func32,ntmps32;go_wp2;exact AE (v:=Z 0) (by simp[results,results32]) rfl ⟨rfl,rfl⟩
theorem V6(C W S L T H F R U O:Int)(a b:qD)(w:xV):Sem.run prog (Instr.field 102 (.agg #[Z C,Z W,Z S,Z L,Z T,Z H,Z F,Z R,Z U,Z O,a,b]) 0) w=.ok (Z C) w:=κ
theorem Vx{x:Wo}{e:Ev}{D:Dd}(h:x.call e=(D,false)):(codeP x e:Int)=9:=by unfold codeP;rw[h];rfl
theorem Uy{x:Wo}{e:Ev}{D:Dd}(h:x.call e=(D,true)):(codeP x e:Int)=D.C:=by
 have:=Te x e;unfold codeP;rw[h]at this⊢;rw[AI rfl];have a:0<=D.C:=this.1;show((D.C.toNat:Nat):Int)=D.C;omega
theorem Uz(x:Wo)(q:Wp)(e:Ev)(a:xA)(c:Nat)(f:xA)(d:Nat)(w:xV)(h:x.at w q)(X:x.rs.length<=q.cs)(p:x.le 1048576)(h2:Chs w a e.b)(he:e.le)(K:1<=e.K/\e.K<=4)(hv:Vz w):Calls prog 106 #[LT x q,NR e a c f d] w λr b=>r=yT (Z (codeP x e:Int))/\yX w b:=by
 have M:=Y (λb g l (k3:Vz b)=>show Calls prog 117 _ b _ by
  obtain⟨ty,gv,hn⟩:=k3.np
  exact ug q.a x.ss q.c q.a' x.ws q.c' x.w b g l p.l1 p.l2 p.s1 p.s2 ty gv hn k3.et (by have:=k3.sz;omega))
 have B:=Y (λb g l=>yU x.W x.S x.L x.T x.H x.F x.R x.U x.O q.s x.rs q.cs a e.b c b g X p.l3 p.s3 l he.b.1 he.b.2);have E:=Y (λb g=>wV x.W x.S x.L x.T x.H x.F x.R x.U x.O q.s x.rs q.cs b g X p.l3 p.s3);have G:=Y (λb g=>yH x.W x.S x.L x.T x.H x.F x.R x.U x.O q.s x.rs q.cs b g X p.l3 p.s3);unfold LM at M;unfold MI at B E G;have aG:=Y (λD (k:x.call e=(D,false))=>Vx k);have J:=Y (λD (k:x.call e=(D,true))=>Uy k);obtain⟨N,HN⟩:∃N:Int,Hid (N=(codeP x e:Int)):=⟨_,Y rfl⟩;rw[<-HN.j]at aG J⊢;have I:=Y h;have aN:=Y h2;have HV:=Y hv;clear h h2 X p he hv;unfold LT NR;go_enter func106,ntmps106;go_upto_region 1 with fail;generalize b:w.alloc _=s;obtain⟨i,t,v⟩:=LK b;clear b;generalize b:s.alloc _=m;obtain⟨n,u,o⟩:=LK b;clear b;rw[t]at o u;have b:=i.E (n.J i.size);have j:=(v.I n).q;have z:=o.q
 clear i n v o t u;have Q:=z.y 0;have V:=z.lt;have t:=j.y 3;have P:=j.lt
 by_cases g:e.K=1
 ·have kb:(e.K == 1)=true:=by simp[g]
  have i:x.call e=(NM x.ss x.ws x.w,!x.up):=by unfold Wo.call;rw[AI g]
  clear g K B E G
  cases hu:x.up with
  | true =>
   rw[hu]at i t;have n:=Y (aG.j _ i);go_wp2;refine AE (v:=Z 9) (by simp[results,results106]) rfl ⟨by rw[n.j],b⟩
  | false =>
   rw[hu]at i t;have n:=Y (J.j _ i);obtain⟨o,u,v⟩:=j.k3;go_wp2_with fail;clear o u v t Q V P;refine(M.j m (I.j.I b).h1 (I.j.I b).h2 (HV.j.I b)).J ?_;rintro r A ⟨⟨oa,oc,ob,oe,rfl,aA,own,u,v,o⟩,y⟩;unfold MD;clear y own u v;have u:=Y (b.E (o.J b.size));clear o b j z
   have o:=λC W S L T H F R U O s m=>V6 C W S L T H F R U O s m A
   go_wp2;refine AE (v:=Z (NM x.ss x.ws x.w).C) (by simp[results,results106]) rfl ⟨by rw[n.j],u.j⟩
 have kb:(e.K == 1)=false:=by simp[g]
 cases hu:x.up with
 | false =>
  have i:∃D,x.call e=(D,false):=by
   unfold Wo.call;rw[AF g,hu]
   by_cases l:e.K=2
   ·rw[AI l];exact⟨_,rfl⟩
   rw[AF l]
   by_cases k3:e.K=3
   ·rw[AI k3];exact⟨_,rfl⟩
   rw[AF k3,AI ω];exact⟨_,rfl⟩
  obtain⟨D,i⟩:=i;have n:=Y (aG.j _ i);rw[hu]at t;clear i g K B E G M;go_wp2;refine AE (v:=Z 9) (by simp[results,results106]) rfl ⟨by rw[n.j],b⟩
 | true =>
 rw[hu]at t;have d4:=j.y 4;have d5:=j.y 5;have d6:=j.y 6;have d7:=j.y 7;have d8:=j.y 8;have d9:=j.y 9;have aH:=j.y 10;have aI:=j.y 11;have aJ:=j.y 12;have aK:=j.y 13;clear M
 by_cases l:e.K=2
 ·have M:(e.K == 2)=true:=by simp[l]
  have i:x.call e=(PJ x.W x.S x.L x.T x.H x.F x.R x.U x.O x.rs e.b,true):=by unfold Wo.call;rw[AF g,AI l,hu]
  have n:=Y (J.j _ i);have o:=z.y 1;clear g l K E G i;go_wp2_with fail;clear t d4 d5 d6 d7 d8 d9 aH aI aJ aK Q o V P;refine(B.j m (I.j.I b).h3 (aN.j.I b)).J ?_;rintro r A ⟨⟨oa,oc,ob,oe,rfl,aA,own,u,v,o⟩,y⟩;unfold MD;clear y own u v;have u:=Y (b.E (o.J b.size));clear o b j z
  have o:=λC W S L T H F R U O s m=>V6 C W S L T H F R U O s m A
  go_wp2;refine AE (v:=Z (PJ x.W x.S x.L x.T x.H x.F x.R x.U x.O x.rs e.b).C) (by simp[results,results106]) rfl ⟨by rw[n.j],u.j⟩
 have M:(e.K == 2)=false:=by simp[l]
 by_cases k3:e.K=3
 ·have aP:(e.K == 3)=true:=by simp[k3]
  have i:x.call e=(PZ x.W x.S x.L x.T x.H x.F x.R x.U x.O x.rs,true):=by unfold Wo.call;rw[AF g,AF l,AI k3,hu]
  have n:=Y (J.j _ i);clear g l k3 K B G i;go_wp2_with fail;clear t d4 d5 d6 d7 d8 d9 aH aI aJ aK Q V P;refine(E.j m (I.j.I b).h3).J ?_;rintro r A ⟨⟨oa,oc,ob,oe,rfl,aA,own,u,v,o⟩,y⟩;unfold MD;clear y own u v;have u:=Y (b.E (o.J b.size));clear o b j z
  have o:=λC W S L T H F R U O s m=>V6 C W S L T H F R U O s m A
  go_wp2;refine AE (v:=Z (PZ x.W x.S x.L x.T x.H x.F x.R x.U x.O x.rs).C) (by simp[results,results106]) rfl ⟨by rw[n.j],u.j⟩
 have aP:(e.K == 3)=false:=by simp[k3]
 have i:x.call e=(OY x.W x.S x.L x.T x.H x.F x.R x.U x.O x.rs,true):=by unfold Wo.call;rw[AF g,AF l,AF k3,AI ω,hu]
 have n:=Y (J.j _ i);clear g l k3 K B E i;go_wp2_with fail;clear t d4 d5 d6 d7 d8 d9 aH aI aJ aK Q V P;refine(G.j m (I.j.I b).h3).J ?_;rintro r A ⟨⟨oa,oc,ob,oe,rfl,aA,own,u,v,o⟩,y⟩;unfold MD;clear y own u v;have u:=Y (b.E (o.J b.size));clear o b j z
 have o:=λC W S L T H F R U O s m=>V6 C W S L T H F R U O s m A
 go_wp2;refine AE (v:=Z (OY x.W x.S x.L x.T x.H x.F x.R x.U x.O x.rs).C) (by simp[results,results106]) rfl ⟨by rw[n.j],u.j⟩
end
section
open _root_.Go.Proofs.Tryz
open Go.RowKit Go.Proofs.YtkdedmclofhndaaGreatDoor.nw
@[reducible] def MN(x:Wo)(q:Wp):List qD:=(wL x q)
@[reducible] def ii(d:Dk)(q:Wp)(a:xA)(c:Nat):List qD:=[Z d.x.w,yI q.a d.x.ss.length q.c,yI q.a' d.x.ws.length q.c',yR d.x.up,Z d.x.W,Z d.x.S,Z d.x.L,Z d.x.T,Z d.x.H,Z d.x.F,Z d.x.R,Z d.x.U,Z d.x.O,yI q.s d.x.rs.length q.cs,yI q.p d.x.P.length q.cp,yI q.t d.x.ts.length q.ct,yI a d.b.length c]
structure DkN(w:xV)(B:Nat)(d:Dk)(G:Nat->Prop)(q:Wp)(a:xA)(c:Nat):Prop where
 r:Row w B (ii d q a c)
 m:DepF w (λb=>G b/\b≠B/\(yI a d.b.length c).ownBlock≠some b) (λW=>d.x.at W q)
 o:w.ownsRow (B+1) 92 3 (yI a d.b.length c) d.b.length (MS d.b)
 gB:G B
 gO:∀b,(yI a d.b.length c).ownBlock=some b->G b
structure DkI(w:xV)(B:Nat)(d:Dk)(G:Nat->Prop)(q:Wp)(a:xA)(c:Nat):Prop extends DkN w B d G q a c where
 cap:d.x.rs.length<=q.cs
structure Fr(w w':xV)(G:Nat->Prop):Prop where
 os:w'.os=w.os
 tape:w'.tape=w.tape
 output:w'.output=w.output
 size:w.heap.size<=w'.heap.size
 block:∀b,b<w.heap.size->¬G b->w'.heap[b]?=w.heap[b]?
section
variable {w w' w1 v u:xV} {B:Nat} {d:Dk} {G H:Nat->Prop} {q q':Wp} {a:xA} {c:Nat}
theorem O1{f:Nat}{e:TypeId}{s:Nat}{x:qD}{n:Nat}{o:List qD}(h:w.ownsRow f e s x n o){b:Nat}(k:x.ownBlock=some b):f<=b/\b<w.heap.size:=by
 rcases h.2 with ⟨rfl,_⟩|⟨g,i,j,rfl,l,m,_⟩
 ·cases k
 cases k
 exact⟨l,(AP.1 m).1⟩
theorem DkN.step(h:DkN w B d G q a c)(e:Below 0 w w')(f:∀b,G b->b<w.heap.size->w'.heap[b]?=w.heap[b]?):DkN w' B d G q a c :=⟨SX h.r (f B h.gB h.r.lt) (AC h.r.lt e.size),h.m.step e (λb k l=>f b k.1 l),(WR (F:=G) h.o h.gO).keep w' e f,h.gB,h.gO⟩
theorem DkN.I(h:DkN w B d G q a c)(e:yX w w'):DkN w' B d G q a c:=h.step (e.J (AL _)) (λb _ l=>e.block b l)
theorem DkN.J(h:DkN w B d G q a c)(e:∀b,b<w.heap.size->G b->H b):DkN w B d H q a c :=⟨h.r,h.m.J (λb l k=>⟨e b l k.1,k.2⟩),h.o,e B h.r.lt h.gB,λb k=>e b (O1 h.o k).2 (h.gO b k)⟩
theorem DkN.chs(h:DkN w B d G q a c):Chs w a d.b:=by
 rcases MC h.o with ⟨b,e⟩|⟨g,f,b,e,_,i⟩
 ·exact .inl (AD e)
 cases b
 exact i.chs
theorem Fr.refl(w:xV)(G:Nat->Prop):Fr w w G:=⟨rfl,rfl,rfl,AA _,λ_ _ _=>rfl⟩
theorem Ov(e:yX w w'):Fr w w' G:=⟨e.os,e.tape,e.output,e.size,λb l _=>e.block b l⟩
theorem Fr.E(h:Fr w v G)(k:Fr v u H)(f:∀b,b<w.heap.size->H b->G b):Fr w u G :=⟨k.os.E h.os,k.tape.E h.tape,k.output.E h.output,AJ h.size k.size,λb l n=>(k.block b (AC l h.size) (λe=>n (f b l e))).E (h.block b l n)⟩
theorem Pv{r:Option Nat}(f:w.grownBy w' r)(h:∀g,r=some g->G g):Fr w w' G:=⟨f.os,f.tape,f.output,f.size,λb l n=>f.block b l (λe=>n (h b e.symm))⟩
abbrev OE(w w':xV)(G:Nat->Prop):Nat->Prop:=λb=>G b\/(w.heap.size<=b/\b<w'.heap.size)
theorem DkN.world{y:Wo}(h:DkN w B d G q a c)(m:yX w w1)(n:DepF w1 (λb=>w.heap.size<=b/\b<w1.heap.size) (λW=>y.at W q')):DkN (w1.setCells B 0 (MN y q')) B ⟨y,d.b⟩ (OE w (w1.setCells B 0 (MN y q')) G) q' a c/\Fr w (w1.setCells B 0 (MN y q')) G:=by
 have i:=h.I m;have p:=h.r.lt;have f:=OU w1 B 0 (MN y q');have o:(w1.setCells B 0 (MN y q')).heap.size=w1.heap.size:=SK B _ 0 w1
 have j:∀b,(yI a d.b.length c).ownBlock=some b->b≠B/\b<w.heap.size:=λb k=>by have:=O1 h.o k;omega
 refine⟨⟨?_,?_,?_,.inl h.gB,λb k=>.inl (h.gO b k)⟩,(Ov m).E (Pv (G:=G) f (λg e=>by cases e;exact h.gB)) (λb _ k=>k)⟩
 ·exact Row.setsMid (pre:=[]) (cs:=MN d.x q) (post:=[yI a d.b.length c]) i.r (MN y q') rfl
 ·refine(n.V f (λg e k=>by cases e;omega)).J (λb l k=>⟨.inr ⟨k.1,by rw[o];exact k.2⟩,ω,λe=>?_⟩)
  have:=(j b e).2;omega
 exact(WR (F:=λb=>b≠B) i.o (λb k=>(j b k).1)).keep _ (MF f (AL _) (λ_ _=>AL _)) (λb k l=>f.block b l (λe=>k (by cases e;rfl)))
theorem DkN.wait{ch:Ch}{g f:Nat}(h:DkN w B d G q a c)(j:w.grownBy w1 (yI a d.b.length c).ownBlock)(p:w1.ownsRow (B+1) 92 3 (yI (zY g 0) (d.b.length+1) f) (d.b.length+1) (MS (d.b++[ch])))(m:(yI a d.b.length c).ownBlock=some g\/w.heap.size<=g):DkN (w1.setCell (yA B 16) (yI (zY g 0) (d.b.length+1) f)) B ⟨d.x,d.b++[ch]⟩ (OE w (w1.setCell (yA B 16) (yI (zY g 0) (d.b.length+1) f)) G) q (zY g 0) f/\Fr w (w1.setCell (yA B 16) (yI (zY g 0) (d.b.length+1) f)) G:=by
 have A:=h.r.lt
 have t:∀b,(yI a d.b.length c).ownBlock=some b->b≠B/\b<w.heap.size:=λb k=>by have:=O1 h.o k;omega
 have y:=O1 p (b:=g) rfl
 have s:G g\/w.heap.size<=g/\g<w1.heap.size:=by
  rcases m with k|k
  ·exact .inl (h.gO g k)
  exact .inr ⟨k,y.2⟩
 have i:=NA (AY w1 (some B)) 16 (yI (zY g 0) (d.b.length+1) f);have x:(w1.setCell (yA B 16) (yI (zY g 0) (d.b.length+1) f)).heap.size=w1.heap.size:=BL _ _ _;have z:=h.r.V j (λe=>(t B e.symm).1 rfl);have o:(d.b++[ch]).length=d.b.length+1:=σ
 refine⟨⟨?_,?_,?_,.inl h.gB,λb k=>?_⟩,(Pv (G:=G) j h.gO).E (Pv (G:=G) i (λg e=>by cases e;exact h.gB)) (λb _ k=>k)⟩
 ·have:=z.set 16 σ (yI (zY g 0) (d.b.length+1) f)
  show Row _ B (ii ⟨d.x,d.b++[ch]⟩ q (zY g 0) f);unfold ii;rw[o];exact this
 ·show DepF _ (λb=>_/\b≠B/\(yI (zY g 0) (d.b++[ch]).length f).ownBlock≠some b) (λW=>d.x.at W q)
  refine(((h.m.J (G:=λb=>b<w.heap.size/\G b/\b≠B/\(yI a d.b.length c).ownBlock≠some b) (λb l k=>⟨l,k⟩)).V j (λb e k=>k.2.2.2 e)).V i (λb e k=>k.2.2.1 (by cases e;rfl))).J (λb l k=>⟨.inl k.2.1,k.2.2.1,λe=>?_⟩);have n:g=b:=BP e;subst n;rcases m with r|r
  ·exact k.2.2.2 r
  exact absurd k.1 ω
 ·show World.ownsRow _ (B+1) 92 3 (yI (zY g 0) (d.b++[ch]).length f) (d.b++[ch]).length (MS (d.b++[ch]))
  rw[o];exact(WR (F:=λb=>b≠B) p (λb k=>by have n:g=b:=BP k;omega)).keep _ (MF i (AL _) (λ_ _=>AL _)) (λb k l=>i.block b l (λe=>k (by cases e;rfl)))
 cases k
 rcases s with k|k
 ·exact .inl k
 exact .inr ⟨k.1,by rw[x];exact k.2⟩
theorem DkN.clear{a':xA}(h:DkN w B d G q a c)(j:yX w w1)(m:w1.ownsRow (B+1) 92 3 (yI a' 0 0) 0 [])(i:∀b,(yI a' 0 0).ownBlock=some b->w.heap.size<=b):DkN (w1.setCell (yA B 16) (yI a' 0 0)) B ⟨d.x,[]⟩ (OE w (w1.setCell (yA B 16) (yI a' 0 0)) G) q a' 0/\Fr w (w1.setCell (yA B 16) (yI a' 0 0)) G:=by
 have p:=h.r.lt;have n:=h.I j;have f:=NA (AY w1 (some B)) 16 (yI a' 0 0);have o:(w1.setCell (yA B 16) (yI a' 0 0)).heap.size=w1.heap.size:=BL _ _ _;refine⟨⟨n.r.set 16 σ (yI a' 0 0),?_,?_,.inl h.gB,λb k=>.inr ⟨i b k,by rw[o];exact(O1 m k).2⟩⟩,(Ov j).E (Pv (G:=G) f (λg e=>by cases e;exact h.gB)) (λb _ k=>k)⟩
 ·show DepF _ (λb=>_/\b≠B/\(yI a' 0 0).ownBlock≠some b) (λW=>d.x.at W q)
  refine(((h.m.J (G:=λb=>b<w.heap.size/\G b/\b≠B) (λb l k=>⟨l,k.1,k.2.1⟩)).I j).V f (λb e k=>k.2.2 (by cases e;rfl))).J (λb l k=>⟨.inl k.2.1,k.2.2,λe=>?_⟩);have:=i b e;have:=k.1;omega
 exact(WR (F:=λb=>b≠B) m (λb k=>by have:=i b k;omega)).keep _ (MF f (AL _) (λ_ _=>AL _)) (λb k l=>f.block b l (λe=>k (by cases e;rfl)))
theorem Uc{x:Wo}{o:Nat->Nat}{g f:Nat}(h:QG x w q o)(m:∀b,o b≠0->g<=b/\b<f):DepF w (λb=>g<=b/\b<f) (λW=>x.at W q) :=⟨h.at,λw' e i=>(h.only (K:=λk=>k=0) ⟨e.os,e.tape,e.output,e.size,λb j l=>i b (m b l) j⟩ (λ_ k=>k)).at⟩
theorem DkI.step(h:DkI w B d G q a c)(e:Below 0 w w')(f:∀b,G b->b<w.heap.size->w'.heap[b]?=w.heap[b]?):DkI w' B d G q a c:=⟨h.toDkN.step e f,h.cap⟩
theorem DkI.I(h:DkI w B d G q a c)(b:yX w w'):DkI w' B d G q a c:=⟨h.toDkN.I b,h.cap⟩
theorem DkI.J(h:DkI w B d G q a c)(e:∀b,b<w.heap.size->G b->H b):DkI w B d H q a c:=⟨h.toDkN.J e,h.cap⟩
end
end
section
open _root_.Go.Proofs.Tryz
open Go.RowKit Go.Proofs.YtkdedmclofhndaaGreatDoor.nw
theorem Fr.vz{w a:xV}{G:Nat->Prop}(h:Fr w a G)(c:∀b,G b->10<=b)(hv:Vz w):Vz a:=hv.low ⟨h.os,h.tape,h.output,h.size,λb d=>h.block b (AC d hv.sz) (λk=>by have:=c b k;omega)⟩
theorem Uv(o:List Ch)(c:Ch):MS (o++[c])=MS o++[yQ c.1,yQ c.2.1,yR c.2.2]:=by rw[yq];rfl
theorem Si:(prog.info? 92).map (λi=>(i.size,i.zero.isSome,(i.zero.getD undef).cells.size,decide (i.bytes<=1000)))=some (3,true,3,true):=κ
theorem Rx{P:Program}{t:TypeId}{n:Nat}(h:(P.info? t).map (λi=>(i.size,i.zero.isSome,(i.zero.getD undef).cells.size,decide (i.bytes<=1000)))=some (n,true,n,true)):∃i z,P.info? t=some i/\i.zero=some z/\i.size=n/\z.cells.size=n/\i.bytes<=1000:=by
 cases hi:P.info? t with
 | none=>rw[hi]at h;cases h
 | some i =>
  rw[hi]at h;simp only[Option.map_some,EX,EJ,BG]at h;obtain⟨c,a,b,d⟩:=h
  cases hz:i.zero with
  | none=>rw[hz]at a;cases a
  | some z=>rw[hz]at b;exact⟨i,z,rfl,hz,c,b,d⟩
theorem Vn(d:Dk)(B:Nat)(G:Nat->Prop)(q:Wp)(a:xA)(c:Nat)(k v:yZ)(i:Bool)(w:xV)(h:DkI w B d G q a c)(hl:d.b.length<=1000)(hG:∀b,G b->10<=b)(hv:Vz w):Calls prog 69 #[zW B 0,.agg #[yQ k,yQ v,yR i]] w λr e=>r=yT (yQ (P4 d (k,v,i)).2)/\(∃j f g,DkI e B (P4 d (k,v,i)).1 (OE w e G) j f g)/\Fr w e G:=by
 obtain⟨K,z3,j,m,l,g,f⟩:=Rx Si;have A:=Y (AG j (AG m (AG l (AG g f))));clear j m l g f;have lB:=h.r.lt;have N:=Y (λe k=>jh (d.b.length+1) ω e k);go_enter func69,ntmps69;go_upto_region 1 with fail;generalize f:w.alloc _=z;obtain⟨I,bB,U⟩:=LK f;clear f;have x:yX w z.drew:=I.E (((AB z.heap.size z).drew).J I.size);have f:=h.I x;have j:=(U.I (AB z.heap.size z).drew).q;have lz:=x.size;refine TU (10) (S:=λe=>Row e B (ii d q a c)/\Row e w.heap.size [yQ k,yQ v,yR i]) κ (⟨f.r,j⟩) (λp=>?_);refine NL 0 (zW B 0) rfl p (NL 1 (zW B 0) rfl p (LU 2 (zW B 0) rfl (AS ⟨ρ,λw m=>by obtain⟨n,o⟩:=m;have l:=n.lt;go_simp⟩) p (LU 3 (zW B 16) rfl (AS ⟨ρ,λw m=>by obtain⟨n,o⟩:=m;have l:=n.lt;go_simp⟩) p (LU 4 (yI a d.b.length c) rfl (AS ⟨ρ,λw m=>by obtain⟨n,o⟩:=m;have cc:=n.y 16;go_simp⟩) p (LU 5 (.agg #[yQ k,yQ v,yR i]) rfl (AS ⟨ρ,λw m=>by obtain⟨n,o⟩:=m;have c0:=o.y 0;have c1:=o.y 1;have c2:=o.y 2;have l:=o.lt;go_simp⟩) p ?_)))))
 simp only[PS];refine NK 6 rfl (λH s=>?_);generalize e:z.drew=y at f j x lz⊢;clear e;go_simp;obtain⟨y2,e⟩:∃u,u=y.alloc (.cells #[yQ k,yQ v,yR i] 92):=⟨_,rfl⟩;rw[<-e];have L:=LS y #[yQ k,yQ v,yR i] 92;have C:=LG y (.cells #[yQ k,yQ v,yR i] 92);rw[<-e]at L C;clear e;have g:=f.I C;have J:=j.I C;have E:=x.E (C.J x.size);clear f j;refine s.j _ _ (⟨g.r,J⟩) (λaW=>?_)
 try simp only[PS]
 refine NK 7 rfl (λH s=>?_);refine step_append_lies _ rfl _ _ 44 rfl (B+1) 92 K z3 3 K.bytes underlying44 A.j.1 A.j.2.1 A.j.2.2.1 rfl A.j.2.2.2.1 ω (yI a d.b.length c) d.b.length (MS d.b) rfl g.o (yA y.heap.size 0) 1 1 [yQ k,yQ v,yR i] rfl rfl (λj u e=>by have:=L.cell j u e;rw[ZN];exact this) (by intro u V;simp at V;rcases V with rfl|rfl|rfl<;>rfl) ω (by unfold maxLen;omega) (by have:=A.j.2.2.2.2;have:(d.b.length+1)*K.bytes<=1001*1000:=Nat.mul_le_mul ω this;omega) (by have:=E.size;omega) _ rfl ?_;intro g9 X u3 T j S Z
 have t:∀b,(yI a d.b.length c).ownBlock=some b->b≠B/\b≠w.heap.size:=λb f=>⟨by have:=O1 g.o f;omega,by have:=O1 h.o f;omega⟩
 refine s.j _ _ (⟨g.r.V j (λe=>(t B e.symm).1 rfl),J.V j (λe=>(t _ e.symm).2 rfl)⟩) (λR=>?_)
 try simp only[PS]
 refine NK 8 rfl (λH s=>?_);have D:=(g.r.V j (λe=>(t B e.symm).1 rfl)).lt;go_simp;clear D;refine s.j _ _ R (λ_=>?_)
 try simp only[PS]
 refine LU 9 (zW B 16) rfl (AS ⟨ρ,λw m=>by obtain⟨n,o⟩:=m;have l:=n.lt;go_simp⟩) R ?_;simp only[PS];refine PM (rs:=[10]) κ σ ?_;refine AllReadyT.last rfl (λH s=>?_);have D:=(g.r.V j (λe=>(t B e.symm).1 rfl)).y 16;have F:=(g.r.V j (λe=>(t B e.symm).1 rfl)).A 16;have m:=(g.r.V j (λe=>(t B e.symm).1 rfl)).lt;go_simp;clear D F m;refine s.j _ _ trivial (λ_=>?_)
 try simp only[PS]
 refine SP κ ?_ _;have Q:=g.wait (ch:=(k,v,i)) j (by rw[Uv];exact T) (S.imp_right (λe=>Nat.le_of_eq e.symm));generalize e:u3.setCell _ _=W at Q⊢;clear e;obtain⟨e,O⟩:=Q;replace e:=DkI.mk e g.cap;have F:Fr w W G:=(Ov E).E O (λb _ k=>k);have m:=e.J (H:=OE w W G) (λb l f=>f.imp_right (λf=>⟨by have:=E.size;omega,f.2⟩));obtain⟨M,D⟩:∃M,Hid (M=d.b.length+1):=⟨_,Y rfl⟩;have c16:=m.r.y 16;rw[show((⟨d.x,d.b++[(k,v,i)]⟩:Dk).b.length)=M by rw[D.j];simp]at c16;have l5:=m.r.lt;rw[<-D.j]at N;have hV:=Y (F.vz hG hv);have P:=Y (AG m F);clear e O m F g J L j T S Z t E x C I U h hv p;go_wp2_with fail;refine(N.j _ hV.j).J ?_;rintro r p ⟨rfl,g⟩;have e:=Y g;clear g c16 l5;have g:(LH M).size<=9:=Pl (by have:=D.j;omega);have t:¬(9223372036854775807<5+(LH M).size):=ω
 have j:(LH M).size<=9223372036854775802:=ω
 have m:¬(9223372036854775802<(LH M).size):=ω
 clear g;go_wp2;go_ret;refine⟨?_,⟨q,zY g9 0,X,?_⟩,P.j.2.E (Ov e.j) (λb _ f=>f)⟩
 ·show yT (yQ ((⟨#[119,97,105,116,32]⟩:yZ)++LH M))=_
  rw[D.j];rfl
 exact(P.j.1.I e.j).J (λb l f=>f.imp_right (λf=>⟨f.1,AC f.2 e.j.size⟩))
end
section
open _root_.Go.Proofs.Tryz
open Go.RowKit Go.Proofs.YtkdedmclofhndaaGreatDoor.nw
variable {us:List yZ}
def O6(w b:xV)(B:Nat)(G:Nat->Prop)(r:Ending)(p:Dk×yZ)(d:Bool):Prop:=r=yT (.tuple #[yQ (if d=true then p.2 else ⟨#[]⟩),yR d])/\(∃q a c,DkI b B p.1 (OE w b G) q a c)/\Fr w b G
theorem Qt{w f:xV}{B:Nat}{G:Nat->Prop}{d:Dk}{q:Wp}{a:xA}{c:Nat}(h:DkI w B d G q a c)(e:yX w f)(s:yZ):O6 w f B G (yT (.tuple #[yQ ⟨#[]⟩,yR false])) (d,s) false:=⟨rfl,⟨q,a,c,(h.I e).J (λb _ k=>.inl k)⟩,Ov e⟩
theorem P7{w f:xV}{B:Nat}{G:Nat->Prop}{d:Dk}{q:Wp}{a:xA}{c:Nat}(h:DkI w B d G q a c)(e:yX w f)(s:yZ):O6 w f B G (yT (.tuple #[yQ s,yR true])) (d,s) true:=⟨rfl,⟨q,a,c,(h.I e).J (λb _ k=>.inl k)⟩,Ov e⟩
def Pq(n:Nat)(us:List yZ):Bool:=QX us && decide (us.length=n)
theorem T7{d:Dk}(h:Pq 2 us=false):Q8 d us=(d,O0):=by
 unfold Pq at h;unfold Q8;rw[AF (λk=>by rw[k.1,k.2]at h;simp at h)]
theorem Tw{d:Dk}(h:Pq 1 us=false):Q6 d us=(d,O0):=by
 unfold Pq at h;unfold Q6;rw[AF (λk=>by rw[k.1,k.2]at h;simp at h)]
theorem Sr{d:Dk}(h:Pq 1 us=false):Rh d us=(d,O0):=by
 unfold Pq at h;unfold Rh;rw[AF (λk=>by rw[k.1,k.2]at h;simp at h)]
theorem Yd(d:Dk)(B:Nat)(G:Nat->Prop)(q:Wp)(a:xA)(c:Nat)(O:xA)(us:List yZ)(wc:Nat)(w:xV)(h:DkI w B d G q a c)(hl:d.b.length<=1000)(K:∀b,G b->10<=b/\b<w.heap.size)(hv:Vz w)(i:Strs w O us)(T:us.length<=30000)(U:∀s∈us,s.size<=30000):Calls prog 39 #[zW B 0,yI O us.length wc] w λr f=>O6 w f B G r (Q8 d us) (Pq 2 us):=by
 have m:=Y (ze O us wc w i T U);have L:=Y (λf k v (D:DkI f B d G q a c) (V:Vz f)=>Vn d B G q a c k v false f D hl (λb k=>(K b k).1) V);have lB:=h.r.lt;have A:=Y (λ(k:Pq 2 us=false) f (e:yX w f)=>show O6 w f B G (yT (.tuple #[yQ ⟨#[]⟩,yR false])) (Q8 d us) (Pq 2 us) by rw[k,T7 k];exact Qt h e _);have p:Hid (Pq 2 us=(QX us && decide (us.length=2))):=Y rfl;clear i U
 cases hok:QX us with
 | false =>
  rw[hok]at m p;have j:=Y (A.j p.j);clear A p L h hv K hok;go_enter func39,ntmps39;go_wp2_with fail;refine m.j.J ?_;rintro r o ⟨W,rfl,_,e⟩;have g:=Y e;clear e;go_wp2;exact AE (v:=.tuple #[yQ ⟨#[]⟩,yR false]) (by simp[results,results39,go_sem]) rfl (j.j _ g.j)
 | true =>
 by_cases z:us.length=2
 ·have X:Hid (Pq 2 us=true):=Y (by rw[p.j,hok,z];rfl)
  have Q:Hid (Q8 d us=P4 d ((PD us).getD 0 empty,(PD us).getD 1 empty,false)):=Y (by unfold Q8;rw[AI ⟨hok,z⟩]);rw[hok]at m;clear A p T;have g:(PD us).length=2:=by unfold PD;rw[BO,z]
  obtain⟨s,t,j⟩:∃s t,PD us=[s,t]:=by
   match PD us,g with
   | [x,y],_=>exact⟨x,y,rfl⟩
  rw[z]at m⊢;rw[j]at m Q;clear g j hok;go_enter func39,ntmps39;go_wp2_with fail;refine m.j.J ?_;rintro r o ⟨W,rfl,l,e⟩;replace l:=l σ;obtain⟨g,F,rfl,aN,aO,j⟩:=(MC l).resolve_left (λk=>by have:=k.2;omega);clear l m;go_upto_region 4 with fail;have E:yX w o.drew:=e.E (((AB o.heap.size o).drew).J e.size);have H:=h.I E;have N:=hv.I E;replace j:=j.I (AB o.heap.size o).drew;clear e;refine AN (S:=λf=>Row f g [yQ s,yQ t]/\B<f.heap.size) κ (⟨j,H.r.lt⟩) (λn=>?_);refine TY 0 (zW B 0) rfl n (TY 1 (yI (zY g 0) 2 F) rfl n (TK 2 (zW g 0) rfl (AS ⟨ρ,λw i=>by obtain⟨u,P⟩:=i;have l:=u.lt;go_simp⟩) n (TK 3 (yQ s) rfl (AS ⟨ρ,λw i=>by obtain⟨u,P⟩:=i;have c0:=u.y 0;go_simp⟩) n (TY 4 (yI (zY g 0) 2 F) rfl n (TK 5 (zW g 1) rfl (AS ⟨ρ,λw i=>by obtain⟨u,P⟩:=i;have l:=u.lt;go_simp⟩) n (TK 6 (yQ t) rfl (AS ⟨ρ,λw i=>by obtain⟨u,P⟩:=i;have c1:=u.y 1;go_simp⟩) n (TY 7 (.agg #[yQ s,yQ t,yR false]) rfl n ?_)))))))
  simp only[PS];refine RD 8 rfl (λR C=>?_);generalize f:o.drew=y at j E H N⊢;clear f;refine LI ρ _ _ γ (L.j y s t H N) ?_;rintro r y1 ⟨rfl,⟨q5,Z,c5,M⟩,I⟩;refine⟨_,rfl,?_⟩;have j:=SX j (I.block g j.lt (λf=>by have:=(K g f).2;omega)) (AC j.lt I.size);refine C.j _ _ (⟨j,M.r.lt⟩) (λS=>?_)
  try simp only[PS]
  refine RD 9 rfl (λR C=>?_);go_simp;refine C.j _ _ S (λ_=>?_)
  try simp only[PS]
  refine RD 10 rfl (λR C=>?_);go_simp;refine C.j _ _ S (λ_=>?_)
  try simp only[PS]
  refine DN ?_;have J:=Y (AG M (AG I E));clear M I E j H N h hv n
  try go_wp2
  refine AE (v:=.tuple #[yQ (P4 d (s,t,false)).2,yR true]) (by simp[results,results39,go_sem]) rfl ?_;rw[X.j,Q.j];exact⟨rfl,⟨q5,Z,c5,J.j.1.J (λb l f=>f.imp_right (λf=>⟨AJ J.j.2.2.size f.1,f.2⟩))⟩,(Ov J.j.2.2).E J.j.2.1 (λb _ f=>f)⟩
 have j:=Y (A.j (by rw[p.j,hok,AH z];rfl))
 rw[hok]at m;have n:((us.length:Int) == 2)=false:=BI.2 ω;have f:¬((us.length:Int)=2):=ω
 clear A p L h hv K hok z;go_enter func39,ntmps39;go_wp2_with fail;refine m.j.J ?_;rintro r o ⟨W,rfl,l,e⟩;obtain⟨b,p,rfl⟩:=UX (l σ);have g:=Y e;clear e l;go_wp2;exact AE (v:=.tuple #[yQ ⟨#[]⟩,yR false]) (by simp[results,results39,go_sem]) rfl (j.j _ g.j)
theorem X1(d:Dk)(B:Nat)(G:Nat->Prop)(q:Wp)(a:xA)(c:Nat)(y:xA)(us:List yZ)(wc:Nat)(w:xV)(h:DkI w B d G q a c)(R:d.b.length<=1000)(t:∀b,G b->10<=b/\b<w.heap.size)(hv:Vz w)(J:Strs w y us)(H:us.length<=30000)(I:∀s∈us,s.size<=30000):Calls prog 40 #[zW B 0,yI y us.length wc] w λr g=>O6 w g B G r (Q6 d us) (Pq 1 us):=by
 have f:=Y (ze y us wc w J H I);have s:=Y (λg k v (D:DkI g B d G q a c) (V:Vz g)=>Vn d B G q a c k v true g D R (λb k=>(t b k).1) V);have W:=h.r.lt;have n:=Y (λ(k:Pq 1 us=false) g (e:yX w g)=>show O6 w g B G (yT (.tuple #[yQ ⟨#[]⟩,yR false])) (Q6 d us) (Pq 1 us) by rw[k,Tw k];exact Qt h e _);have i:Hid (Pq 1 us=(QX us && decide (us.length=1))):=Y rfl;clear J I
 cases hok:QX us with
 | false =>
  rw[hok]at f i;have l:=Y (n.j i.j);clear n i s h hv t hok;go_enter func40,ntmps40;go_wp2_with fail;refine f.j.J ?_;rintro r u ⟨K,rfl,_,e⟩;have g:=Y e;clear e;go_wp2;exact AE (v:=.tuple #[yQ ⟨#[]⟩,yR false]) (by simp[results,results40,go_sem]) rfl (l.j _ g.j)
 | true =>
 by_cases m:us.length=1
 ·have L:Hid (Pq 1 us=true):=Y (by rw[i.j,hok,m];rfl)
  have E:Hid (Q6 d us=P4 d ((PD us).getD 0 empty,empty,true)):=Y (by unfold Q6;rw[AI ⟨hok,m⟩]);rw[hok]at f;clear n i H;have g:(PD us).length=1:=by unfold PD;rw[BO,m]
  obtain⟨p,j⟩:∃p,PD us=[p]:=by
   match PD us,g with
   | [x],_=>exact⟨x,rfl⟩
  rw[m]at f⊢;rw[j]at f E;clear g j hok;go_enter func40,ntmps40;go_wp2_with fail;refine f.j.J ?_;rintro r u ⟨K,rfl,j,e⟩;replace j:=j σ;obtain⟨g,P,rfl,T,U,l⟩:=(MC j).resolve_left (λk=>by have:=k.2;omega);clear j f;have j:=e;have z:=h.I j;have F:=hv.I j;clear e;have N:=l.y 0;have Q:=l.lt;go_wp2_with fail;refine(s.j u p ⟨#[]⟩ z F).J ?_;rintro r X ⟨rfl,⟨S,M,O,A⟩,C⟩;have o:=Y (AG A (AG C j));clear A C j l z F h hv N Q
  try go_wp2
  refine AE (v:=.tuple #[yQ (P4 d (p,⟨#[]⟩,true)).2,yR true]) (by simp[results,results40,go_sem]) rfl ?_;rw[L.j,E.j];exact⟨rfl,⟨S,M,O,o.j.1.J (λb l j=>j.imp_right (λj=>⟨AJ o.j.2.2.size j.1,j.2⟩))⟩,(Ov o.j.2.2).E o.j.2.1 (λb _ j=>j)⟩
 have l:=Y (n.j (by rw[i.j,hok,AH m];rfl))
 rw[hok]at f;have p:((us.length:Int) == 1)=false:=BI.2 ω;have o:¬((us.length:Int)=1):=ω
 clear n i s h hv t hok m;go_enter func40,ntmps40;go_wp2_with fail;refine f.j.J ?_;rintro r u ⟨K,rfl,j,e⟩;obtain⟨b,i,rfl⟩:=UX (j σ);have g:=Y e;clear e j;go_wp2;exact AE (v:=.tuple #[yQ ⟨#[]⟩,yR false]) (by simp[results,results40,go_sem]) rfl (l.j _ g.j)
end
section
open _root_.Go.Proofs.Tryz
open Go.RowKit Go.Proofs.YtkdedmclofhndaaGreatDoor.nw
theorem Tz{w:xV}{B:Nat}{e:TypeId}{a:xA}{c:Nat}{b:List Int}{n:Nat}(o:b.length=n)(h:w.ownsRow B e 1 (yI a n c) n (b.map (Value.int .i64))):Ints w a b:=by
 subst o;rcases MC h with ⟨_,d⟩|⟨g,f,j,d,k,l⟩
 ·exact .inl (AD d)
 cases j
 refine .inr ⟨g,0,rfl,k,λi m=>?_⟩;rw[BK];exact l.cell i _ (by simp[List.getD,m])
theorem Qq(a:List yZ):(OZ a).length=a.length:=by unfold OZ;rw[BO]
theorem O2{x:Wo}(h:LW x=true):x.le 1048576:=(gy h).1.le
theorem Wq{d:Dk}{B:Nat}{G:Nat->Prop}{q:Wp}{a:xA}{c:Nat}{w:xV}(e:Ev)(b:xA)(g:Nat)(f:xA)(i:Nat)(h:DkI w B d G q a c)(o:LW d.x=true)(hv:Vz w)(j:Chs w b e.b)(m:Ints w f e.fs)(l:e.le):Calls prog 71 #[LT d.x q,NR e b g f i] w λr k=>DoK w k r (d.x.doR e):=by
 obtain⟨p,k,n⟩:=hv.np;exact Fv d.x q e b g f i w h.m.q h.cap (O2 o) j m l p k n hv.et (by have:=hv.sz;omega)
theorem T6{d:Dk}{a:List yZ}(h:MZ a=false):Ss d a=(d,O0):=by
 unfold Ss;rw[AF (by rw[h];simp)]
end
section
open _root_.Go.Proofs.Tryz
open Go.RowKit Go.Proofs.YtkdedmclofhndaaGreatDoor.nw
structure CmIn(w:xV)(B:Nat)(d:Dk)(G:Nat->Prop)(q:Wp)(a:xA)(c:Nat)(wa:xA)(us:List yZ):Prop where
 h:DkI w B d G q a c
 ok:d.ok 1000
 g:∀b,G b->10<=b/\b<w.heap.size
 v:Vz w
 s:Strs w wa us
 l:us.length<=30000
 z:∀s∈us,s.size<=30000
section
variable {w w':xV} {B:Nat} {d:Dk} {G:Nat->Prop} {q:Wp} {a:xA} {c:Nat} {ops:Array Oper} {rest:List Oper} {o:Oper} {A:Act} {Q:Exit->Act->xV->Prop} {y:Wo} {q':Wp}
theorem R6(h:DkN w B d G q a c)(x:Operand)(b:o.op=.load 42 x)(e:A.eval x=zW B 0):(execOp A.eval o).run prog w=.ok (.value (LT d.x q)) w :=QI 42 x b B 0 e (MN d.x q) _ (Row.rangeMid (pre:=[]) (post:=[yI a d.b.length c]) h.r) underlying42 rfl MP
theorem Rb(h:DkN w B d G q a c)(k:wpList prog ops Q rest (A.put o.dst (LT d.x q)) w){x:Operand}(b:o.guard=none:=by rfl)(e:o.op=.load 42 x:=by rfl)(f:A.eval x=zW B 0:=by rfl):wpList prog ops Q (o::rest) A w:=SO b _ (R6 h x e f) k
theorem T8(h:DkN w B d G q a c)(k:wpList prog ops Q rest (A.put o.dst undef) (w.setCells B 0 (MN y q'))){x z:Operand}(b:o.guard=none:=by rfl)(e:o.op=.store 42 x z:=by rfl)(f:A.eval x=zW B 0:=by rfl)(g:A.eval z=LT y q':=by rfl):wpList prog ops Q (o::rest) A w :=BU b 42 x z e B 0 (MN y q').toArray f g (Row.thereMid (pre:=[]) (cs:=MN d.x q) (post:=[yI a d.b.length c]) h.r rfl) MP κ k
theorem vl(v:qD)(k:wpList prog ops Q rest (A.put o.dst v) w)(b:o.guard=none:=by rfl)(e:(execOp A.eval o).run prog w=.ok (.value v) w:=by go_simp):wpList prog ops Q (o::rest) A w:=SO b v e k
theorem Wn{r:Ending}{g e:xV}(h:DkI w B d G q a c)(f:yX w g)(s:DoK g e r y):∃q',r=yT (LT y q')/\DkI e B d G q a c/\DkI (e.setCells B 0 (MN y q')) B ⟨y,d.b⟩ (OE w (e.setCells B 0 (MN y q')) G) q' a c/\Fr w (e.setCells B 0 (MN y q')) G/\yX g e:=by
 obtain⟨q',o,rfl,t,l,j,p⟩:=s;have i:=f.E (j.J f.size);obtain⟨m,n⟩:=h.world i (Uc t (λb k=>⟨AJ f.size (l b k).1,(l b k).2⟩));exact⟨q',rfl,h.I i,⟨m,p⟩,n,j⟩
theorem Sn{f:xV}(h:DkI w' B d (OE w w' G) q a c)(g:Fr w w' G)(e:yX w' f)(s:yZ):O6 w f B G (yT (.tuple #[yQ s,yR true])) (d,s) true :=⟨rfl,⟨q,a,c,(h.I e).J (λb l k=>k.imp_right (λk=>⟨k.1,AC k.2 e.size⟩))⟩,g.E (Ov e) (λb _ k=>k)⟩
end
theorem We(d:Dk)(B:Nat)(G:Nat->Prop)(q:Wp)(a:xA)(c:Nat)(o:xA)(b:List yZ)(wc:Nat)(w:xV)(H:CmIn w B d G q a c o b):Calls prog 45 #[zW B 0,yI o b.length wc] w λr e=>O6 w e B G r (Ss d b) (MZ b):=by
 have g:=Y (xm o b wc w H.s H.l H.z H.v);have n:=Y H.h;have z:=Y H.v;have y:=Y H.ok.w;have I:=H.l;clear H
 cases hok:MZ b with
 | false =>
  rw[hok]at g;have k:=Y (T6 (d:=d) hok);clear hok;go_enter func45,ntmps45;go_wp2_with fail;refine g.j.J ?_;rintro r v ⟨D,rfl,_,f⟩;have m:=Y f;clear f;go_wp2;refine AE (v:=.tuple #[yQ ⟨#[]⟩,yR false]) (by simp[results,results45,go_sem]) rfl ?_;rw[k.j];exact Qt n.j m.j _
 | true =>
  rw[hok]at g;have k:Hid (Ss d b=(⟨d.x.doR ⟨5,[],0,OZ b⟩,d.b⟩,Qd)):=Y (by unfold Ss;rw[AI hok]);have l:=Qq b;clear hok;obtain⟨i,e⟩:∃i,i=OZ b:=⟨_,rfl⟩;rw[<-e]at g k l;clear e;go_enter func45,ntmps45;go_wp2_with fail;refine g.j.J ?_;rintro r v ⟨D,rfl,h,f⟩;replace h:=h σ;obtain⟨s,A,e⟩:=UX h;have t:Ints v s i:=Tz l (by rw[e]at h;exact h);rw[<-l]at e;subst e;have j:=Y (n.j.I f);have C:=j.j.r.lt
  have p:=Y (Wq ⟨5,[],0,i⟩ none 0 s A j.j y.j (z.j.I f) (.inl rfl) t ⟨⟨σ,λx m=>by cases m⟩,by simp only;omega⟩)
  have m:=Y f;clear h t g l f;go_upto_region 4 with fail;refine AV ?_;refine vl (zW B 0) (vl (zW B 0) (vl (zW B 0) (vl (zW B 0) (Rb j.j.toDkN ?_))));simp only[PS];go_wp2_with fail;refine p.j.J ?_;intro r E l;obtain⟨t,rfl,f,g,h,F⟩:=Wn n.j m.j l;clear l p
  try simp only[PS]
  refine‹∀(a:Act) (w:xV),wpList _ _ _ _ a w->_› _ _ ?_
  have x:=f.r.lt;refine vl (zW B 0) (vl (zW B 0) (T8 f.toDkN (y:=d.x.doR ⟨5,[],0,i⟩) (q':=t) ?_));obtain⟨J,p⟩:∃u,u=E.setCells B 0 (MN (d.x.doR ⟨5,[],0,i⟩) t):=⟨_,rfl⟩;rw[<-p]at g h⊢;have l:=Y (AG g h);clear f g h p j C x
  try go_wp2
  refine AE (v:=.tuple #[yQ Qd,yR true]) (by simp[results,results45,go_sem]) rfl ?_;rw[k.j];exact Sn l.j.1 l.j.2 (AB _ _) _
end
section
open _root_.Go.Proofs.Tryz
open Go.RowKit Go.Proofs.YtkdedmclofhndaaGreatDoor.nw
theorem Vi{x:Wo}(h:LW x=true)(b:x.up=true):(0<=x.U/\x.U<=1000000)/\(0<=hv x.S/\hv x.S<=1000000)/\Q3 x=LH x.U.toNat++⟨#[32,111,102,32]⟩++LH (hv x.S).toNat:=by
 have a:OW x=true:=by unfold LW at h;simp only[BD]at h;exact h.2.2.1
 unfold OW at a;rw[AI b]at a;unfold NX at a;simp only[BD,BG]at a;have c:=a.1.1.1.1.2;have d:=PG a.1.1.1.1.1.1.1.2;refine⟨ω,ω,?_⟩;unfold Q3;rw[AI b]
theorem Wk(d:Dk)(B:Nat)(G:Nat->Prop)(q:Wp)(a:xA)(c:Nat)(E:xA)(h:List yZ)(wc:Nat)(w:xV)(H:CmIn w B d G q a c E h):Calls prog 48 #[zW B 0,yI E h.length wc] w λr f=>O6 w f B G r (Ri d h) (decide (h.length=0)):=by
 have j:=Y H.h;have D:=Y H.v;have F:=Y H.ok.w;have P:=H.h.r.lt;clear H
 by_cases o:h.length=0
 ·rw[o]
  have t:Hid (Ri d h=(d,Q3 d.x)):=Y (by unfold Ri;rw[AI o]);clear o
  cases hup:d.x.up with
  | false =>
   have x:Hid (Q3 d.x=Qd):=Y (by unfold Q3;rw[hup];rfl);have b:=j.j.r.y 3;rw[hup]at b;clear hup;go_enter func48,ntmps48;go_wp2;refine AE (v:=.tuple #[yQ Qd,yR true]) (by simp[results,results48,go_sem]) rfl ?_;rw[t.j,x.j];exact P7 j.j (AB _ _) _
  | true =>
   obtain⟨N,M,i⟩:=Vi F.j hup;obtain⟨u,g⟩:∃u:Nat,d.x.U=(u:Int):=⟨d.x.U.toNat,ω⟩;obtain⟨m,e⟩:∃m:Nat,hv d.x.S=(m:Int):=⟨(hv d.x.S).toNat,ω⟩;have x:Hid (Q3 d.x=LH u++⟨#[32,111,102,32]⟩++LH m):=Y (by rw[i,g,e];rfl);rw[g]at N;rw[e]at M;have C:=Y (λ(n:Nat) (O:n<=1000000000) f k=>jh n O f k);have A:=Y (λf=>aa d.x.S f);rw[e]at A;have b:=j.j.r.y 3;rw[hup]at b;have p:(LH u).size<=9:=Pl ω;have l:(LH m).size<=9:=Pl ω;have T:¬(9223372036854775807<(LH u).size+4):=ω
   have J:¬(9223372036854775803<(LH u).size):=ω
   have K:¬(9223372036854775807<(LH u).size+4+(LH m).size):=ω
   have I:Hid (d.x.U=(u:Int)):=Y g;clear hup i e g p l;go_enter func48,ntmps48;go_upto_region 5 with fail;refine AV ?_;refine vl (zW B 0) (vl (zW B 0) (vl (zW B 0) (vl (zW B 4) (AZ rfl 39 _ rfl B 4 rfl (sJ d.x.W d.x.S d.x.L d.x.T d.x.H d.x.F d.x.R d.x.U d.x.O (yI q.s d.x.rs.length q.cs)) _ (Row.rangeMid (pre:=[Z d.x.w,yI q.a d.x.ss.length q.c,yI q.a' d.x.ws.length q.c',yR d.x.up]) (cs:=(sJ d.x.W d.x.S d.x.L d.x.T d.x.H d.x.F d.x.R d.x.U d.x.O (yI q.s d.x.rs.length q.cs))) (post:=[yI q.p d.x.P.length q.cp,yI q.t d.x.ts.length q.ct,yI a d.b.length c]) j.j.r) underlying39 rfl OQ ?_))));simp only[PS];refine dt rfl (zW w.heap.size 0) (w.alloc (.cells (sK 0 0 0 0 0 0 0 0 0 (yI none 0 0)) 39)) γ ?_;simp only[PS]
   generalize e:w.alloc _=z;obtain⟨i,v,g⟩:=LK e;clear e b;refine BU rfl 39 _ _ rfl w.heap.size 0 (sK d.x.W d.x.S d.x.L d.x.T d.x.H d.x.F d.x.R d.x.U d.x.O (yI q.s d.x.rs.length q.cs)) rfl rfl (g.q.there rfl) OQ κ ?_;simp only[PS];have l:=g.q.sets (sJ d.x.W d.x.S d.x.L d.x.T d.x.H d.x.F d.x.R d.x.U d.x.O (yI q.s d.x.rs.length q.cs)) rfl;have b:=OU z w.heap.size 0 (sJ d.x.W d.x.S d.x.L d.x.T d.x.H d.x.F d.x.R d.x.U d.x.O (yI q.s d.x.rs.length q.cs));obtain⟨y,p⟩:∃y,y=z.setCells w.heap.size 0 (sJ d.x.W d.x.S d.x.L d.x.T d.x.H d.x.F d.x.R d.x.U d.x.O (yI q.s d.x.rs.length q.cs)):=⟨_,rfl⟩;rw[<-p]at l b;show wpList _ _ _ _ _ (z.setCells w.heap.size 0 (sJ d.x.W d.x.S d.x.L d.x.T d.x.H d.x.F d.x.R d.x.U d.x.O (yI q.s d.x.rs.length q.cs)));rw[<-p];rw[I.j]at l;have s:=i.E (MF b i.size (λ_ e=>by cases e;exact AA _))
   clear p b i v g P;go_upto_region 6 with fail;have e:=(AB y.heap.size y).drew;have g:=l.I e;have b:=s.E (e.J s.size);clear e l s;refine AN (S:=λf=>Row f w.heap.size (sJ d.x.W d.x.S d.x.L d.x.T d.x.H d.x.F d.x.R (u:Int) d.x.O (yI q.s d.x.rs.length q.cs))) κ (g) (λs=>?_);refine TK 0 (zW w.heap.size 7) rfl (AS ⟨ρ,λw f=>by have l:=f.lt;go_simp⟩) s (TK 1 (Z (u:Int)) rfl (AS ⟨ρ,λw f=>by have L:=f.y 7;go_simp⟩) s (TK 4 (zW w.heap.size 1) rfl (AS ⟨ρ,λw f=>by have l:=f.lt;go_simp⟩) s (TK 5 (Z d.x.S) rfl (AS ⟨ρ,λw f=>by have L:=f.y 1;go_simp⟩) s ?_)));simp only[PS];refine RD 2 rfl (λv e=>?_);generalize p:y.drew=Q at g b⊢;clear p;refine LI ρ _ _ γ (C.j u ω Q (D.j.I b)) ?_
   rintro r R ⟨rfl,i⟩;refine⟨_,rfl,?_⟩;replace g:=g.I i;replace b:=b.E (i.J b.size);clear i;refine e.j _ _ (g) (λp=>?_)
   try simp only[PS]
   refine TK 3 (yQ (LH u++⟨#[32,111,102,32]⟩)) rfl (AS ⟨ρ,λw f=>γ⟩) p ?_;simp only[PS];refine RD 6 rfl (λv e=>?_);refine LI ρ _ _ γ (A.j R) ?_;rintro r S ⟨rfl,rfl⟩;refine⟨_,rfl,?_⟩;refine e.j _ _ p (λ_=>?_)
   try simp only[PS]
   refine RD 7 rfl (λv e=>?_);refine LI ρ _ _ γ (C.j m ω S (D.j.I b)) ?_;rintro r U ⟨rfl,i⟩;refine⟨_,rfl,?_⟩;replace g:=g.I i;replace b:=b.E (i.J b.size);clear i;refine e.j _ _ (g) (λi=>?_)
   try simp only[PS]
   refine TK 8 (yQ (LH u++⟨#[32,111,102,32]⟩++LH m)) rfl (AS ⟨ρ,λw f=>γ⟩) i ?_;simp only[PS];refine RD 9 rfl (λv e=>?_);go_simp;refine e.j _ _ i (λ_=>?_)
   try simp only[PS]
   refine RD 10 rfl (λv e=>?_);go_simp;refine e.j _ _ i (λ_=>?_)
   try simp only[PS]
   refine DN ?_;have f:=Y b;clear b g s T J K;go_wp2;refine AE (v:=.tuple #[yQ (LH u++⟨#[32,111,102,32]⟩++LH m),yR true]) (by simp[results,results48,go_sem]) rfl ?_;rw[t.j,x.j];exact P7 j.j f.j _
 have b:((h.length:Int) == 0)=false:=BI.2 ω
 have e:¬((h.length:Int)=0):=ω
 have t:Hid (Ri d h=(d,O0)):=Y (by unfold Ri;rw[AF o]);rw[AH o];clear o;go_enter func48,ntmps48;go_wp2;refine AE (v:=.tuple #[yQ ⟨#[]⟩,yR false]) (by simp[results,results48,go_sem]) rfl ?_;rw[t.j];exact Qt j.j (AB _ _) _
end
section
open _root_.Go.Proofs.Tryz
open Go.RowKit Go.Proofs.YtkdedmclofhndaaGreatDoor.nw
theorem Vk(d:Dk)(B:Nat)(G:Nat->Prop)(q:Wp)(a:xA)(c:Nat)(R:xA)(i:List yZ)(wc:Nat)(w:xV)(H:CmIn w B d G q a c R i):Calls prog 47 #[zW B 0,yI R i.length wc] w λr b=>O6 w b B G r (Rf d i) (decide (i.length=0)):=by
 have f:=Y H.h;have s:=Y H.v;have I:=Y (O2 H.ok.w);have lB:=H.h.r.lt;clear H
 by_cases p:i.length=0
 ·rw[p]
  have D:Hid (Rf d i=(d,Q1 d.x)):=Y (by unfold Rf;rw[AI p]);clear p;have E:=Y (λb (k:DkI b B d G q a c) (v:Vz b)=>show Calls prog 74 #[LT d.x q] b λe j=>xq b j e (NP d.x) by obtain⟨z,x,m⟩:=v.np;exact nZ d.x q b k.m.q f.j.cap I.j z x m v.et (by have:=v.sz;omega));have K:=Y (λb (k:DkI b B d G q a c) (v:Vz b)=>show Calls prog 76 #[LT d.x q] b λe j=>e=yT (yR (RZ d.x))/\yX b j by obtain⟨z,x,m⟩:=v.np;exact M7 d.x q b k.m.q f.j.cap I.j z x m v.et (by have:=v.sz;omega));have J:=Y (λb (k:DkI b B d G q a c) (v:Vz b)=>show Calls prog 77 #[LT d.x q] b λe j=>e=yT (yQ (UE d.x))/\yX b j by obtain⟨z,x,m⟩:=v.np;exact Io d.x q b k.m.q f.j.cap I.j z x m v.et (by have:=v.sz;omega));have F:=Y (λ(n:Nat) (m:n<=1000000000) b k=>jh n m b k)
  have V:=jm d.x;have y:=U7 d.x;obtain⟨C,g⟩:∃C:Nat,(NP d.x).2=(C:Int):=⟨(NP d.x).2.toNat,ω⟩;obtain⟨L,h⟩:∃L:Nat,(NP d.x).1.length=L:=⟨_,rfl⟩;obtain⟨T,A⟩:∃T,Hid (T=LH C++⟨#[32,112,97,105,114,115,32]⟩++LH L):=⟨_,Y rfl⟩;have o:Hid (Sb d.x=T++(if RZ d.x=true then ⟨#[32,114,105,103,104,116]⟩ else ⟨#[32,119,114,111,110,103]⟩)):=Y (by rw[A.j];unfold Sb;rw[g,h];rfl);rw[g]at y;rw[h]at V;have l:(LH C).size<=9:=Pl ω;have t:(LH L).size<=9:=Pl ω;have zt:T.size<=30:=by rw[A.j];simp only[BW];show _+7+_<=30;omega
  have M:=Y (AG l t);have u:=Y (AG g h);have aX:=y.2;clear l t g h y;go_enter func47,ntmps47;go_upto_region 3 with fail;refine AV ?_;refine vl (zW B 0) (vl (zW B 0) (vl (zW B 0) (Rb f.j.toDkN ?_)));simp only[PS];go_wp2_with fail;refine(E.j w f.j s.j).J ?_;rintro r j ⟨P,Q,rfl,-,-,-,g⟩;rw[u.j.1,u.j.2];unfold LR;clear E u;go_upto_region 4 with fail;generalize E:j.alloc _=y;obtain⟨h,u,l⟩:=LK E;have N:=l.q;have t:=g.E (h.J g.size);clear E g l u h;have l:=(AB y.heap.size y).drew;have h:=N.I l;have g:=t.E (l.J t.size);obtain⟨X,u⟩:∃X,X=j.heap.size:=⟨_,rfl⟩;rw[<-u]at h⊢;clear l N t u;obtain⟨l,t⟩:=M.j;have W:¬(9223372036854775807<(LH C).size+7):=ω
  have O:¬(9223372036854775800<(LH C).size):=ω
  have U:¬(9223372036854775807<(LH C).size+7+(LH L).size):=ω
  clear l t M;refine AN (S:=λb=>Row b X [yI P L Q]) κ (h) (λt=>?_);refine TK 0 (Z (C:Int)) rfl (AS ⟨ρ,λw b=>γ⟩) t (TK 3 (zW X 0) rfl (AS ⟨ρ,λw b=>by have l:=b.lt;go_simp⟩) t (TK 4 (yI P L Q) rfl (AS ⟨ρ,λw b=>by have c0:=b.y 0;go_simp⟩) t (TK 5 (Z (L:Int)) rfl (AS ⟨ρ,λw b=>γ⟩) t ?_)));simp only[PS];refine RD 1 rfl (λM u=>?_);generalize E:y.drew=y1 at h g⊢;clear E;refine LI ρ _ _ γ (F.j C ω y1 (s.j.I g)) ?_;rintro r y2 ⟨rfl,E⟩;refine⟨_,rfl,?_⟩;replace h:=h.I E;replace g:=g.E (E.J g.size);clear E;refine u.j _ _ (h) (λS=>?_)
  try simp only[PS]
  refine TK 2 (yQ (LH C++⟨#[32,112,97,105,114,115,32]⟩)) rfl (AS ⟨ρ,λw b=>γ⟩) S ?_;simp only[PS];refine RD 6 rfl (λM u=>?_);refine LI ρ _ _ γ (F.j L ω y2 (s.j.I g)) ?_;rintro r y3 ⟨rfl,E⟩;refine⟨_,rfl,?_⟩;replace h:=h.I E;replace g:=g.E (E.J g.size);clear E;refine u.j _ _ (h) (λN=>?_)
  try simp only[PS]
  refine TK 7 (yQ (LH C++⟨#[32,112,97,105,114,115,32]⟩++LH L)) rfl (AS ⟨ρ,λw b=>γ⟩) N ?_;simp only[PS];refine RD 8 rfl (λM u=>?_);go_simp;refine u.j _ _ N (λ_=>?_)
  try simp only[PS]
  refine DN ?_;clear t;have b:=Y g;clear g h W O U;rw[<-A.j];go_upto_region 5 with fail;refine AV ?_;have E:=(f.j.I b.j).r.lt;refine vl (zW B 0) (vl (zW B 0) (vl (zW B 0) (Rb (f.j.I b.j).toDkN ?_)));simp only[PS];go_wp2_with fail;refine(K.j _ (f.j.I b.j) (s.j.I b.j)).J ?_;rintro r W ⟨rfl,g⟩;have h:=Y (b.j.E (g.J b.j.size));obtain⟨t,O⟩:∃t,RZ d.x=t:=⟨_,rfl⟩;rw[O]at o⊢;clear O K b g E F;have K:¬(9223372036854775807<T.size+6):=ω
  have g:¬(9223372036854775801<T.size):=ω
  obtain⟨U,F⟩:∃U,Hid (U=Sb d.x):=⟨_,Y rfl⟩;rw[<-F.j]at o;go_upto_if 32 with fail;go_cut [8] from 33 to 36 (λb E=>b=yQ U/\E=W)
  case first =>
   cases t with
   | true=>go_wp2;go_meet;exact⟨by rw[o.j];rfl,rfl⟩
   | false=>go_wp2;go_meet;exact⟨by rw[o.j];rfl,rfl⟩
  case rest =>
   obtain⟨rfl,b⟩:=hcut;rw[b]
   have zu:U.size<=36:=by rw[o.j,BW];cases t<;>(show _+6<=36;omega)
   clear b K g zt o A;go_upto_region 8 with fail;refine AV ?_;have E:=(f.j.I h.j).r.lt;refine vl (zW B 0) (vl (zW B 0) (vl (zW B 0) (Rb (f.j.I h.j).toDkN ?_)));simp only[PS];go_wp2_with fail;refine(J.j _ (f.j.I h.j) (s.j.I h.j)).J ?_;rintro r O ⟨rfl,K⟩;have A:=Y (h.j.E (K.J h.j.size));obtain⟨o,b⟩:∃g,g=UE d.x:=⟨_,rfl⟩;have g:Hid (Q1 d.x=if o.size=0 then U else U++⟨#[32,102,111,114,103,101,100]⟩):=Y (by rw[b,F.j];rfl);rw[<-b];clear b K h J E;have K:¬(9223372036854775807<U.size+7):=ω
   have J:¬(9223372036854775800<U.size):=ω
   by_cases b:o=⟨([]:List UInt8).toArray⟩
   ·have E:=Pc (l:=[]) b
    have h:Hid (Q1 d.x=U):=Y (by rw[g.j,AI (by rw[b];rfl)]);clear b g;go_wp2;refine AE (v:=.tuple #[yQ U,yR true]) (by simp[results,results47,go_sem]) rfl ?_;rw[D.j,h.j];exact P7 f.j A.j _
   have E:=O7 (l:=[]) b
   have h:Hid (Q1 d.x=U++⟨#[32,102,111,114,103,101,100]⟩):=Y (by rw[g.j,AF (λe=>b (TE (by rw[show o.data=#[] from EU e])))]);clear b g;go_wp2;refine AE (v:=.tuple #[yQ (U++⟨#[32,102,111,114,103,101,100]⟩),yR true]) (by simp[results,results47,go_sem]) rfl ?_;rw[D.j,h.j];exact P7 f.j A.j _
 have b:((i.length:Int) == 0)=false:=BI.2 ω
 have e:¬((i.length:Int)=0):=ω
 have D:Hid (Rf d i=(d,O0)):=Y (by unfold Rf;rw[AF p]);rw[AH p];clear p;go_enter func47,ntmps47;go_wp2;refine AE (v:=.tuple #[yQ ⟨#[]⟩,yR false]) (by simp[results,results47,go_sem]) rfl ?_;rw[D.j];exact Qt f.j (AB _ _) _
end
section
open _root_.Go.Proofs.Tryz
open Go.RowKit Go.Proofs.YtkdedmclofhndaaGreatDoor.nw
def mF:Wo:={ w:=0,ss:=[],ws:=[],up:=false,W:=0,S:=0,L:=0,T:=0,H:=0,F:=0,R:=0,U:=0,O:=0,rs:=[],P:=[],ts:=[] }
def MX(n a:Int):Wo:=if nwOk n a then Qc n a else mF
theorem Xr(n a:Int):LW (MX n a)=decide (nwOk n a):=by
 unfold MX
 by_cases h:nwOk n a
 ·rw[AI h,Rm h,AM h]
 rw[AF h,AH h];rfl
def ft(w a:xV)(e:Ending)(y:Wo):Prop:=∃q,e=yT (LT y q)/\DepF a (λb=>w.heap.size<=b/\b<a.heap.size) (λW=>y.at W q)/\y.rs.length<=q.cs/\yX w a
theorem T3{w f:xV}{e:Ending}{n j:Int}(h:NwPost w f e (nwW n j) (nwS n j) (nwM n j)):ft w f e (MX n j):=by
 obtain⟨a,c,k,l,p,m,rfl,o,x,y,z,s⟩:=h;unfold MX;unfold nwW nwS nwM at *
 by_cases t:nwOk n j
 ·simp only[AI t]at *
  have q:∀d:xV,(∀b,(w.heap.size<=b/\b<f.heap.size)->b<f.heap.size->d.heap[b]?=f.heap[b]?)->f.heap.size<=d.heap.size->(Qc n j).at d ⟨a,c,k,l,none,0,p,m,none,0⟩:=λd i u=>by
   have A:OwnS d a ((newSS n).map Value.string):=by
    rcases o with o|⟨g,rfl,r⟩
    ·exact .inl o
    by_cases b:newSS n=[]
    ·exact .inl (by rw[b];rfl)
    have:=(y g (ML g 0 _ (by simpa using b))).1
    exact .inr ⟨g,rfl,SX r (i g ⟨this,r.lt⟩ r.lt) (AC r.lt u)⟩
   have B:Pst d p [[]]:=by
    obtain⟨g,rfl,r⟩:=x.resolve_left σ;have:=z g (ML g 0 1 ω);have v:=SX r (i g ⟨this,r.lt⟩ r.lt) (AC r.lt u)
    exact .inr ⟨g,0,rfl,v.lt,λi b=>match i,b with|0,_=>⟨none,0,v.y 0,.inl rfl⟩|i+1,b=>absurd b σ⟩
   exact⟨A.strs,.inl rfl,.inl rfl,B,.inl rfl⟩
  exact⟨⟨a,c,k,l,none,0,p,m,none,0⟩,rfl,⟨q f (λ_ _ _=>rfl) (AA _),λd b g=>q d g b.size⟩,AA _,s⟩
 simp only[AF t]at *
 exact⟨⟨a,c,k,l,none,0,p,m,none,0⟩,rfl,⟨⟨.inl rfl,.inl rfl,.inl rfl,.inl rfl,.inl rfl⟩,λd b g=>⟨.inl rfl,.inl rfl,.inl rfl,.inl rfl,.inl rfl⟩⟩,AA _,s⟩
theorem Xq(n a:Int):(MX n a).le 1048576:=by
 unfold MX
 by_cases h:nwOk n a
 ·rw[AI h];exact O2 (Rm h)
 rw[AF h]
 exact⟨AL _,λ_ h=>(by cases h),AL _,λ_ h=>(by cases h),AL _,λ_ h=>(by cases h),AL _,λ_ h=>(by cases h),AL _,λ_ h=>(by cases h)⟩
theorem Wh(d:Dk)(B:Nat)(G:Nat->Prop)(q:Wp)(a:xA)(c:Nat)(wa:xA)(n:List yZ)(wc:Nat)(w:xV)(H:CmIn w B d G q a c wa n):Calls prog 38 #[zW B 0,yI wa n.length wc] w λr A=>O6 w A B G r (Qb d n) (MZ n && decide (n.length=2)):=by
 have v:=Y (xm wa n wc w H.s H.l H.z H.v);have N:=Y H.h;have lB:=H.h.r.lt;have bH:=H.l;clear H
 by_cases o:MZ n=true
 ·by_cases F:n.length=2
  ·have e:(OZ n).length=2:=by rw[Qq,F]
   obtain⟨f,h,b⟩:∃f h,OZ n=[f,h]:=by
    match OZ n,e with
    | [x,y],_=>exact⟨x,y,rfl⟩
   have D:Hid (Qb d n=if nwOk f h then (⟨Qc f h,d.b⟩,⟨#[111,107]⟩) else (d,⟨#[110,111]⟩)):=Y (by unfold Qb;rw[AI ⟨o,F⟩,b];rfl);rw[o,AM F,Bool.and_true];rw[o]at v;rw[F]at v⊢;rw[b]at v;clear e b o F bH;have T:=Y (λA=>show Calls prog 12 #[Z f,Z h] A λe C=>ft A C e (MX f h) from(nw_i f h A).J (λe C k=>T3 k));go_enter func38,ntmps38;go_wp2_with fail;refine v.j.J ?_;rintro r C ⟨vt,rfl,i,b⟩;obtain⟨g,S,rfl,bR,bT,m⟩:=(MC (i σ)).resolve_left (λk=>by have:=k.2;omega);have U:=Y b;have aV:=Y m;clear v i b m;go_upto_region 4 with fail;go_cut [8] from 21 to 27 (λl j=>∃X i,l=zW X 0/\Row j X (MN (MX f h) i)/\DepF j (λb=>w.heap.size<=b/\b<j.heap.size) (λW=>(MX f h).at W i)/\(MX f h).rs.length<=i.cs/\yX w j)
   case first =>
    have l:=(AB C.heap.size C).drew;have m:=aV.j.I l;have j:=U.j.E (l.J U.j.size);clear l U aV;refine TU (8) (S:=λA=>Row A g [Z f,Z h]) κ (m) (λO=>?_);refine LU 0 (yI (zY g 0) 2 S) rfl (AS ⟨ρ,λw p=>γ⟩) O (LU 1 (zW g 0) rfl (AS ⟨ρ,λw p=>by have l:=p.lt;go_simp⟩) O (LU 2 (Z f) rfl (AS ⟨ρ,λw p=>by have c0:=p.y 0;go_simp⟩) O (LU 3 (yI (zY g 0) 2 S) rfl (AS ⟨ρ,λw p=>γ⟩) O (LU 4 (zW g 1) rfl (AS ⟨ρ,λw p=>by have l:=p.lt;go_simp⟩) O (LU 5 (Z h) rfl (AS ⟨ρ,λw p=>by have c0:=p.y 1;go_simp⟩) O ?_)))));simp only[PS];refine PM (rs:=[6,7]) κ σ ?_;refine AllReadyT.cons rfl (λK p=>?_) (AllReadyT.cons rfl (λK p=>?_) AllReadyT.nil)
    ·generalize s:C.drew=J at m j⊢
     clear s;have bI:=j.size;refine LI ρ _ _ γ (T.j J) ?_;rintro r s ⟨i,rfl,I,L,E⟩;refine⟨_,rfl,?_⟩;have bJ:=E.size;replace m:=m.I E;replace j:=j.E (E.J j.size);refine p.j _ _ (m) (λbB=>?_)
     try simp only[PS]
     refine NK 7 rfl (λK p=>?_);go_simp;obtain⟨Q,z⟩:∃u,u=s.alloc (.cells #[Z 0,yI none 0 0,yI none 0 0,yR false,Z 0,Z 0,Z 0,Z 0,Z 0,Z 0,Z 0,Z 0,Z 0,yI none 0 0,yI none 0 0,yI none 0 0] 42):=⟨_,rfl⟩;rw[<-z];obtain⟨P,zA,M⟩:=LK z.symm;have t:=M.q;replace m:=m.I P;replace j:=j.E (P.J j.size);replace I:=I.I P;clear z M;refine p.j _ _ (m) (λbC=>?_)
     try simp only[PS]
     refine PM (rs:=[8]) κ σ ?_;refine AllReadyT.last rfl (λK p=>?_);refine SN rfl 42 _ _ rfl (s.heap.size) 0 (MN (MX f h) i).toArray rfl rfl (t.there rfl) MP κ ?_;have M:=OU Q (s.heap.size) 0 (MN (MX f h) i);have R:=t.sets (MN (MX f h) i) rfl;obtain⟨yz,z⟩:∃u,u=Q.setCells (s.heap.size) 0 (MN (MX f h) i):=⟨_,rfl⟩;rw[<-z]at M R;show K _ (Q.setCells (s.heap.size) 0 (MN (MX f h) i));rw[<-z];have bG:=j.size;have W:=I.V M (λg e k=>by have k1:=k.1;have k2:=k.2;cases e;omega);have V:=j.E (MF M ω (λ_ e=>by cases e;omega));have zz:yz.heap.size=Q.heap.size:=by rw[z];exact SK _ _ _ _
     clear z;refine p.j _ _ trivial (λ_=>?_)
     try simp only[PS]
     refine SP κ ?_ _;go_wp2_with fail;go_meet;exact⟨s.heap.size,i,rfl,R,W.J (λb l k=>⟨by have k1:=k.1;omega,l⟩),L,V⟩
    generalize s:C.drew=J at m j⊢
    clear s;have bI:=j.size;go_simp;obtain⟨Q,z⟩:∃u,u=J.alloc (.cells #[Z 0,yI none 0 0,yI none 0 0,yR false,Z 0,Z 0,Z 0,Z 0,Z 0,Z 0,Z 0,Z 0,Z 0,yI none 0 0,yI none 0 0,yI none 0 0] 42):=⟨_,rfl⟩;rw[<-z];obtain⟨P,zA,M⟩:=LK z.symm;have t:=M.q;replace m:=m.I P;replace j:=j.E (P.J j.size);clear z M;refine p.j _ _ (m) (λbE=>?_)
    try simp only[PS]
    refine NK 6 rfl (λK p=>?_);refine LI ρ _ _ γ (T.j Q) ?_;rintro r s ⟨i,rfl,I,L,E⟩;refine⟨_,rfl,?_⟩;have bJ:=E.size;replace m:=m.I E;replace j:=j.E (E.J j.size);replace t:=t.I E;refine p.j _ _ (m) (λbF=>?_)
    try simp only[PS]
    refine PM (rs:=[8]) κ σ ?_;refine AllReadyT.last rfl (λK p=>?_);refine SN rfl 42 _ _ rfl (J.heap.size) 0 (MN (MX f h) i).toArray rfl rfl (t.there rfl) MP κ ?_;have M:=OU s (J.heap.size) 0 (MN (MX f h) i);have R:=t.sets (MN (MX f h) i) rfl;obtain⟨yz,z⟩:∃u,u=s.setCells (J.heap.size) 0 (MN (MX f h) i):=⟨_,rfl⟩;rw[<-z]at M R;show K _ (s.setCells (J.heap.size) 0 (MN (MX f h) i));rw[<-z];have bG:=j.size;have W:=I.V M (λg e k=>by have k1:=k.1;have k2:=k.2;cases e;omega);have V:=j.E (MF M ω (λ_ e=>by cases e;omega));have zz:yz.heap.size=s.heap.size:=by rw[z];exact SK _ _ _ _
    clear z;refine p.j _ _ trivial (λ_=>?_)
    try simp only[PS]
    refine SP κ ?_ _;go_wp2_with fail;go_meet;exact⟨J.heap.size,i,rfl,R,W.J (λb l k=>⟨by have k1:=k.1;omega,l⟩),L,V⟩
   case rest =>
    obtain⟨X,i,rfl,t,I,L,j⟩:=hcut;have E:=Y (λA k e=>qf (MX f h) i A k L e);have p:=Y t;have s:=Y I;have e:=Y j;have J:Hid ((MX f h).le 1048576):=Y (Xq f h);have A:=Y L;clear t I j L T;have I:=(N.j.I e.j).r.lt;go_upto_region 5 with fail;refine AV ?_;refine AZ rfl 42 _ rfl X 0 rfl _ _ p.j.range underlying42 rfl MP ?_;simp only[PS];go_wp2_with fail;refine(E.j _ s.j.q J.j).J ?_;rintro r K ⟨rfl,j⟩;have m:=Y (e.j.E (j.J e.j.size));have t:=Y (p.j.I j);have z:=Y ((s.j.I j).J (G:=λb=>w.heap.size<=b/\b<K.heap.size) (λb l k=>⟨k.1,l⟩));rw[Xr];have L:=AC I j.size;clear E p s e j I J
    by_cases b:nwOk f h
    ·rw[AM b]
     rw[AI b]at D;have e:Hid ((MX f h)=Qc f h):=Y (by unfold MX;rw[AI b]);rw[e.j]at t z A;clear b e;go_upto_region 7 with fail;refine AV ?_;refine vl (zW B 0) (AZ rfl 42 _ rfl X 0 rfl _ _ t.j.range underlying42 rfl MP ?_);simp only[PS];refine vl (zW B 0) (vl (zW B 0) (T8 (N.j.I m.j).toDkN (y:=Qc f h) (q':=i) ?_));obtain⟨e,j⟩:=N.j.world m.j z.j;replace e:=DkI.mk e A.j;obtain⟨E,s⟩:∃u,u=K.setCells B 0 (MN (Qc f h) i):=⟨_,rfl⟩;rw[<-s]at e j⊢;have p:=Y (AG e j);clear s e j t z m L
     try go_wp2
     refine AE (v:=.tuple #[yQ ⟨#[111,107]⟩,yR true]) (by simp[results,results38,go_sem]) rfl ?_;rw[D.j];exact Sn p.j.1 p.j.2 (AB _ _) _
    rw[AH b]
    rw[AF b]at D;clear b;go_wp2;refine AE (v:=.tuple #[yQ ⟨#[110,111]⟩,yR true]) (by simp[results,results38,go_sem]) rfl ?_;rw[D.j];exact P7 N.j m.j _
  have D:Hid (Qb d n=(d,O0)):=Y (by unfold Qb;rw[AF (λk=>F k.2)])
  rw[o,AH F,IH];rw[o]at v;have h:((n.length:Int) == 2)=false:=BI.2 ω;have g:¬((n.length:Int)=2):=ω
  clear o F;go_enter func38,ntmps38;go_wp2_with fail;refine v.j.J ?_;rintro r C ⟨vt,rfl,i,b⟩;obtain⟨f,j,rfl⟩:=UX (i σ);have e:=Y b;clear b i;go_wp2;refine AE (v:=.tuple #[yQ ⟨#[]⟩,yR false]) (by simp[results,results38,go_sem]) rfl ?_;rw[D.j];exact Qt N.j e.j _
 have D:Hid (Qb d n=(d,O0)):=Y (by unfold Qb;rw[AF (λk=>o k.1)])
 have o:=GE.2 o;rw[o,Bool.false_and];rw[o]at v;clear o;go_enter func38,ntmps38;go_wp2_with fail;refine v.j.J ?_;rintro r C ⟨vt,rfl,_,b⟩;have e:=Y b;clear b;go_wp2;refine AE (v:=.tuple #[yQ ⟨#[]⟩,yR false]) (by simp[results,results38,go_sem]) rfl ?_;rw[D.j];exact Qt N.j e.j _
end
section
open _root_.Go.Proofs.Tryz
open Go.RowKit Go.Proofs.YtkdedmclofhndaaGreatDoor.nw
def Sy(K:Int)(b:List Ch)(a:List Int):Ev:=⟨K,b,a.getD 0 (-1),a.drop 1⟩
def Qr(K:Int)(b:List Ch)(d:Dk)(a:List yZ):Dk×yZ:=if MZ a=true then (⟨d.x.doR (Sy K b (OZ a)),d.b⟩,XN d.x (Sy K b (OZ a))) else (d,O0)
theorem Q2(K:Int)(b:List Ch)(E:xA)(I:Nat)(d:Dk)(B:Nat)(G:Nat->Prop)(q:Wp)(a:xA)(c:Nat)(wa:xA)(D:List yZ)(wc:Nat)(w:xV)(H:CmIn w B d G q a c wa D)(hK:1<=K/\K<=4)(hc:Chs w E b)(bH:b.length<=1048576/\∀x∈b,x.1.size<=1048576/\x.2.1.size<=1048576):Calls prog 70 #[zW B 0,NR ⟨K,b,0,[]⟩ E I none 0,yI wa D.length wc] w λr m=>O6 w m B G r (Qr K b d D) (MZ D):=by
 have g:=Y (λm (f:yX w m)=>xm wa D wc m (H.s.I f) H.l H.z (H.v.I f));have T:=Y H.h;have V:=Y H.v;have HK:=Y H.ok.w;have HC:=Y hc;have HG:=Y H.g;have p:=H.l;clear H hc;unfold NR
 cases hok:MZ D with
 | false =>
  rw[hok]at g;have F:Hid (Qr K b d D=(d,O0)):=Y (by unfold Qr;rw[AF (by rw[hok];simp)]);clear hok;go_enter func70,ntmps70;go_wp2_with fail;refine(g.j _ (LG w _)).J ?_;rintro r w1 ⟨vt,rfl,_,f⟩;have e:=Y ((LG w _).E (f.J (LG w _).size));clear f;go_wp2;refine AE (v:=.tuple #[yQ ⟨#[]⟩,yR false]) (by simp[results,results70,go_sem]) rfl ?_;rw[F.j];exact Qt T.j e.j _
 | true =>
  rw[hok]at g;have k:=Qq D;obtain⟨v,e⟩:∃v,v=OZ D:=⟨_,rfl⟩;have F:Hid (Qr K b d D=(⟨d.x.doR (Sy K b v),d.b⟩,XN d.x (Sy K b v))):=Y (by rw[e];unfold Qr;rw[AI hok]);rw[<-e]at g k;have cN:v.length<=30000:=ω
  clear e hok;go_enter func70,ntmps70;go_upto_region 1 with fail;generalize e:w.alloc _=v1;obtain⟨j,o,n⟩:=LK e;have cT:w.heap.size<v1.heap.size:=ω
  clear e;go_wp2_with fail;refine(g.j v1 j).J ?_;rintro r w1 ⟨vt,rfl,h,f⟩;replace h:=h σ;obtain⟨C,fc,e⟩:=UX h;rw[<-k]at e h;subst e;have i:=(n.I f).q;have l:=j.E (f.J j.size);have u:=i.y 2;have S:=i.A 2;have N:=i.lt;clear g k f n p;go_upto_if 21 with fail;have p:=Y (WR (F:=λb=>b≠w.heap.size) h (λb k=>by have:=O1 h k;omega));obtain⟨y,t⟩:∃y,y=w1.setCell (yA w.heap.size 2) (Z (-1)):=⟨_,rfl⟩;have f:=NA (AY w1 (some w.heap.size)) 2 (Z (-1));have n:=i.set 2 σ (Z (-1));rw[<-t]at f n⊢;have Q:=Y ((p.j.V f (λg e k=>k (by cases e;rfl))).q);have O:=Y (l.E (MF f l.size (λ_ e=>by cases e;exact AA _)));have R:=Y n;clear t f i n u S N l h p j o;go_cut [] from 22 to 28 (λf=>∃C J,Row f w.heap.size [Z K,yI E b.length I,Z (v.getD 0 (-1)),yI C (v.drop 1).length J]/\Ints f C (v.drop 1)/\yX w f)
  case first =>
   cases v with
   | nil =>
    go_wp2_with fail;go_meet;exact⟨none,0,R.j,.inl rfl,O.j⟩
   | cons A s =>
    obtain⟨g,f,cur,h,cP,-,cQ,-⟩:=Q.j.2.resolve_left (λk=>by have:=k.2;simp at this)
    obtain rfl:C=zY g 0:=by cases h;rfl
    obtain rfl:f=fc:=by cases h;rfl
    have L:=RJ Q.j;clear h;have bZ:g≠w.heap.size:=ω
    have lc:((s.length:Int)+1)<=(f:Int):=by have:(A::s).length=s.length+1:=rfl;omega
    have cS:(1:Int)<=(s.length:Int)+1:=ω
    obtain⟨M,cJ⟩:∃p,(if f=1 then some ((yA g 0):Addr) else zY g 1)=p:=⟨_,rfl⟩
    have cE:Hid (s=[]\/M=zY g 1):=Y (by by_cases cM:f=1;exact .inl (AD ω);exact .inr (by rw[<-cJ,AF cM]))
    have cC:=Y L;have cV:(1:Int)<=(f:Int):=ω
    clear L;rw[show decide (0<(A::s).length)=true from AM σ];simp only[BJ];go_upto_region 6 with fail;have U:=(AB y.heap.size y).drew;have L:=cC.j.I U;have i:=R.j.I U;have P:=O.j.E (U.J O.j.size);refine AN (S:=λm=>Row m g (Z A::s.map (Value.int .i64))/\w.heap.size<m.heap.size) κ (⟨L,i.lt⟩) (λj=>?_);refine TY 0 (yI (zY g 0) (s.length+1) f) rfl j (TK 1 (zW g 0) rfl (AS ⟨ρ,λw h=>by obtain⟨n,o⟩:=h;have l:=n.lt;go_simp⟩) j (TK 2 (Z A) rfl (AS ⟨ρ,λw h=>by obtain⟨n,o⟩:=h;have c0:=n.y 0;go_simp⟩) j (TY 3 (yI (zY g 0) (s.length+1) f) rfl j (TY 4 (yI M s.length (f-1)) rfl j (TK 5 (zW w.heap.size 2) rfl (AS ⟨ρ,λw h=>by obtain⟨n,o⟩:=h;have l:=o;go_simp⟩) j ?_)))))
    simp only[PS];refine RD 6 rfl (λz p=>?_);generalize t:y.drew=x at L i P⊢;clear t;have u:=i.y 2;have S:=i.A 2;have N:=i.lt;go_simp;clear u S N;obtain⟨x2,X⟩:∃u,u=x.setCell (yA w.heap.size 2) (Z A):=⟨_,rfl⟩;have N:=NA (AY x (some w.heap.size)) 2 (Z A);have t:=i.set 2 σ (Z A);rw[<-X]at N t⊢;have W:=L.V N (λe=>bZ (by cases e;rfl));have S:=P.E (MF N P.size (λ_ e=>by cases e;exact AA _));clear X N i L P;refine p.j _ _ (⟨W,t.lt⟩) (λL=>?_)
    try simp only[PS]
    refine TK 7 (zW w.heap.size 3) rfl (AS ⟨ρ,λw h=>by obtain⟨n,o⟩:=h;have l:=o;go_simp⟩) L ?_;simp only[PS];refine RD 8 rfl (λz p=>?_);have i:=t.y 3;have P:=t.A 3;have N:=t.lt;go_simp;clear i P N;obtain⟨x3,X⟩:∃u,u=x2.setCell (yA w.heap.size 3) (yI M s.length (f-1)):=⟨_,rfl⟩;have i:=NA (AY x2 (some w.heap.size)) 3 (yI M s.length (f-1));have N:=t.set 3 σ (yI M s.length (f-1));rw[<-X]at i N⊢;have P:=W.V i (λe=>bZ (by cases e;rfl));have cH:=S.E (MF i S.size (λ_ e=>by cases e;exact AA _));clear X i t W S;refine p.j _ _ (⟨P,N.lt⟩) (λS=>?_)
    try simp only[PS]
    refine DN ?_;go_wp2_with fail;go_meet;exact⟨M,f-1,N,cE.j.imp id (λe=>⟨g,1,e,P.lt,λi t=>by rw[Nat.add_comm];exact P.cell (i+1) _ (by simp[List.getD,show i<s.length by simpa using t])⟩),cH⟩
  case rest =>
   obtain⟨C,J,i,t,M⟩:=hcut;obtain⟨A,n⟩:∃z,z=v.getD 0 (-1):=⟨_,rfl⟩;obtain⟨s,f⟩:∃l,l=v.drop 1:=⟨_,rfl⟩;have o:s.length<=1048576:=by rw[f,BQ];omega
   have L:Sy K b v=⟨K,b,A,s⟩:=by unfold Sy;rw[<-n,<-f]
   rw[L]at F;rw[<-n,<-f]at i;rw[<-f]at t;have P:=Y (λm k1 j k3=>Uz d.x q ⟨K,b,A,s⟩ E I C J m k1 T.j.cap (O2 HK.j) j ⟨bH,o⟩ hK k3);have U:=Y (λm (k1:DkI m B d G q a c) j k3 k4=>Wq ⟨K,b,A,s⟩ E I C J k1 HK.j j k3 k4 ⟨bH,o⟩);have W:=Y (Rt d.x ⟨K,b,A,s⟩);have p:=Y t;have j:=Y M;have z:=Y i;clear n f o L t R O Q cN hK bH i;unfold NR at P U;go_upto_region 7 with fail;obtain⟨N,HN⟩:∃N,Hid (N=codeP d.x ⟨K,b,A,s⟩):=⟨_,Y rfl⟩;rw[<-HN.j]at P W;have f:=j.j.E ((AB wc.heap.size wc).drew.J j.j.size);have L:=T.j.I f;have i:=z.j.I (AB wc.heap.size wc).drew;have Q:=Y (p.j.I (AB wc.heap.size wc).drew);clear j z p M;refine AN (S:=λm=>DkI m B d G q a c/\Row m w.heap.size [Z K,yI E b.length I,Z A,yI C s.length J]) κ (⟨L,i⟩) (λj=>?_)
   refine TY 0 (zW B 0) rfl j (TK 1 (zW B 0) rfl (AS ⟨ρ,λw h=>by obtain⟨n,o⟩:=h;have l:=n.r.lt;go_simp⟩) j (TK 2 (zW B 0) rfl (AS ⟨ρ,λw h=>by obtain⟨n,o⟩:=h;have l:=n.r.lt;go_simp⟩) j (TK 3 (LT d.x q) rfl (AS ⟨ρ,λw h=>by obtain⟨n,o⟩:=h;exact R6 n.toDkN _ rfl rfl⟩) j (TK 4 (.agg #[Z K,yI E b.length I,Z A,yI C s.length J]) rfl (AS ⟨ρ,λw h=>by obtain⟨n,o⟩:=h;exact QI 78 _ rfl _ 0 rfl _ _ o.range underlying78 rfl VV⟩) j ?_))));simp only[PS];refine RD 5 rfl (λz p=>?_);generalize t:wc.drew=y7 at L i f Q⊢;clear t;refine LI ρ _ _ γ (P.j y7 L.m.q (HC.j.I f) (V.j.I f)) ?_;rintro r M ⟨rfl,O⟩;refine⟨_,rfl,?_⟩;have R:=L.I O;have t:=i.I O;have aN:=f.E (O.J f.size)
   have bV:=Y (Q.j.I O);clear L i f Q O;refine p.j _ _ (⟨R,t⟩) (λL=>?_)
   try simp only[PS]
   refine RD 6 rfl (λz p=>?_);go_simp;refine p.j _ _ L (λ_=>?_)
   try simp only[PS]
   refine DN ?_;clear j L P;go_upto_region 8 with fail;refine TU (9) (S:=λm=>DkI m B d G q a c/\Row m w.heap.size [Z K,yI E b.length I,Z A,yI C s.length J]) κ (⟨R.I (AB M.heap.size M).drew,t.I (AB M.heap.size M).drew⟩) (λj=>?_);refine NL 0 (zW B 0) rfl j (NL 1 (zW B 0) rfl j (LU 2 (zW B 0) rfl (AS ⟨ρ,λw h=>by obtain⟨n,o⟩:=h;have l:=n.r.lt;go_simp⟩) j (LU 3 (zW B 0) rfl (AS ⟨ρ,λw h=>by obtain⟨n,o⟩:=h;have l:=n.r.lt;go_simp⟩) j (LU 4 (LT d.x q) rfl (AS ⟨ρ,λw h=>by obtain⟨n,o⟩:=h;exact R6 n.toDkN _ rfl rfl⟩) j (LU 5 (.agg #[Z K,yI E b.length I,Z A,yI C s.length J]) rfl (AS ⟨ρ,λw h=>by obtain⟨n,o⟩:=h;exact QI 78 _ rfl _ 0 rfl _ _ o.range underlying78 rfl VV⟩) j ?_)))))
   simp only[PS];refine NK 6 rfl (λz p=>?_);have h:=(AB M.heap.size M).drew;have Q:=aN.E (h.J aN.size);generalize f:M.drew=y9 at h Q⊢;clear f;refine LI ρ _ _ γ (U.j y9 (R.I h) (V.j.I Q) (HC.j.I Q) (bV.j.I h)) ?_;intro r z2 i;obtain⟨P,X⟩:∃f,Hid (f=d.x.doR ⟨K,b,A,s⟩):=⟨_,Y rfl⟩;rw[<-X.j]at i;obtain⟨q5,rfl,f,O,S,cL⟩:=Wn T.j Q i;refine⟨_,rfl,?_⟩;have cA:=(t.I h).I cL;clear i R t h bV U;refine p.j _ _ (⟨f,cA⟩) (λL=>?_)
   try simp only[PS]
   refine NK 7 rfl (λz p=>?_);have h:=f.r.lt;go_simp;clear h;refine p.j _ _ L (λ_=>?_)
   try simp only[PS]
   refine NK 8 rfl (λz p=>?_);have h:=f.r.lt;go_simp;clear h;refine p.j _ _ L (λ_=>?_)
   try simp only[PS]
   refine PM (rs:=[9]) κ σ ?_;refine AllReadyT.last rfl (λz p=>?_);refine SN rfl 42 _ _ rfl B 0 (MN P q5).toArray rfl rfl (Row.thereMid (pre:=[]) (cs:=MN d.x q) (post:=[yI a d.b.length c]) f.r rfl) MP κ ?_;obtain⟨U,h⟩:∃u,u=z2.setCells B 0 (MN P q5):=⟨_,rfl⟩;rw[<-h]at O S;show z _ (z2.setCells B 0 (MN P q5));rw[<-h];clear h;refine p.j _ _ trivial (λ_=>?_)
   try simp only[PS]
   refine SP κ ?_ _;clear j;have h:=Y (AG O S);have i:=O.r.y 3;have R:=O.r.lt;have u:=Y (S.vz (λb k=>(HG.j b k).1) V.j);clear O S f cA Q;have t:=Y (λm k=>jh N (by have:=W.j;omega) m k);have f:(LH N).size<=9:=Pl (by have:=W.j;omega);have zk:¬(9223372036854775807<3+(LH N).size):=ω
   have O:¬(9223372036854775807<5+(LH N).size):=ω
   have Q:¬(9223372036854775804<(LH N).size):=ω
   have S:¬(9223372036854775802<(LH N).size):=ω
   clear f;have k:Hid (XN d.x ⟨K,b,A,s⟩=(if P.up=true then ⟨#[117,112,32]⟩ else ⟨#[100,111,119,110,32]⟩)++LH N):=Y (by rw[HN.j,X.j];rfl);rw[k.j,<-X.j]at F;simp only at i
   cases hup:P.up with
   | true =>
    rw[hup]at i F;go_wp2_with fail;refine(t.j _ u.j).J ?_;rintro r m ⟨rfl,f⟩;have j:=Y f;clear f i R;go_wp2;refine AE (v:=.tuple #[yQ (⟨#[117,112,32]⟩++LH N),yR true]) (by simp[results,results70,go_sem]) rfl ?_;rw[F.j];exact Sn h.j.1 h.j.2 j.j _
   | false =>
    rw[hup]at i F;go_wp2_with fail;refine(t.j _ u.j).J ?_;rintro r m ⟨rfl,f⟩;have j:=Y f;clear f i R;go_wp2;refine AE (v:=.tuple #[yQ (⟨#[100,111,119,110,32]⟩++LH N),yR true]) (by simp[results,results70,go_sem]) rfl ?_;rw[F.j];exact Sn h.j.1 h.j.2 j.j _
end
section
open _root_.Go.Proofs.Tryz
open Go.RowKit Go.Proofs.YtkdedmclofhndaaGreatDoor.nw
theorem Rv{k:Int}(h:k≠2)(d:Dk)(a:List yZ):Pp k d a=Qr k [] d a:=by
 unfold Pp Qr Tl Sy;simp only[AF h]
theorem Xk(d:Dk)(a:List yZ):Pp 2 d a=(if MZ a=true then (⟨(Qr 2 d.b d a).1.x,[]⟩,(Qr 2 d.b d a).2) else (d,O0)):=by
 unfold Pp Qr Tl Sy
 split
 ·simp
 rfl
theorem Wi(d:Dk)(B:Nat)(G:Nat->Prop)(q:Wp)(a:xA)(c:Nat)(f:xA)(b:List yZ)(wc:Nat)(w:xV)(H:CmIn w B d G q a c f b):Calls prog 42 #[zW B 0,yI f b.length wc] w λr e=>O6 w e B G r (Pp 1 d b) (MZ b):=by
 rw[Rv δ]
 have g:=Y (show Calls prog 70 #[zW B 0,.agg #[Z 1,yI none 0 0,Z 0,yI none 0 0],yI f b.length wc] w _ from Q2 1 [] none 0 d B G q a c f b wc w H δ (.inl rfl) ⟨σ,λx e=>by cases e⟩)
 clear H;obtain⟨e,h⟩:∃e,e=MZ b:=⟨_,rfl⟩;obtain⟨p,i⟩:∃p,p=Qr 1 [] d b:=⟨_,rfl⟩;rw[<-h,<-i]at g⊢;clear h i;go_enter func42,ntmps42;go_wp2_with fail;refine g.j.J ?_;rintro r k ⟨rfl,D,F⟩;obtain⟨s,h⟩:∃s,s=(if e=true then p.2 else ⟨#[]⟩):=⟨_,rfl⟩;have i:=Y (AG D F);rw[<-h];have j:=Y h;clear g D F h;go_wp2;refine AE (v:=.tuple #[yQ s,yR e]) (by simp[results,results42,go_sem]) rfl ?_;exact⟨by rw[j.j],i.j.1,i.j.2⟩
theorem Vj(d:Dk)(B:Nat)(G:Nat->Prop)(q:Wp)(a:xA)(c:Nat)(f:xA)(b:List yZ)(wc:Nat)(w:xV)(H:CmIn w B d G q a c f b):Calls prog 43 #[zW B 0,yI f b.length wc] w λr e=>O6 w e B G r (Pp 3 d b) (MZ b):=by
 rw[Rv δ]
 have g:=Y (show Calls prog 70 #[zW B 0,.agg #[Z 3,yI none 0 0,Z 0,yI none 0 0],yI f b.length wc] w _ from Q2 3 [] none 0 d B G q a c f b wc w H δ (.inl rfl) ⟨σ,λx e=>by cases e⟩)
 clear H;obtain⟨e,h⟩:∃e,e=MZ b:=⟨_,rfl⟩;obtain⟨p,i⟩:∃p,p=Qr 3 [] d b:=⟨_,rfl⟩;rw[<-h,<-i]at g⊢;clear h i;go_enter func43,ntmps43;go_wp2_with fail;refine g.j.J ?_;rintro r k ⟨rfl,D,F⟩;obtain⟨s,h⟩:∃s,s=(if e=true then p.2 else ⟨#[]⟩):=⟨_,rfl⟩;have i:=Y (AG D F);rw[<-h];have j:=Y h;clear g D F h;go_wp2;refine AE (v:=.tuple #[yQ s,yR e]) (by simp[results,results43,go_sem]) rfl ?_;exact⟨by rw[j.j],i.j.1,i.j.2⟩
theorem To(d:Dk)(B:Nat)(G:Nat->Prop)(q:Wp)(a:xA)(c:Nat)(f:xA)(b:List yZ)(wc:Nat)(w:xV)(H:CmIn w B d G q a c f b):Calls prog 44 #[zW B 0,yI f b.length wc] w λr e=>O6 w e B G r (Pp 4 d b) (MZ b):=by
 rw[Rv δ]
 have g:=Y (show Calls prog 70 #[zW B 0,.agg #[Z 4,yI none 0 0,Z 0,yI none 0 0],yI f b.length wc] w _ from Q2 4 [] none 0 d B G q a c f b wc w H δ (.inl rfl) ⟨σ,λx e=>by cases e⟩)
 clear H;obtain⟨e,h⟩:∃e,e=MZ b:=⟨_,rfl⟩;obtain⟨p,i⟩:∃p,p=Qr 4 [] d b:=⟨_,rfl⟩;rw[<-h,<-i]at g⊢;clear h i;go_enter func44,ntmps44;go_wp2_with fail;refine g.j.J ?_;rintro r k ⟨rfl,D,F⟩;obtain⟨s,h⟩:∃s,s=(if e=true then p.2 else ⟨#[]⟩):=⟨_,rfl⟩;have i:=Y (AG D F);rw[<-h];have j:=Y h;clear g D F h;go_wp2;refine AE (v:=.tuple #[yQ s,yR e]) (by simp[results,results44,go_sem]) rfl ?_;exact⟨by rw[j.j],i.j.1,i.j.2⟩
theorem Uk(d:Dk)(B:Nat)(G:Nat->Prop)(q:Wp)(a:xA)(c:Nat)(i:xA)(f:List yZ)(wc:Nat)(w:xV)(H:CmIn w B d G q a c i f):Calls prog 41 #[zW B 0,yI i f.length wc] w λr b=>O6 w b B G r (Pp 2 d f) (MZ f):=by
 rw[Xk];have b:=Y (show Calls prog 70 #[zW B 0,.agg #[Z 2,yI a d.b.length c,Z 0,yI none 0 0],yI i f.length wc] w _ from Q2 2 d.b a c d B G q a c i f wc w H δ H.h.chs ⟨by have:=H.ok.l;omega,λx e=>by have:=H.ok.s x e;omega⟩);have c16:=H.h.r.y 16;have j:=H.h.r.lt;clear H;obtain⟨h,g⟩:∃h,h=MZ f:=⟨_,rfl⟩;have m:Hid (h=false->Qr 2 d.b d f=(d,O0)):=Y (λe=>by unfold Qr;rw[<-g,e,AF σ]);obtain⟨p,e⟩:∃p,p=Qr 2 d.b d f:=⟨_,rfl⟩;rw[<-g,<-e]at b⊢;rw[<-e]at m;clear g e;go_enter func41,ntmps41;go_wp2_with fail;refine b.j.J ?_;rintro r o ⟨rfl,⟨n,u,v,D⟩,F⟩;clear b c16 j
 cases h with
 | true =>
  have y:=D.r.lt;have x:=D.r.y 16;have f16:=D.r.A 16;obtain⟨s,j⟩:∃s,s=p.2:=⟨_,rfl⟩;have t:=Y j;rw[AI rfl,<-j];obtain⟨g,l⟩:=D.clear (a':=none) (AB o.heap.size o) (BT _ _ _ _) (λb k=>by cases k);replace g:=DkI.mk g D.cap;have e:=Y (AG g (AG F l));clear D g F l j;go_wp2;refine AE (v:=.tuple #[yQ s,yR true]) (by simp[results,results41,go_sem]) rfl ?_;rw[t.j];exact⟨rfl,⟨n,none,0,e.j.1.J (λb l k=>by rcases k with (k|k)|k;exact .inl k;exact .inr ⟨k.1,AC k.2 e.j.2.2.size⟩;exact .inr ⟨AJ e.j.2.1.size k.1,k.2⟩)⟩,e.j.2.1.E e.j.2.2 (λb l k=>by rcases k with k|k;exact k;exact absurd l ω)⟩
 | false =>
  obtain rfl:=m.j rfl;rw[AF σ];have e:=Y (AG D F);clear D F;go_wp2;refine AE (v:=.tuple #[yQ ⟨#[]⟩,yR false]) (by simp[results,results41,go_sem]) rfl ?_;exact⟨rfl,⟨n,u,v,e.j.1⟩,e.j.2⟩
theorem Xt(d:Dk)(B:Nat)(G:Nat->Prop)(q:Wp)(a:xA)(c:Nat)(Q:xA)(b:List yZ)(wc:Nat)(w:xV)(H:CmIn w B d G q a c Q b):Calls prog 46 #[zW B 0,yI Q b.length wc] w λr l=>O6 w l B G r (Rh d b) (Pq 1 b):=by
 have n:=Y (ze Q b wc w H.s H.l H.z);have C:=Y H.h;have U:=Y (gy H.ok.w).2.2;have J:=Y (O2 H.ok.w);have bQ:=H.l;clear H
 by_cases i:QX b=true
 ·by_cases t:b.length=1
  ·have D:(PD b).length=1:=by unfold PD;rw[BO,t]
   obtain⟨h,g⟩:∃h,PD b=[h]:=by
    match PD b,D with
    | [x],_=>exact⟨x,rfl⟩
   have u:Hid (Rh d b=(d,Rg d.x h)):=Y (by unfold Rh;rw[AI ⟨i,t⟩,g];rfl);have s:Hid (Pq 1 b=true):=Y (by unfold Pq;rw[i,t];rfl);rw[s.j];rw[i]at n;rw[t]at n⊢;rw[g]at n;obtain⟨m,o⟩:∃m,d.x.P.length=m+1:=⟨d.x.P.length-1,by have:=U.j;omega⟩;have z:=GA (l:=d.x.P) (n:=m) ω;obtain⟨f,E⟩:∃f,f=d.x.P.getD m []:=⟨_,rfl⟩;have F:f∈d.x.P:=by rw[E,show d.x.P.getD m []=d.x.P[m]' ω by simp[List.getD,show m<d.x.P.length by omega]];exact z
   have A:Hid (Rg d.x h=if (Pe f h).isSome=true then SR ((Pe f h).getD ⟨#[]⟩) else ⟨#[110,111,110,101]⟩):=Y (by unfold Rg;rw[o,E];rfl);have aU:=Y (J.j.s4 f F);have y:Hid (((Pe f h).getD ⟨#[]⟩).size<=30000):=Y (by cases e:Pe f h with|none=>exact AL _|some v=>have:=Sp e;show v.size<=30000;omega);have T:=Y (λl=>Ax ((Pe f h).getD ⟨#[]⟩) l y.j);obtain⟨V,j⟩:∃V,V=(Pe f h).getD ⟨#[]⟩:=⟨_,rfl⟩;obtain⟨S,I⟩:∃S,S=(Pe f h).isSome:=⟨_,rfl⟩;have R:=Y (λp c l k=>X4 p f c h l k aU.j.1 aU.j.2);rw[<-j,<-I]at R A;rw[<-j]at T;have bP:(m:Int)<(m:Int)+1:=ω
   have bJ:(0:Int)<=(m:Int):=ω
   have bV:IntKind.i64.wrap (m:Int)=(m:Int):=eh _ ω (by have:=J.j.l4;omega);have X:=Y o;clear D g i t bQ z F y j I U J o;go_enter func46,ntmps46;go_wp2_with fail;refine n.j.J ?_;rintro r F ⟨vt,rfl,p,j⟩;obtain⟨g,O,rfl,bT,bU,o⟩:=(MC (p σ)).resolve_left (λk=>by have:=k.2;omega);have k:=C.j.I j;have y:=k.r.y 14;rw[X.j]at y;have z:=k.r.lt;have aT:=Y o;have K:=Y j;have W:=Y k;clear n p o j k;go_upto_region 5 with fail;clear y z;obtain⟨p,z,P,pc,bB,M,aZ,N⟩:=W.j.m.q.h4.at (k:=m) (by rw[X.j];omega);rw[bB];have k:=Y aZ;rw[<-E]at k N;have j:=(AB F.heap.size F).drew;have o:=aT.j.I j;have I:=(j.cell (p:=(yA p (z+m))) M).E k.j;have D:=AC M j.size;have L:=Y (N.j.I j);have y:=K.j.E (j.J K.j.size);clear j aT aZ M N k E bB W K
   refine AN (S:=λl=>l.cell? (yA p (z+m))=some (yI P f.length pc)/\p<l.heap.size/\Row l g [yQ h]) κ (⟨I,D,o⟩) (λj=>?_);refine TY 0 (yI (zY p z) (m+1) q.cp) rfl j (TY 1 (yI (zY p z) (m+1) q.cp) rfl j (TY 2 (Z ((m:Int)+1)) rfl j (TY 3 (Z (m:Int)) rfl j (TY 4 (zW p (z+m)) rfl j (TY 5 (.agg #[yI P f.length pc]) rfl j (TY 6 (yI (zY g 0) 1 O) rfl j (TK 7 (zW g 0) rfl (AS ⟨ρ,λw k=>by obtain⟨z0,z1,K⟩:=k;have l:=K.lt;go_simp⟩) j (TK 8 (yQ h) rfl (AS ⟨ρ,λw k=>by obtain⟨z0,z1,K⟩:=k;have c0:=K.y 0;go_simp⟩) j ?_))))))));simp only[PS];refine RD 9 rfl (λM E=>?_);generalize k:F.drew=y0 at o I D L y⊢;clear k;refine LI ρ _ _ γ (R.j P pc y0 L.j) ?_;rintro r y1 ⟨rfl,k⟩
   refine⟨_,rfl,?_⟩;have N:=(k.cell (p:=(yA p (z+m))) D).E I;have W:=AC D k.size;replace o:=o.I k;replace y:=y.E (k.J y.size);clear k L I D;refine E.j _ _ (⟨N,W,o⟩) (λD=>?_)
   try simp only[PS]
   refine TY 10 (.tuple #[yQ V,yR S]) rfl D (TY 11 (yQ V) rfl D (TY 12 (yR S) rfl D ?_));simp only[PS];refine RD 13 rfl (λM E=>?_);go_simp;refine E.j _ _ D (λ_=>?_)
   try simp only[PS]
   refine RD 14 rfl (λM E=>?_);go_simp;refine E.j _ _ D (λ_=>?_)
   try simp only[PS]
   refine DN ?_;clear j N W o;have k:=Y y;clear y bP bJ
   cases S with
   | true =>
    rw[AI rfl]at A;go_wp2_with fail;refine(T.j _).J ?_;rintro r y ⟨rfl,j⟩;have o:=Y (k.j.E (j.J k.j.size));clear j;go_wp2;refine AE (v:=.tuple #[yQ (SR V),yR true]) (by simp[results,results46,go_sem]) rfl ?_;rw[u.j,A.j];exact P7 C.j o.j _
   | false =>
    rw[AF σ]at A;go_wp2;refine AE (v:=.tuple #[yQ ⟨#[110,111,110,101]⟩,yR true]) (by simp[results,results46,go_sem]) rfl ?_;rw[u.j,A.j];exact P7 C.j k.j _
  have s:Hid (Pq 1 b=false):=Y (by unfold Pq;rw[i,AH t];rfl)
  have u:=Y (Sr (d:=d) s.j);rw[s.j];rw[i]at n;have g:((b.length:Int) == 1)=false:=BI.2 ω;have f:¬((b.length:Int)=1):=ω
  clear i t;go_enter func46,ntmps46;go_wp2_with fail;refine n.j.J ?_;rintro r F ⟨vt,rfl,p,j⟩;obtain⟨e,h,rfl⟩:=UX (p σ);have k:=Y j;clear j p;go_wp2;refine AE (v:=.tuple #[yQ ⟨#[]⟩,yR false]) (by simp[results,results46,go_sem]) rfl ?_;rw[u.j];exact Qt C.j k.j _
 have i:=GE.2 i
 have s:Hid (Pq 1 b=false):=Y (by unfold Pq;rw[i];rfl);have u:=Y (Sr (d:=d) s.j);rw[s.j];rw[i]at n;clear i;go_enter func46,ntmps46;go_wp2_with fail;refine n.j.J ?_;rintro r F ⟨vt,rfl,_,j⟩;have k:=Y j;clear j;go_wp2;refine AE (v:=.tuple #[yQ ⟨#[]⟩,yR false]) (by simp[results,results46,go_sem]) rfl ?_;rw[u.j];exact Qt C.j k.j _
end
section
open _root_.Go.Proofs.Tryz
open Go.RowKit Go.Proofs.YtkdedmclofhndaaGreatDoor.nw
def ig(B:Nat):qD->Option (DataW Unit×List MemPlace)
 | .func (.func k) f c=>match f.toList,c.toList with
  | [.pointer (some a)],[]=>if a.block=B/\a.off=0/\a.spot.isNone=true then some (.lit (.int .i64 (k:Int)),[]) else none
  | _,_=>none
 | _=>none
theorem Wz(B k:Nat):ig B (.func (.func k) #[zW B 0] #[])=some (.lit (.int .i64 (k:Int)),[]):=by simp[ig]
theorem Uw{B:Nat}{v:qD}{y:DataW Unit×List MemPlace}(h:ig B v=some y):∃k:Nat,y.1=.lit (.int .i64 (k:Int))/\v=.func (.func k) #[zW B 0] #[]:=by
 unfold ig at h
 split at h
 ·rename_i k f c
  split at h
  ·rename_i a i g
   split at h
   ·rename_i e
    cases h
    refine⟨k,rfl,?_⟩;obtain⟨b,o,j⟩:=a;obtain⟨rfl,rfl,d⟩:=e
    cases j with
    | none=>rw[show f=#[.pointer (some ⟨b,0,none⟩)] from IE i,show c=#[] from IE g]
    | some z=>cases d
   cases h
  cases h
 cases h
def me:List (yZ×Nat)->DataW Unit
 | []=>.map []
 | p::r=>(me r).put (.string p.1.data.toList) (.lit (.int .i64 (p.2:Int)))
theorem Tv:∀l,Maps.IsMap (me l)
 | []=>Maps.isMap_empty
 | p::r=>(Tv r).put _ _
theorem Tj(s:yZ)(z:DataW Unit):∀l:List (yZ×Nat),(me l).atKey (.string s.data.toList) z=match l.find? (λp=>decide (p.1=s)) with|some p=>.lit (.int .i64 (p.2:Int))|none=>z
 | []=>rfl
 | p::r=>by
  by_cases h:p.1=s
  ·subst h
   rw[List.find?_cons_of_pos σ];exact Maps.atKey_put_same (Tv r) (show WideAt.IsKeyLit (.string p.1.data.toList) from trivial) _ _
  rw[List.find?_cons_of_neg (by simp[h])]
  refine(Maps.atKey_put_other (λe=>h ?_) _ _).E (Tj s z r);injection e with e;exact TE e.symm
def RT:List (yZ×Nat):=[(Qv,48),(P6,47),(Rk,46),(Qn,45),(Ps,44),(Qm,43),(Re,42),(P2,41),(wDel,40),(wPut,39),(Ql,38)]
def CmM(w:xV)(B M:Nat)(l:List (yZ×Nat)):Prop:=w.ownsMap prog 9 (ig B) M l.length (me l)
theorem T1(s:yZ)(a:s.size<=1048576):keyOf prog 9 (yQ s)=some (.string s.data.toList):=by
 rw[keyOf_string underlying9];simp[mapKey,underlying9];unfold maxLen;omega
section
variable {w v:xV} {B M:Nat} {l:List (yZ×Nat)} {ops:Array Oper} {rest:List Oper} {o1 o2 o3:Oper} {A:Act} {Q:Exit->Act->xV->Prop}
theorem Pz(s:yZ)(k:Nat)(o:CmM v B M l)(a:yX w v)(n:w.heap.size<=M)
  (h:∀u,CmM u B M ((s,k)::l)->yX w u->wpList prog ops Q rest (((A.put o1.dst (zW B 0)).put o2.dst (.func (.func k) #[zW B 0] #[])).put o3.dst undef) u)
  {m x y:Operand}(E:l.length<100:=by decide)(q:s.size<=1048576:=by decide)(g:o1.guard=none:=by rfl)(i:o2.guard=none:=by rfl)(j:o3.guard=none:=by rfl)
  (d:(execOp A.eval o1).run prog v=.ok (.value (zW B 0)) v:=by go_simp)(f:(execOp (A.put o1.dst (zW B 0)).eval o2).run prog v=.ok (.value (.func (.func k) #[zW B 0] #[])) v:=by go_simp)
  (p:o3.op=.insert 51 m x y:=by rfl)(r:((A.put o1.dst (zW B 0)).put o2.dst (.func (.func k) #[zW B 0] #[])).eval m=.map (some M):=by rfl)(t:((A.put o1.dst (zW B 0)).put o2.dst (.func (.func k) #[zW B 0] #[])).eval x=yQ s:=by rfl)(k3:((A.put o1.dst (zW B 0)).put o2.dst (.func (.func k) #[zW B 0] #[])).eval y=.func (.func k) #[zW B 0] #[]:=by rfl):wpList prog ops Q (o1::o2::o3::rest) A v:=by
 refine SO g _ d (SO i _ f (ID j λD c=>?_));obtain⟨u,b,z,C⟩:=World.ownsMap.update o (Maps.string_keyed underlying9) underlying51 (by unfold maxLen;omega) (T1 s q) (Wz B k);unfold Oper.wp;simp[execOp,p,r,t,k3,b,Result.andThen];exact c _ _ (h u z (a.E (MF C a.size (λ_ e=>by cases e;exact n))))
theorem X7(s:yZ)(o:s.size<=1048576)(n:CmM v B M l):(∃k,(s,k)∈l/\(Instr.lookup 51 (.map (some M)) (yQ s) true).run prog v=.ok (.tuple #[.func (.func k) #[zW B 0] #[],yR true]) v)\/((∀p∈l,¬p.1=s)/\(Instr.lookup 51 (.map (some M)) (yQ s) true).run prog v=.ok (.tuple #[.nilFunc,yR false]) v):=by
 obtain⟨t,q,m,F,_,f⟩:=n;rcases Maps.fit_look true (Maps.string_keyed underlying9) underlying51 (z:=.nilFunc) rfl m F (T1 s o) with ⟨b,_,c⟩|⟨r,y,_,_,b,g,c,_⟩
 ·refine .inr ⟨λp h e=>?_,b⟩
  have a:=(Tj s (.lit (.bool true)) l).symm.E ((BC (λD:DataW Unit=>D.atKey (.string s.data.toList) (.lit (.bool true))) f).E (c (.lit (.bool true))));have d:(l.find? (λp=>decide (p.1=s))).isSome=true:=List.find?_isSome.2 ⟨p,h,by simpa using e⟩
  cases e2:l.find? (λp=>decide (p.1=s)) with
  | none=>rw[e2]at d;cases d
  | some i=>rw[e2]at a;cases a
 refine .inl ?_
 have a:=(Tj s (.lit (.bool true)) l).symm.E ((BC (λD:DataW Unit=>D.atKey (.string s.data.toList) (.lit (.bool true))) f).E (c (.lit (.bool true))))
 cases e2:l.find? (λp=>decide (p.1=s)) with
 | none =>
  rw[e2]at a;obtain⟨k,d,-⟩:=Uw g;rw[d]at a
  cases a
 | some p =>
  rw[e2]at a;obtain⟨k,d,h⟩:=Uw g;rw[d]at a;simp only[DataW.lit.injEq,Lit.int.injEq,true_and]at a;have e:p.2=k:=ω
  subst e;have i:=List.mem_of_find?_eq_some e2;have j:p.1=s:=by simpa using List.find?_some e2
  exact⟨p.2,by rw[<-j];exact i,by rw[<-h];exact b⟩
end
theorem Tf(B:Nat)(w:xV):Calls prog 13 #[zW B 0] w λr a=>r=yT (.map (some w.heap.size))/\CmM a B w.heap.size RT/\yX w a:=by
 have f:=@run_makeMap prog;go_enter func13,ntmps13;go_upto_region 1 with fail;refine AV ?_;refine dt rfl (.map (some w.heap.size)) (w.alloc (.map #[] 0)) γ ?_;simp only[PS];have a:CmM (w.alloc (.map #[] 0)) B w.heap.size []:=World.ownsMap_made _ _ _ _;have b0:=LG w (.map #[] 0);generalize w.alloc (.map #[] 0)=h at a b0⊢;refine Pz Ql 38 a b0 (AA _) ?_;intro i c b;simp only[PS];clear a b0;refine Pz wPut 39 c b (AA _) ?_;intro j d a;simp only[PS];clear c b;refine Pz wDel 40 d a (AA _) ?_;intro k c b;simp only[PS];clear d a;refine Pz P2 41 c b (AA _) ?_;intro l d a;simp only[PS];clear c b;refine Pz Re 42 d a (AA _) ?_;intro m c b;simp only[PS];clear d a;refine Pz Qm 43 c b (AA _) ?_;intro n d a;simp only[PS];clear c b;refine Pz Ps 44 d a (AA _) ?_
 intro o c b;simp only[PS];clear d a;refine Pz Qn 45 c b (AA _) ?_;intro p d a;simp only[PS];clear c b;refine Pz Rk 46 d a (AA _) ?_;intro q e b;simp only[PS];clear d a;refine Pz P6 47 e b (AA _) ?_;intro g c a;simp only[PS];clear e b;refine Pz Qv 48 c a (AA _) ?_;intro e d b;simp only[PS];clear c a;have a:=Y (AG d b);clear d b
 try go_wp2
 refine AE (v:=.map (some w.heap.size)) (by simp[results,results13,go_sem]) rfl ?_;exact⟨rfl,a.j.1,a.j.2⟩
end
section
open _root_.Go.Proofs.Tryz
open Go.RowKit Go.Proofs.YtkdedmclofhndaaGreatDoor.nw
theorem CmM.keep{w a:xV}{B M:Nat}{l:List (yZ×Nat)}(h:CmM w B M l)(e:a.heap[M]?=w.heap[M]?):CmM a B M l:=by
 obtain⟨c,b,d,r⟩:=h;exact⟨c,b,e.E d,r⟩
theorem CmM.lt{w:xV}{B M:Nat}{l:List (yZ×Nat)}(h:CmM w B M l):M<w.heap.size:=World.ownsMap.lt h
def VD(k:Nat)(f:yZ):Prop:=(∀e v,Sem.run prog (callFunc k e) v=.ok (.enter k e) v)/\∀(d:Dk) (B:Nat) (G:Nat->Prop) (q:Wp) (a:xA) (c:Nat) (h:xA) (b:List yZ) (wc:Nat) (w:xV),CmIn w B d G q a c h b->∃g,(g=false->Pk d f b=(d,O0))/\Calls prog k #[zW B 0,yI h b.length wc] w λr i=>O6 w i B G r (Pk d f b) g
theorem Vy:VD 38 Ql:=⟨λ_ _=>rfl,λd B G q a c f b wc w H=>⟨MZ b && decide (b.length=2),λe=>show Qb d b=_ from by unfold Qb;rw[AF (λk=>by rw[k.1,k.2]at e;simp at e)],Wh d B G q a c f b wc w H⟩⟩
theorem Xf:VD 39 wPut:=⟨λ_ _=>rfl,λd B G q a c f b wc w H=>⟨Pq 2 b,λe=>show Q8 d b=_ from T7 e,Yd d B G q a c f b wc w H.h H.ok.l H.g H.v H.s H.l H.z⟩⟩
theorem Xd:VD 40 wDel:=⟨λ_ _=>rfl,λd B G q a c f b wc w H=>⟨Pq 1 b,λe=>show Q6 d b=_ from Tw e,X1 d B G q a c f b wc w H.h H.ok.l H.g H.v H.s H.l H.z⟩⟩
theorem Uf:VD 41 P2:=⟨λ_ _=>rfl,λd B G q a c f b wc w H=>⟨MZ b,λe=>show Pp 2 d b=_ from by unfold Pp;rw[AF (by rw[e];simp)],Uk d B G q a c f b wc w H⟩⟩
theorem V0:VD 42 Re:=⟨λ_ _=>rfl,λd B G q a c f b wc w H=>⟨MZ b,λe=>show Pp 1 d b=_ from by unfold Pp;rw[AF (by rw[e];simp)],Wi d B G q a c f b wc w H⟩⟩
theorem U1:VD 43 Qm:=⟨λ_ _=>rfl,λd B G q a c f b wc w H=>⟨MZ b,λe=>show Pp 3 d b=_ from by unfold Pp;rw[AF (by rw[e];simp)],Vj d B G q a c f b wc w H⟩⟩
theorem Th:VD 44 Ps:=⟨λ_ _=>rfl,λd B G q a c f b wc w H=>⟨MZ b,λe=>show Pp 4 d b=_ from by unfold Pp;rw[AF (by rw[e];simp)],To d B G q a c f b wc w H⟩⟩
theorem U3:VD 45 Qn:=⟨λ_ _=>rfl,λd B G q a c f b wc w H=>⟨MZ b,λe=>show Ss d b=_ from T6 e,We d B G q a c f b wc w H⟩⟩
theorem Xe:VD 46 Rk:=⟨λ_ _=>rfl,λd B G q a c f b wc w H=>⟨Pq 1 b,λe=>show Rh d b=_ from Sr e,Xt d B G q a c f b wc w H⟩⟩
theorem U2:VD 47 P6:=⟨λ_ _=>rfl,λd B G q a c f b wc w H=>⟨decide (b.length=0),λe=>show Rf d b=_ from by unfold Rf;rw[AF (GT e)],Vk d B G q a c f b wc w H⟩⟩
theorem V2:VD 48 Qv:=⟨λ_ _=>rfl,λd B G q a c f b wc w H=>⟨decide (b.length=0),λe=>show Ri d b=_ from by unfold Ri;rw[AF (GT e)],Wk d B G q a c f b wc w H⟩⟩
theorem Xc{f:yZ}{k:Nat}(h:(f,k)∈RT):VD k f:=by
 simp only[RT,DX,EJ,EW,IX]at h;rcases h with ⟨rfl,rfl⟩|⟨rfl,rfl⟩|⟨rfl,rfl⟩|⟨rfl,rfl⟩|⟨rfl,rfl⟩|⟨rfl,rfl⟩|⟨rfl,rfl⟩|⟨rfl,rfl⟩|⟨rfl,rfl⟩|⟨rfl,rfl⟩|⟨rfl,rfl⟩
 ·exact V2
 ·exact U2
 ·exact Xe
 ·exact U3
 ·exact Th
 ·exact U1
 ·exact V0
 ·exact Uf
 ·exact Xd
 ·exact Xf
 exact Vy
theorem Vv{d:Dk}{f:yZ}{us:List yZ}(h:∀p∈RT,¬p.1=f):Pk d f us=(d,O0):=by
 have k:∀t n,(t,n)∈RT->¬f=t:=λt n a e=>h _ a e.symm
 unfold Pk;rw[AF (k wPut 39 (by simp[RT])),AF (k wDel 40 (by simp[RT])),AF (k Rk 46 (by simp[RT])),AF (k P6 47 (by simp[RT])),AF (k Qv 48 (by simp[RT])),AF (k Qn 45 (by simp[RT])),AF (k Ql 38 (by simp[RT])),AF (k Re 42 (by simp[RT])),AF (k P2 41 (by simp[RT])),AF (k Qm 43 (by simp[RT])),AF (k Ps 44 (by simp[RT]))]
theorem Wx(a:List yZ):(a.any λt=>decide ((⟨#[]⟩:yZ)=t))=Qs a:=by
 unfold Qs
 congr 1
 funext t
 by_cases h:t.size=0
 ·rw[AM h,AM (TE (by rw[show t.data=#[] from EU h]))]
 rw[AH h,AH (λe=>h (by rw[<-e];rfl))]
theorem Up(s:yZ)(d:Dk)(B:Nat)(G:Nat->Prop)(q:Wp)(a:xA)(c M:Nat)(w:xV)(h:DkI w B d G q a c)(N:d.ok 1000)(K:∀b,G b->10<=b/\b<w.heap.size)(hv:Vz w)(L:CmM w B M RT)(hs:s.size<=20000):Calls prog 15 #[yQ s,.map (some M)] w λr f=>r=yT (yQ (Oy d s).2)/\(∃q a c,DkI f B (Oy d s).1 (OE w f G) q a c)/\Fr w f G:=by
 have m:=Y (uM s 32 w ω)
 obtain⟨f,g,i⟩:∃f g,MB 32 s=f::g:=by
  match e:MB 32 s with
  | []=>have:=kg 32 s;rw[e]at this;simp at this
  | f::g=>exact⟨f,g,rfl⟩
 have I:Hid (∀t∈f::g,t.size<=20000):=Y (λt v=>by have:=jv (b:=32) (s:=s) (t:=t) (by rw[i];exact v);omega);have Z:g.length<=20000:=by have:=ib 32 s;rw[i]at this;simp at this;omega
 have l:Hid (Oy d s=if Qs (f::g)=true then (d,O0) else Pk d f g):=Y (by unfold Oy;rw[i];rfl);rw[i]at m;have A:=Y h;have P:=Y N;have F:=Y K;have Q:=Y hv;have H:=Y L;clear i h N K hv L;go_enter func15,ntmps15;go_wp2_with fail;refine m.j.J ?_;rintro r n ⟨rfl,k,o⟩;have O:=k.lt;have c0:=k.y 0;have W:(0:Int)<(g.length:Int)+1:=ω
 have T:Hid (Strs n (zY w.heap.size 0) (f::g)):=Y (.inr ⟨w.heap.size,0,rfl,O,λi p=>by rw[BK];exact k.cell i _ (by rw[FL,AO p];simp[List.getD,AO p])⟩);have j:=Y o;have S:=Y k;have R:=Y (H.j.keep (o.block M H.j.lt));clear m k o;simp only[BJ];rcases X7 f (by have:=I.j f σ;omega) R.j with ⟨k,hmem,hrun⟩|⟨hno,hrun⟩
 ·have u:=Y (Xc hmem)
  have m:=Y (show Calls prog 50 #[yI (zY w.heap.size 0) (g.length+1) (g.length+1),yQ ⟨#[]⟩] n _ from oC (zY w.heap.size 0) (f::g) (g.length+1) ⟨#[]⟩ n T.j τ);rw[Wx]at m;clear hmem
  cases hn:Qs (f::g) with
  | true =>
   rw[hn]at m l;rw[AI rfl]at l;clear hn;go_wp2_with fail;refine m.j.J ?_;rintro r x ⟨rfl,o⟩;rw[o];clear o m x;go_wp2;refine AE (v:=yQ O0) (by simp[results,results15,go_sem]) rfl ?_;rw[l.j];exact⟨rfl,⟨q,a,c,(A.j.I j.j).J (λb _ k=>.inl k)⟩,Ov j.j⟩
  | false =>
   rw[hn]at m l;rw[AF σ]at l;clear hn
   have J:Hid (∀o,g=[]\/o=1->Strs n (zY w.heap.size o) g):=Y (λo k=>by
    rcases k with k|rfl
    ·exact .inl k
    ·exact .inr ⟨w.heap.size,1,rfl,O,λi p=>by rw[Nat.add_comm];exact S.j.cell (i+1) _ (by rw[FU,List.getElem?_cons_succ,FL,AO p];simp[List.getD,AO p])⟩)
   have D:=Y (λwa (k:Strs n wa g)=>u.j.2 d B G q a c wa g g.length n ⟨A.j.I j.j,P.j,λb k=>⟨(F.j b k).1,AC (F.j b k).2 j.j.size⟩,Q.j.I j.j,k,ω,λt v=>by have:=I.j t (DJ _ v);omega⟩);have V:=u.j.1;have X:(1:Int)<=(g.length:Int)+1:=ω
   obtain⟨p,i⟩:∃p,p=Pk d f g:=⟨_,rfl⟩;rw[<-i]at D l;clear i u;go_wp2_with fail;refine m.j.J ?_;rintro r x ⟨rfl,o⟩;rw[o];clear o m x;go_wp2_with fail
   ·subst h
    obtain⟨E,v,u⟩:=D.j (zY w.heap.size 0) (J.j 0 (.inl rfl));have h:=True.intro;refine u.J ?_;rintro r U ⟨rfl,⟨z,t,y,m⟩,o⟩;have i:=Y (AG m o);have C:=Y v;clear v u m o h
    cases E with
    | true =>
     obtain⟨u,m⟩:∃x,x=p.2:=⟨_,rfl⟩;have o:=Y m;rw[AI rfl,<-m];clear m;go_wp2;refine AE (v:=yQ u) (by simp[results,results15,go_sem]) rfl ?_;rw[l.j,o.j];exact⟨rfl,⟨z,t,y,i.j.1.J (λb _ k=>k.imp_right (λk=>⟨AJ j.j.size k.1,k.2⟩))⟩,(Ov j.j).E i.j.2 (λb _ k=>k)⟩
    | false =>
     have m:=C.j rfl;rw[m]at l i;rw[AF σ];clear m;go_wp2;refine AE (v:=yQ O0) (by simp[results,results15,go_sem]) rfl ?_;rw[l.j];exact⟨rfl,⟨z,t,y,i.j.1.J (λb _ k=>k.imp_right (λk=>⟨AJ j.j.size k.1,k.2⟩))⟩,(Ov j.j).E i.j.2 (λb _ k=>k)⟩
   obtain⟨E,v,u⟩:=D.j (zY w.heap.size 1) (J.j 1 (.inr rfl))
   refine u.J ?_;rintro r U ⟨rfl,⟨z,t,y,m⟩,o⟩;have i:=Y (AG m o);have C:=Y v;clear v u m o h
   cases E with
   | true =>
    obtain⟨u,m⟩:∃x,x=p.2:=⟨_,rfl⟩;have o:=Y m;rw[AI rfl,<-m];clear m;go_wp2;refine AE (v:=yQ u) (by simp[results,results15,go_sem]) rfl ?_;rw[l.j,o.j];exact⟨rfl,⟨z,t,y,i.j.1.J (λb _ k=>k.imp_right (λk=>⟨AJ j.j.size k.1,k.2⟩))⟩,(Ov j.j).E i.j.2 (λb _ k=>k)⟩
   | false =>
    have m:=C.j rfl;rw[m]at l i;rw[AF σ];clear m;go_wp2;refine AE (v:=yQ O0) (by simp[results,results15,go_sem]) rfl ?_;rw[l.j];exact⟨rfl,⟨z,t,y,i.j.1.J (λb _ k=>k.imp_right (λk=>⟨AJ j.j.size k.1,k.2⟩))⟩,(Ov j.j).E i.j.2 (λb _ k=>k)⟩
 have i:=Y (Vv (d:=d) (us:=g) hno)
 have m:Hid (Oy d s=(d,O0)):=Y (by rw[l.j,i.j];split<;>rfl);clear hno l i;go_wp2;refine AE (v:=yQ O0) (by simp[results,results15,go_sem]) rfl ?_;rw[m.j];exact⟨rfl,⟨q,a,c,(A.j.I j.j).J (λb _ k=>.inl k)⟩,Ov j.j⟩
end
section
open _root_.Go.Proofs.Tryz
open Go.RowKit Go.Proofs.YtkdedmclofhndaaGreatDoor.nw
def Qw(w b:xV)(B:Nat)(G:Nat->Prop)(r:Ending)(p:Dk×yZ):Prop:=r=yT (yQ p.2)/\(∃q a c,DkN b B p.1 (OE w b G) q a c)/\Fr w b G
theorem Pu{w f:xV}{B:Nat}{G:Nat->Prop}{d:Dk}{q:Wp}{a:xA}{c:Nat}(h:DkN w B d G q a c)(e:yX w f)(s:yZ):Qw w f B G (yT (yQ s)) (d,s):=⟨rfl,⟨q,a,c,(h.I e).J (λb _ k=>.inl k)⟩,Ov e⟩
theorem R2{w e g:xV}{B:Nat}{G:Nat->Prop}{d:Dk}{q:Wp}{a:xA}{c:Nat}(h:DkN e B d (OE w e G) q a c)(i:Fr w e G)(f:yX e g)(s:yZ):Qw w g B G (yT (yQ s)) (d,s) :=⟨rfl,⟨q,a,c,(h.I f).J (λb l k=>k.imp_right (λk=>⟨k.1,AC k.2 f.size⟩))⟩,i.E (Ov f) (λb _ k=>k)⟩
def Vt(b:Bool)(a:List yZ):Bool:=(MU (a.getD 1 empty)).isSome && (b || (MU (a.getD 2 empty)).isSome)
def Vu(a:Bool)(b:List yZ):yZ:=if a=true then ⟨#[]⟩ else (MU (b.getD 2 empty)).getD empty
def Sm(a:Bool)(d:Dk)(b:List yZ):Dk×yZ:=if Vt a b=true then P4 d ((MU (b.getD 1 empty)).getD empty,Vu a b,a) else (d,O0)
theorem Uj(f:Bool)(d:Dk)(B:Nat)(G:Nat->Prop)(q:Wp)(a:xA)(c:Nat)(wa:xA)(m:List yZ)(wc:Nat)(w:xV)(h:DkN w B d G q a c)(hl:d.b.length<=1000)(n:Strs w wa m)(N:m.length=if f=true then 2 else 3)(L:m.getD 0 empty=wDel<->f=true)(hz:∀s∈m,s.size<=30000):Calls prog 25 #[zW B 0,yI wa m.length wc] w λr t=>Qw w t B G r (Sm f d m):=by
 obtain⟨S,z3,g,j,i,e,b⟩:=Rx Si;have I:=Y (AG g (AG j (AG i (AG e b))));clear g j i e b;have HH:=Y h
 have v:2<=m.length:=by rw[N];cases f<;>decide
 obtain⟨b,o,e,D,j⟩:=n.resolve_left (λk=>by rw[k]at v;simp at v);subst e;obtain⟨u0,E⟩:∃u,u=m.getD 0 empty:=⟨_,rfl⟩;obtain⟨u1,l⟩:∃u,u=m.getD 1 empty:=⟨_,rfl⟩;obtain⟨u2,p⟩:∃u,u=m.getD 2 empty:=⟨_,rfl⟩
 have s:=λi=>Sq hz i
 have y:=Y (λt=>yp u1 t (by rw[l];exact s 1));have bQ:=Y (λt=>yp u2 t (by rw[p];exact s 2));have c0:w.cell? (yA b o)=some (yQ u0):=by rw[E];exact j 0 ω
 have R:w.cell? (yA b (o+1))=some (yQ u1):=by rw[l];exact j 1 ω
 obtain⟨C,z⟩:∃x,x=(MU u1).isSome:=⟨_,rfl⟩;obtain⟨g,i⟩:∃x,x=(MU u1).getD empty:=⟨_,rfl⟩;obtain⟨T,A⟩:∃x,x=(MU u2).isSome:=⟨_,rfl⟩;obtain⟨V,F⟩:∃x,x=(MU u2).getD empty:=⟨_,rfl⟩;have J:Hid (Sm f d m=if (C && (f || T))=true then P4 d (g,(if f=true then ⟨#[]⟩ else V),f) else (d,O0)):=Y (by unfold Sm Vt Vu;rw[<-l,<-p,<-z,<-A,<-i,<-F]);rw[<-z,<-i]at y;rw[<-A,<-F]at bQ;have K:Hid (f=false->w.cell? (yA b (o+2))=some (yQ u2)):=Y (λe=>by rw[p];exact j 2 (by rw[N,e];decide));have U:(1:Int)<(m.length:Int):=ω
 have M:Hid (f=false->(2:Int)<(m.length:Int)):=Y (λe=>by rw[N,e];decide);have Q:(0:Int)<(m.length:Int):=ω
 rw[<-E]at L
 have H:(u0.toList == [100,101,108])=f:=by
  cases f with
  | true=>exact Pc (L.2 rfl)
  | false=>exact O7 (λk=>by have:=L.1 k;cases this)
 clear E l p z i A F j n N v L s hz h;go_enter func25,ntmps25;go_upto_region 2 with fail;generalize j:w.alloc _=v1;obtain⟨i,p,l⟩:=LK j;clear j;have A:=(i.cell (p:=(yA b (o+1))) D).E R;have z:=AC D i.size;go_wp2_with fail;refine(y.j v1).J ?_;rintro r w1 ⟨rfl,s⟩;have v:=i.E (s.J i.size);have j:=(l.I s).q;have O:=j.y 0;have E:=j.A 0;have F:=j.lt;clear y A c0 R i p l s z;go_upto_region 4 with fail;obtain⟨y,s⟩:∃y,y=w1.setCell (yA w.heap.size 0) (yQ g):=⟨_,rfl⟩;have A:=NA (AY w1 (some w.heap.size)) 0 (yQ g);have i:=j.set 0 σ (yQ g);rw[<-s]at A i⊢;have l:=Y (v.E (MF A v.size (λ_ e=>by cases e;exact AA _)));have z:=Y i;clear s A j i O E F v H;go_cut [27] from 22 to 27 (λi j=>i=yR (!f && C)/\j=y)
 case first =>
  have y2:=z.j.y 2;have i:=z.j.lt
  cases f with
  | true=>go_wp2;go_meet;exact⟨by cases C<;>rfl,rfl⟩
  | false=>go_wp2;go_meet;exact⟨by cases C<;>rfl,rfl⟩
 case rest =>
 obtain⟨rfl,i⟩:=hcut;rw[i];clear i;go_upto_if 27 with fail;obtain⟨H,p⟩:∃x,x=(C && (f || T)):=⟨_,rfl⟩;obtain⟨i,s⟩:∃x,x=(if f=true then (⟨#[]⟩:yZ) else V):=⟨_,rfl⟩;rw[<-p,<-s]at J;have P:=Y p;have bR:=Y s;clear p s;go_cut [7] from 28 to 35 (λp j=>p=yR H/\(H=true->Row j w.heap.size [yQ g,yQ i,yR f])/\yX w j)
 case first =>
  cases f with
  | true =>
   have E:i=⟨#[]⟩:=bR.j;have j:H=C:=by rw[P.j];simp
   subst E;subst j;simp only[Bool.not_true,Bool.false_and];go_wp2;go_meet;exact⟨rfl,λ_=>z.j,l.j⟩
  | false =>
   have E:i=V:=bR.j;subst E
   cases C with
   | false =>
    have j:H=false:=by rw[P.j];rfl
    subst j;simp only[Bool.not_false,GK];go_wp2;go_meet;exact⟨rfl,λk=>(by cases k),l.j⟩
   | true =>
    have j:H=T:=by rw[P.j];simp
    subst j;have W:=(l.j.cell (p:=(yA b (o+2))) D).E (K.j rfl);have X:=M.j rfl;have R:=AC D l.j.size;simp only[Bool.not_false,GK];go_wp2_with fail;refine(bQ.j y).J ?_;rintro r Z ⟨rfl,s⟩;have x:=z.j.I s;have p:=x.y 1;have f1:=x.A 1;have lZ:=x.lt;have A:=NA (AY Z (some w.heap.size)) 1 (yQ i);have O:=Y (x.set 1 σ (yQ i));have v:=l.j.E (s.J l.j.size);have F:=Y (v.E (MF A v.size (λ_ e=>by cases e;exact AA _)));clear W X R s A x v;go_wp2;go_meet;exact⟨rfl,λ_=>O.j,F.j⟩
 case rest =>
 obtain⟨rfl,p,s⟩:=hcut
 cases H with
 | false =>
  rw[AF σ]at J;have j:=Y s;clear p s z l;go_wp2;refine AE (v:=yQ O0) (by simp[results,results25,go_sem]) rfl ?_;rw[J.j];exact Pu HH.j j.j _
 | true =>
  rw[AI rfl]at J;have p:=p rfl;clear z l K M U Q D;go_upto_region 8 with fail;have D:yX w wc.drew:=s.E (((AB wc.heap.size wc).drew).J s.size);have h:=HH.j;have lB:=h.r.lt;have A:=h.I D;have j:=p.I (AB wc.heap.size wc).drew;have lz:=D.size;have lw:w.heap.size<wc.heap.size:=p.lt;have E:=s;clear p s;refine TU (10) (S:=λt=>Row t B (ii d q a c)/\Row t w.heap.size [yQ g,yQ i,yR f]) κ (⟨A.r,j⟩) (λx=>?_);refine NL 0 (zW B 0) rfl x (NL 1 (zW B 0) rfl x (LU 2 (zW B 0) rfl (AS ⟨ρ,λw n=>by obtain⟨v,p⟩:=n;have l:=v.lt;go_simp⟩) x (LU 3 (zW B 16) rfl (AS ⟨ρ,λw n=>by obtain⟨v,p⟩:=n;have l:=v.lt;go_simp⟩) x (LU 4 (yI a d.b.length c) rfl (AS ⟨ρ,λw n=>by obtain⟨v,p⟩:=n;have cc:=v.y 16;go_simp⟩) x (LU 5 (.agg #[yQ g,yQ i,yR f]) rfl (AS ⟨ρ,λw n=>by obtain⟨v,p⟩:=n;have c0:=p.y 0;have R:=p.y 1;have c2:=p.y 2;have l:=p.lt;go_simp⟩) x ?_)))))
  simp only[PS];refine NK 6 rfl (λO z=>?_);generalize s:wc.drew=y at A j D lz⊢;clear s;go_simp;obtain⟨y2,s⟩:∃u,u=y.alloc (.cells #[yQ g,yQ i,yR f] 92):=⟨_,rfl⟩;rw[<-s];have U:=LS y #[yQ g,yQ i,yR f] 92;have E:=LG y (.cells #[yQ g,yQ i,yR f] 92);rw[<-s]at U E;clear s;have s:=A.I E;have Q:=j.I E;have K:=D.E (E.J D.size);clear A j;refine z.j _ _ (⟨s.r,Q⟩) (λcI=>?_)
  try simp only[PS]
  refine NK 7 rfl (λO z=>?_);refine step_append_lies _ rfl _ _ 44 rfl (B+1) 92 S z3 3 S.bytes underlying44 I.j.1 I.j.2.1 I.j.2.2.1 rfl I.j.2.2.2.1 ω (yI a d.b.length c) d.b.length (MS d.b) rfl s.o (yA y.heap.size 0) 1 1 [yQ g,yQ i,yR f] rfl rfl (λj u A=>by have:=U.cell j u A;rw[ZN];exact this) (by intro u hu;simp at hu;rcases hu with rfl|rfl|rfl<;>rfl) ω (by unfold maxLen;omega) (by have:=I.j.2.2.2.2;have:(d.b.length+1)*S.bytes<=1001*1000:=Nat.mul_le_mul ω this;omega) (by have:=K.size;omega) _ rfl ?_;intro g9 cH u3 aR j aP cQ
  have A:∀b,(yI a d.b.length c).ownBlock=some b->b≠B/\b≠w.heap.size:=λb F=>⟨by have:=O1 s.o F;omega,by have:=O1 h.o F;omega⟩
  refine z.j _ _ (⟨s.r.V j (λe=>(A B e.symm).1 rfl),Q.V j (λe=>(A _ e.symm).2 rfl)⟩) (λaO=>?_)
  try simp only[PS]
  refine NK 8 rfl (λO z=>?_);have M:=(s.r.V j (λe=>(A B e.symm).1 rfl)).lt;go_simp;clear M;refine z.j _ _ aO (λ_=>?_)
  try simp only[PS]
  refine LU 9 (zW B 16) rfl (AS ⟨ρ,λw n=>by obtain⟨v,p⟩:=n;have l:=v.lt;go_simp⟩) aO ?_;simp only[PS];refine PM (rs:=[10]) κ σ ?_;refine AllReadyT.last rfl (λO z=>?_);have M:=(s.r.V j (λe=>(A B e.symm).1 rfl)).y 16;have X:=(s.r.V j (λe=>(A B e.symm).1 rfl)).A 16;have W:=(s.r.V j (λe=>(A B e.symm).1 rfl)).lt;go_simp;clear M X W;refine z.j _ _ trivial (λ_=>?_)
  try simp only[PS]
  refine SP κ ?_ _;have ZZ:=s.wait (ch:=(g,i,f)) j (by rw[Uv];exact aR) (aP.imp_right (λe=>Nat.le_of_eq e.symm));generalize M:u3.setCell _ _=u4 at ZZ⊢;clear M;obtain⟨W,X⟩:=ZZ
  skip
  have Z:Fr w u4 G:=(Ov K).E X (λb _ k=>k);have k:=W.J (H:=OE w u4 G) (λb l F=>F.imp_right (λF=>⟨by have:=K.size;omega,F.2⟩));obtain⟨M,F⟩:∃M,Hid (M=d.b.length+1):=⟨_,Y rfl⟩;have c16:=k.r.y 16;rw[show((⟨d.x,d.b++[(g,i,f)]⟩:Dk).b.length)=M by rw[F.j];simp]at c16;have l5:=k.r.lt;have CI:=Y (λt=>gx 9 M t (by rw[F.j];omega) δ);have t:=Y (AG k Z);clear W X k Z s Q U j aR aP cQ A K D E h x;go_wp2_with fail;refine(CI.j u4).J ?_;rintro r x ⟨rfl,k⟩;have j:=Y k;clear k c16 l5;have k:(LH M).size<=9:=Pl (by have:=F.j;omega);have A:¬(9223372036854775807<5+(LH M).size):=ω
  have s:¬(9223372036854775802<(LH M).size):=ω
  clear k;go_wp2;refine AE (v:=yQ ((⟨#[119,97,105,116,32]⟩:yZ)++LH M)) (by simp[results,results25,go_sem]) rfl ?_;rw[J.j];have e:P4 d (g,i,f)=(⟨d.x,d.b++[(g,i,f)]⟩,(⟨#[119,97,105,116,32]⟩:yZ)++LH M):=by rw[F.j];rfl
  rw[e];exact R2 t.j.1 t.j.2 j.j _
end
section
open _root_.Go.Proofs.Tryz
open Go.RowKit
variable {F:Nat->Prop}{w w':xV}
theorem OwL.depN{o:Nat->Nat}{k:Nat}{a:xA}{c:List qD}(h:OwL w o k a c)(i:k≠0)(hF:∀b,o b≠0->F b):DepF w F (λW=>OwL W o k a c) :=⟨h,λw' d f=>h.imp_right λ⟨g,e,r,n⟩=>⟨g,e,SX r (f g (hF g ω) r.lt) (AC r.lt d.size),n⟩⟩
theorem WoG.woF{x:Wo}{q:Wp}{o:Nat->Nat}(h:QG x w q o)(hF:∀b,o b≠0->F b):WoF x w F q :=⟨(h.h1.depN ω hF).map λ_ k=>k.own.strs,(h.h2.depN ω hF).map λ_ k=>k.own.wrs,(h.h3.depN ω hF).map λ_ k=>k.own.prs,
  by
  rcases h.h4 with c|⟨b,e,f,n,g⟩
  ·exact .inl (AD c)
  ·refine .inr ⟨b,0,e,f,hF b ω,λi d=>?_⟩
   obtain⟨m,a,j,l⟩:=g i d
   exact⟨m,a,by rw[BK];exact j,(l.depN ω hF).map λ_ k=>k.own.prs⟩,
  (h.h5.depN ω hF).map λ_ k=>k.own.strs⟩
theorem Px{V:xV}{r:Option Nat}(h:V.grownBy w r)(a:yX w w'):V.grownBy w' r :=⟨a.os.E h.os,a.tape.E h.tape,a.output.E h.output,AJ h.size a.size,λi b c=>(a.block i (AC b h.size)).E (h.block i b c)⟩
theorem Tn{V:xV}{r c:Option Nat}(h:V.grownBy w r)(a:w.grownBy w' c)(f:∀g,c=some g->V.heap.size<=g):V.grownBy w' r :=⟨a.os.E h.os,a.tape.E h.tape,a.output.E h.output,AJ h.size a.size,λi b d=>(a.block i (AC b h.size) (λe=>by have:=f i e.symm;omega)).E (h.block i b d)⟩
theorem PcI.V{B g:Nat}{o:Nat->Nat}{v:qD}{P:List (List Pr)}{j:Nat}{a:List qD}(h:PcI B w o v P j a)(b:w.grownBy w' (some g))(m:g<B):PcI B w' o v P j a :=⟨h.own.kept b (.inr (λe=>by have:=(h.own.lt g e).1;omega)),h.lab,h.low,λi l=>by obtain⟨p,c,d,f⟩:=h.ech i l;exact⟨p,c,d,f.only (K:=λk=>k=0) (iz b (λx e=>by cases e;exact KL λk=>by have:=h.low g k;omega)) ω⟩⟩
def Db(w w':xV)(r:Ending)(x:Wo):Prop:=∃q o,r=yT (LT x q)/\QG x w' q o/\(∀b,b<w.heap.size->o b=0)/\yX w w'
def A7(V w:xV)(B:Nat)(b:qD->List qD)(P:List (List Pr))(d:qD):Prop:=∃(j:Nat) (o:Nat->Nat) (c:qD) (a:List qD),j<=P.length/\d=Z (j:Int)/\PcI V.heap.size w o c P j a/\Row w B (b c)/\V.grownBy w (some B)
theorem Ub(x:Wo)(q:Wp)(w:xV)(h:x.at w q)(J:x.ok):Calls prog 61 #[LT x q] w λr w'=>Db w w' r x:=by
 obtain⟨cZ,dB⟩:x.ss.length<=200/\x.ws.length<=300:=by
  rcases J.d with h|⟨S,y⟩
  ·obtain⟨⟨_,y,a⟩,_,_⟩:=OV h;exact⟨y,a⟩
  rw[S,y];simp
 have dU:=J.p.1;have dZ:=J.t.1;have dV:=(UN J.s).1;have cI:Hid (∀j,j<x.P.length->(x.P.getD j []).length<=1048576):=Y (λj hj=>by have:=(UN (J.p.2 (x.P.getD j []) (by simp[List.getD,hj]))).1;omega);have l:DepF w (λb=>b≠w.heap.size+1+1) (λW=>x.at W q):=(sk h (λw' a=>h.I a)).J (λb a _=>ω);obtain⟨i0,c,d,e,f⟩:=WW dw;have U:=Y (AG c (AG d (AG e f)));clear c d e f;obtain⟨i1,c,d,e,f⟩:=WW mw;have HJ:=Y (AG c (AG d (AG e f)));clear c d e f;have i:=Y (λw' t c=>So q.a x.ss q.c q.a' x.ws q.c' w' t c cZ dB);unfold LM at i;unfold LT;clear h J;go_enter func61,ntmps61;go_upto_region 1 with fail;generalize c:w.alloc _=v1;obtain⟨f,C,b0⟩:=LK c;clear c;generalize c:v1.alloc _=v2;obtain⟨d,v,g⟩:=LK c;clear c;rw[C]at g v;have k:=(b0.I d).q;refine AV ?_;refine AZ rfl 42 _ rfl w.heap.size 0 rfl _ _ k.range underlying42 rfl MP ?_
 simp only[PS];go_upto_region 2 with fail;generalize c:v2.alloc _=v3;obtain⟨e,D,b2⟩:=LK c;clear c;rw[v]at b2 D;have a:=f.E ((d.E (e.J d.size)).J f.size);have c:Sc w v3 (w.heap.size+1+1) (wL x q) _:=⟨⟨a.os,a.tape,a.output,a.size,λb S _=>a.block b S⟩,b2.q,(((l.I f).I d).I e).and ((TP (k.I e) ω).and (TP (g.I e).q ω))⟩;have l3:w.heap.size+1+1<v3.heap.size:=c.r.lt;clear a f d e b0 g b2 C v D l k;have a:=c.m.q.2.1.y 1;have d:=c.m.q.2.1.y 2;have K:=c.m.q.2.1.lt;go_wp2_with fail;clear a d K;refine(i.j _ c.m.q.1.h1 c.m.q.1.h2).J ?_;rintro r v4 ⟨n,t,s,A,rfl,d,f,l,a⟩
 have uA:=λg k=>UW (g:=g) d.s (λe I=>e (wH I)) k
 have uB:=λg k=>UW (g:=g) d.p (λe I=>e (nE I)) k
 have dF:=d.ne;have l4:=a.size
 have gA:∀g,blk (zY n 0) x.ss.length=some g->w.heap.size+1+1<g:=λg k=>by have:=f g k;omega
 have gB:∀g,blk (zY s 0) x.ws.length=some g->w.heap.size+1+1<g:=λg k=>by have:=l g k;omega
 replace c:=(c.I a).add ((UR d.s VJ (lo:=w.heap.size+1+1+1) (λg k=>gA g k) (SB:=w.heap.size+1+1) ω).and (UR d.p af (lo:=w.heap.size+1+1+1) (λg k=>gB g k) (SB:=w.heap.size+1+1) ω));clear i a d f l;have a:=c.r.y 1;have d:=c.r.y 2;have e:=c.r.A 1;have i:=c.r.A 2;have f:=c.r.lt;go_upto_region 3 with fail;clear a e d i f;replace c:=(c.set 1 σ (yI (zY n 0) x.ss.length t)).set 2 σ (yI (zY s 0) x.ws.length A);have z5:((v4.setCell (yA (w.heap.size+1+1) 1) (yI (zY n 0) x.ss.length t)).setCell (yA (w.heap.size+1+1) 2) (yI (zY s 0) x.ws.length A)).heap.size=v4.heap.size:=by rw[BL,BL]
 generalize a:World.setCell (World.setCell _ _ _) _ _=v5 at c z5⊢;clear a;have d:=Y (dp q.s x.rs q.cs v5 c.m.q.1.1.h3 ω);unfold LR at d;have a:=c.m.q.1.2.1.y 13;have K:=c.m.q.1.2.1.lt;go_wp2_with fail;clear a K;refine d.j.J ?_;rintro r v6 ⟨o,B,rfl,i,e,f,a⟩;unfold LR;have eE:=a.size
 have gC:∀g,blk o x.rs.length=some g->v4.heap.size<=g:=λg k=>by have:=f g k;omega
 have uC:=λg k=>UW (g:=g) e aq k
 replace c:=(c.I a).add (UR e RG f (SB:=w.heap.size+1+1) ω);clear d a e f i;have a:=c.r.y 13;have P:=c.r.y 14;have d:=c.r.A 13;have m:=c.r.A 14;have f:=c.r.lt;go_wp2_with fail;clear a d P m f;have d:=(c.set 13 σ (yI o x.rs.length B)).set 14 σ (yI (zY v6.heap.size 0) 0 0);have z7:((v6.setCell (yA (w.heap.size+1+1) 13) (yI o x.rs.length B)).setCell (yA (w.heap.size+1+1) 14) (yI (zY v6.heap.size 0) 0 0)).heap.size=v6.heap.size:=by rw[BL,BL]
 generalize a:World.setCell (World.setCell _ _ _) _ _=V at d z7⊢;rw[<-z7]at d⊢;clear a c;have lV:w.heap.size+1+1<V.heap.size:=d.r.lt;have HM:=Y (λW (g:V.grownBy W (some (w.heap.size+1+1)))=>((d.m.J (G:=λb=>b≠w.heap.size+1+1/\b<V.heap.size) (λb a k=>⟨k,a⟩)).step (MF g (AL _) (λ_ _=>AL _)) (λb k _=>g.block b k.2 (λe=>k.1 (by injection e)))).q);have N:=d.e;go_loopw [4] (λc wr=>A7 V wr (w.heap.size+1+1) (λL=>[Z x.w,yI (zY n 0) x.ss.length t,yI (zY s 0) x.ws.length A,yR x.up,Z x.W,Z x.S,Z x.L,Z x.T,Z x.H,Z x.F,Z x.R,Z x.U,Z x.O,yI o x.rs.length B,L,yI q.t x.ts.length q.ct]) x.P c) (λc _=>x.P.length-(intOf c).toNat)
 case atStart =>
  refine⟨0,λb=>if b=V.heap.size then 5 else 0,_,[],AL _,rfl,⟨DG (w:=V) (e:=37) (size:=1) #[] 0 (AA _) σ σ,λg e=>by(cases e;simp),λb e=>?_,λi c=>ω⟩,d.r.I (LG _ _),World.grownBy_alloc _ _ _⟩
  by_cases a:b=V.heap.size
  ·omega
  exact absurd (AF a) e
 case round =>
  clear d;obtain⟨j,oj,L,T,hj,rfl,bG,c,d⟩:=hrel;have M:=HM.j wr d;have eF:=d.size;have cH:=M.1.1.2.1.y 14;have K:=M.1.1.2.1.lt
  by_cases bT:j<x.P.length
  ·have cX:(j:Int)<(x.P.length:Int):=ω
   have dR:(0:Int)<=(j:Int):=ω
   have eB:IntKind.i64.wrap ((j:Int)+1)=((j+1:Nat):Int):=by rw[OP _ ω ω];omega
   obtain⟨b,ob,p,cp,l,cC,f,HS⟩:=M.1.1.1.h4.at bT;obtain⟨b2,_,_,_,I,dP,_,_⟩:=(HM.j V (AY _ _)).1.1.1.h4.at bT;rw[l]at I
   cases I
   have HQ:=Y l;have cA:=cI.j j bT;obtain⟨E,bW⟩:∃y,Hid (y=x.P.getD j []):=⟨_,Y rfl⟩;rw[<-bW.j]at f HS cA;have bC:Hid (∀W,V.grownBy W (some (w.heap.size+1+1))->Row W w.heap.size (wL x q)):=Y (λW g=>(HM.j W g).1.1.2.1);go_upto_region 8 with fail;clear cH K M l;refine TU (11) (S:=λw'=>Row w' w.heap.size (wL x q)/\Row w' (w.heap.size+1+1) [Z x.w,yI (zY n 0) x.ss.length t,yI (zY s 0) x.ws.length A,yR x.up,Z x.W,Z x.S,Z x.L,Z x.T,Z x.H,Z x.F,Z x.R,Z x.U,Z x.O,yI o x.rs.length B,L,yI q.t x.ts.length q.ct]/\w'.cell? (yA b (ob+j))=some (yI p E.length cp)) κ (⟨bC.j _ (Px d (AB _ _).drew),c.I (AB _ _).drew,NF (AB wr.heap.size wr).drew f (by show b<_;exact cC)⟩) (λG=>?_);refine LU 0 (zW (w.heap.size+1+1) 14) rfl (AS ⟨ρ,λw z=>by obtain⟨C,v,D⟩:=z;have l:=v.lt;go_simp⟩) G (LU 1 (L) rfl (AS ⟨ρ,λw z=>by obtain⟨C,v,D⟩:=z;have P:=v.y 14;go_simp⟩) G (LU 2 (zW w.heap.size 14) rfl (AS ⟨ρ,λw z=>by obtain⟨C,v,D⟩:=z;have l:=C.lt;go_simp⟩) G (LU 3 (yI q.p x.P.length q.cp) rfl (AS ⟨ρ,λw z=>by obtain⟨C,v,D⟩:=z;have P:=C.y 14;go_simp⟩) G (NL 4 (Z (j:Int)) rfl G (LU 5 (zW b (ob+j)) rfl (AS ⟨ρ,λw z=>by obtain⟨C,v,D⟩:=z;have hq:=HQ.j;have l:=DQ _ _ D;rw[hq];go_simp⟩) G (NL 6 (.agg #[yI p E.length cp]) rfl G ?_))))))
   simp only[PS];refine NK 7 rfl (λKq H=>?_);have u:yX wr wr.drew:=(AB _ _).drew;replace d:=Px d u;replace c:=c.I u;replace f:=NF u f (by show b<_;exact cC);have O:=HS.j.I u;have R:=bG.I u;generalize m:wr.drew=y0 at d c f O R u⊢;clear m;refine LI ρ _ _ γ (dp p E cp y0 O cA) ?_;rintro r y1 ⟨W,c6,rfl,dQ,Q,g6,a⟩;refine⟨_,rfl,?_⟩;unfold LR;have l0:=u.size;have l1:=a.size;have m:=a;replace d:=Px d a;replace c:=c.I a;replace f:=NF a f (by show b<_;omega);clear a u O;refine H.j _ _ (⟨bC.j _ d,c,f⟩) (λcS=>?_)
   try simp only[PS]
   refine NK 8 rfl (λKq H=>?_);go_simp;obtain⟨y2,O⟩:∃y,y=y1.alloc (.cells #[yI W E.length c6] 37):=⟨_,rfl⟩;have a:=LG y1 (.cells #[yI W E.length c6] 37);have rG:=LS y1 #[yI W E.length c6] 37;rw[<-O]at a rG⊢;obtain⟨GB,u⟩:∃y,y=y1.heap.size:=⟨_,rfl⟩;rw[<-u]at rG⊢;have l2:=a.size;replace d:=Px d a;replace c:=c.I a;replace f:=NF a f (by show b<_;omega);have Q:=Q.I a;replace m:=m.E (a.J l1);clear O u a;refine H.j _ _ (⟨bC.j _ d,c,f⟩) (λcT=>?_)
   try simp only[PS]
   refine NK 9 rfl (λKq H=>?_);refine RP _ rfl _ _ 40 rfl V.heap.size underlying40 HJ.j rfl ω L j T rfl (LZ R.own m) (yA GB 0) 1 1 [yI W E.length c6] rfl rfl (λj u hu=>by rw[ZN];exact rG.cell j u hu) (by intro u hu;simp at hu;subst hu;rfl) ω y2.heap.size rfl ?_;intro g9 aL y3 aH O aR cY
   have bF:∀X,L.ownBlock=some X->V.heap.size<=X:=λX k=>(R.own.lt X k).1
   rw[bW.j]at aH Q g6;obtain⟨o9,X⟩:=R.push ω m Q g6 aH O aR;replace d:=Tn d O bF;replace c:=c.V O (λe=>by have:=bF _ e.symm;omega);replace f:=(DP (a:=(yA b (ob+j))) (O.block b ω (λe=>by have:=bF _ e.symm;omega))).E f;clear aH O aR R m rG Q g6 bF;refine H.j _ _ (⟨bC.j _ d,c,f⟩) (λO=>?_)
   try simp only[PS]
   refine LU 10 (zW (w.heap.size+1+1) 14) rfl (AS ⟨ρ,λw z=>by obtain⟨C,v,D⟩:=z;have l:=v.lt;go_simp⟩) O ?_;simp only[PS];refine PM (rs:=[11]) κ σ ?_;refine AllReadyT.last rfl (λKq H=>?_);have P:=c.y 14;have m:=c.A 14;go_simp;clear P m;refine H.j _ _ trivial (λ_=>?_)
   try simp only[PS]
   refine SP κ ?_ _;have m:=NA (AY y3 (some (w.heap.size+1+1))) 14 (yI (zY g9 0) (j+1) aL);have z:=Y (AG (X.V m ω) (AG (c.set 14 σ (yI (zY g9 0) (j+1) aL)) (VL d m)));generalize World.setCell _ _ _=P at z⊢;clear X c d f m;go_wp2;exact⟨⟨j+1,o9,_,_,ω,ν,z.j.1,z.j.2.1,z.j.2.2⟩,by simp[intOf];omega⟩
  obtain rfl:j=x.P.length:=ω
  obtain⟨l,pc,rfl⟩:=UX bG.own;have u:=M.1.1.1.h5;obtain⟨C,z⟩:∃y,Hid (y=λb=>if V.heap.size<=b then (if b<wr.heap.size then oj b else 4) else if blk (zY n 0) x.ss.length=some b then 1 else if blk (zY s 0) x.ws.length=some b then 2 else if blk o x.rs.length=some b then 3 else 0):=⟨_,Y rfl⟩
  have hF:∀b,b<=w.heap.size+1+1->C b=0:=λb a=>by rw[z.j];simp only[];rw[AF ω,AF (λe=>by have:=gA b e;omega),AF (λe=>by have:=gB b e;omega),AF (λe=>by have:=gC b e;omega)]
  have m:XF wr C l x.P:=bG.pso (λb S y=>by rw[z.j];simp only[];rw[AI S,AI y]);have f:WoG (x.ss.map Value.string) (MH x.ws) (LN x.rs) x.P.length (λi=>x.P.getD i []) [] wr ⟨zY n 0,t,zY s 0,A,o,B,l,pc,none,0⟩ C:=⟨TC M.1.2.1 VJ (lo:=0) (λ_ _=>AL _) (λg k=>?_),TC M.1.2.2 af (lo:=0) (λ_ _=>AL _) (λg k=>?_),TC M.2 RG (lo:=0) (λ_ _=>AL _) (λg k=>?_),m,.inl rfl⟩
  rotate_left
  ·rw[z.j];simp only[];rw[AF (by have:=uA g k;omega),AI k]
  ·rw[z.j];simp only[];rw[AF (by have:=uB g k;omega),AF (λe=>by rcases dF with h|h|h;rw[h]at e;cases e;rw[h]at k;cases k;exact h (e.E k.symm)),AI k]
  ·rw[z.j];simp only[];rw[AF (by have:=uC g k;omega),AF (λe=>by have:=uA g e;have:=gC g k;omega),AF (λe=>by have:=uB g e;have:=gC g k;omega),AI k]
  have p:=M.1.1.2.2;have H:=M.1.1.2.1.y 15;have v:=Y c;have Q:=Y u;have O:=Y f;have P:=Y p;have R:w.heap.size+1+1<wr.heap.size:=c.lt;clear c u f p M m bG;go_upto_region 10 with (at_builtin;refine qG rfl _ _ 27 rfl 9 i0 (yQ empty) 1 16 underlying27 U.j.1 U.j.2.1 U.j.2.2.1 U.j.2.2.2 rfl wr.heap.size wr.heap.size rfl (DG _ #[] 0 (AA _) σ σ) _ rfl x.ts.length _ (Qj (Q.j.I (LG _ _)) _ _ underlying27 q.ct) ω ω σ ?_;intro i k M c G p;have m:=(LG wr (.cells #[] 9)).E (p.J σ);have u:=(v.j.I m).y 15;have E:=(v.j.I m).A 15;have f:=(v.j.I m).lt;have D:=Y c;clear p c G);clear u E f cH H K;have G:=NA (AY M (some (w.heap.size+1+1))) 15 (yI (zY i 0) x.ts.length k)
  have c:=(v.j.I m).set 15 σ (yI (zY i 0) x.ts.length k);have p:=(P.j.I m).V G (λe=>by injection e;omega);have u:=(O.j.I m).V G (hF _ ω);have K:wr.heap.size<=i:=ja D.j;have E:=(RJ D.j).V G (λe=>by injection e;omega);have f:=(Px d m);replace f:=VL f G;generalize World.setCell _ _ _=H at G c p u E f⊢;clear v P O Q D m G d;have D:QG x H ⟨zY n 0,t,zY s 0,A,o,B,l,pc,zY i 0,k⟩ C:=⟨u.h1,u.h2,u.h3,u.h4,.inr ⟨i,rfl,E,by rw[z.j];simp only[];rw[AI ω,AF ω]⟩⟩;refine AV ?_;refine AZ rfl 42 _ rfl (w.heap.size+1+1) 0 rfl _ _ c.range underlying42 rfl MP ?_;simp only[PS];refine BU rfl 42 _ _ rfl (w.heap.size+1) 0 #[Z x.w,yI (zY n 0) x.ss.length t,yI (zY s 0) x.ws.length A,yR x.up,Z x.W,Z x.S,Z x.L,Z x.T,Z x.H,Z x.F,Z x.R,Z x.U,Z x.O,yI o x.rs.length B,yI l x.P.length pc,yI (zY i 0) x.ts.length k] rfl rfl (p.there rfl) MP κ ?_
  try simp only[PS]
  have d:=OU H (w.heap.size+1) 0 [Z x.w,yI (zY n 0) x.ss.length t,yI (zY s 0) x.ws.length A,yR x.up,Z x.W,Z x.S,Z x.L,Z x.T,Z x.H,Z x.F,Z x.R,Z x.U,Z x.O,yI o x.rs.length B,yI l x.P.length pc,yI (zY i 0) x.ts.length k];have G:=p.sets [Z x.w,yI (zY n 0) x.ss.length t,yI (zY s 0) x.ws.length A,yR x.up,Z x.W,Z x.S,Z x.L,Z x.T,Z x.H,Z x.F,Z x.R,Z x.U,Z x.O,yI o x.rs.length B,yI l x.P.length pc,yI (zY i 0) x.ts.length k] rfl;have m:=D.V d (hF _ ω);have v:yX w (H.setCells (w.heap.size+1) 0 [Z x.w,yI (zY n 0) x.ss.length t,yI (zY s 0) x.ws.length A,yR x.up,Z x.W,Z x.S,Z x.L,Z x.T,Z x.H,Z x.F,Z x.R,Z x.U,Z x.O,yI o x.rs.length B,yI l x.P.length pc,yI (zY i 0) x.ts.length k]):=⟨d.os.E (f.os.E N.os),d.tape.E (f.tape.E N.tape),d.output.E (f.output.E N.output),AJ N.size (AJ f.size d.size),λb a=>(d.block b (by have:=f.size;omega) (λe=>by injection e;omega)).E ((f.block b ω (λe=>by injection e;omega)).E (N.block b a (λe=>by injection e;omega)))⟩
  generalize World.setCells _ _ _ _=O at G m v⊢;have e:=Y m;clear D u m d c p E f
  try go_wp2
  exact UK 2 42 results61 _ rfl [Z x.w,yI (zY n 0) x.ss.length t,yI (zY s 0) x.ws.length A,yR x.up,Z x.W,Z x.S,Z x.L,Z x.T,Z x.H,Z x.F,Z x.R,Z x.U,Z x.O,yI o x.rs.length B,yI l x.P.length pc,yI (zY i 0) x.ts.length k] _ G underlying42 rfl MP rfl ⟨_,C,rfl,e.j,λb a=>hF b ω,v⟩
section
structure DoS(w v:xV)(FF:Nat->Prop)(cs ev:List qD)(x:Wo)(q:Wp)(M:xV->Prop):Prop where
 e:yX w v
 r2:Row v w.heap.size cs
 r3:Row v (w.heap.size+1) ev
 r4:Row v (w.heap.size+1+1) [Z 0,yI none 0 0,yI none 0 0,yR false,Z 0,Z 0,Z 0,Z 0,Z 0,Z 0,Z 0,Z 0,Z 0,yI none 0 0,yI none 0 0,yI none 0 0]
 n:¬FF w.heap.size/\¬FF (w.heap.size+1+1)
 f:WoF x v FF q
 m:DepF v FF M
section
variable {w v v':xV} {FF:Nat->Prop} {cs ev cs':List qD} {x y:Wo} {q q':Wp} {M N:xV->Prop}
theorem DoS.I(h:DoS w v FF cs ev x q M)(a:yX v v'):DoS w v' FF cs ev x q M:=⟨h.e.E (a.J h.e.size),h.r2.I a,h.r3.I a,h.r4.I a,h.n,h.f.I a,h.m.I a⟩
theorem DoS.put(h:DoS w v FF cs ev x q M)(a:v.grownBy v' (some w.heap.size))(b:Row v' w.heap.size cs'):DoS w v' FF cs' ev x q M :=⟨h.e.E (MF a h.e.size (λx e=>by have e:=BP e;omega)),b,h.r3.V a (λe=>by injection e with e;omega),h.r4.V a (λe=>by injection e with e;omega),h.n,h.f.V a (λg e=>by cases e;exact h.n.1),h.m.V a (λg e=>by cases e;exact h.n.1)⟩
theorem DoS.set(h:DoS w v FF cs ev x q M)(i:Nat)(a:i<cs.length)(u:qD):DoS w (v.setCell (yA w.heap.size i) u) FF (cs.set i u) ev x q M:=h.put (NA (AY _ _) _ _) (h.r2.set i a u)
theorem DoS.add(h:DoS w v FF cs ev x q M)(k:DepF v FF N):DoS w v FF cs ev x q (λW=>M W/\N W):=⟨h.e,h.r2,h.r3,h.r4,h.n,h.f,h.m.and k⟩
theorem DoS.fin(h:DoS w v FF cs ev x q M)(f:WoF y v FF q')(hF:∀b,FF b->F b\/w.heap.size<=b)(a:List qD)(d:a.length=16)(c:xV)(e:c=v.setCells (w.heap.size+1+1) 0 a):Row c (w.heap.size+1+1) a/\yX w c/\WoF y c (λb=>F b\/w.heap.size<=b) q':=by
 subst e;have G:=OU v (w.heap.size+1+1) 0 a;exact⟨h.r4.sets a d,h.e.E (MF G h.e.size (λx e=>by have e:=BP e;omega)),(f.V G (λg e=>by cases e;exact h.n.2)).J (λb _ k=>hF b k)⟩
end
theorem V3{x:Wo}{e:Ev}{D:Dd}(c:¬e.K=5)(f:x.call e=(D,true))(b:D.C=0)(h:¬(2000<(QJ x e D).length\/200<(OF x e D).length))(d:QV e D=false):x.doE e={ (x.ran e D).upS D with P:=if e.K=2 then OF x e D else [D.rs] }:=by
 by_cases a:e.K=2
 ·rw[xX c f b h d a,AI a];rfl
 rw[wF c f b h d a,AF a]
end
def Yj(W:xV)(a:Nat)(b:List qD)(D:Dd)(c d:xA):Prop:=Row W a b/\OwnDn W D.rs D.ops c d
def Yl(v w:xV)(c:List yZ)(a:List OpT)(N:Nat)(e d:qD):Prop:=∃(j g b:Nat),j<=N/\d=Z (j:Int)/\e=yI (zY g 0) (c++NH (a.take j)).length b/\w.ownsRow v.heap.size 9 1 (yI (zY g 0) (c++NH (a.take j)).length b) (c++NH (a.take j)).length ((c++NH (a.take j)).map Value.string)/\yX v w
def Ym(v w:xV)(c:Nat->Prop)(a:List (List Pr))(d:qD):Prop:=∃(b:xA) (pc:Nat),d=yI b a.length pc/\PstF w c b a/\yX v w
theorem Yh(x:Wo)(q:Wp)(e:Ev)(a:xA)(c:Nat)(f:xA)(d:Nat)(F:Nat->Prop)(w:xV)(h:WoF x w F q)(ho:x.ok)(h2:Chs w a e.b)(h3:Ints w f e.fs)(he:e.le):Calls prog 62 #[LT x q,NR e a c f d] w λr w'=>oN w w' F r (x.doE e):=by
 have g:=ho.le
 obtain⟨v,i,aW,E,G,cM⟩:∃v:Nat->Prop,Hid (∀b,b<w.heap.size->F b->v b)/\Hid (∀b,w.heap.size+1+1+1<=b->v b)/\Hid (¬v w.heap.size)/\Hid (¬v (w.heap.size+1+1))/\Hid (∀b,v b->F b\/w.heap.size<=b) :=⟨λb=>(F b/\b<w.heap.size)\/w.heap.size+1+1+1<=b,λb j h2=>.inl ⟨h2,j⟩,λb h=>.inr h,λh=>by rcases h with h|h;exact absurd h.2 ω;omega,λh=>by rcases h with h|h;exact absurd h.2 ω;omega,λb h=>by rcases h with h|h;exact .inl h.1;exact .inr ω⟩
 have n:=Y (h.J i);clear h i;have CP:=Y (λy O w' (p:WoF y w' v O) (hy:y.le 1048576) t=>Jy y O f e.fs d v w' p hy t he.f);have i:=Y (λw' p t=>oM x q e a c f d w' p g t he);have C:=Y h2;have eY:=Y h3;clear h2 h3;obtain⟨⟨D,u⟩,k⟩:∃y,x.call e=y:=⟨_,rfl⟩;obtain⟨A,aP⟩:∃y,Hid (y=x.doE e):=⟨_,Y rfl⟩;rw[<-aP.j];have j:=ho.call e;rw[k]at i j;simp only at i j;have iH:D.ops.length<=1000:=j.2.1;have CF:=Y (λob oe (z:Int) w' p t k3=>Gp q.a x.ss q.c q.a' x.ws q.c' ob D.ops oe z w' p t k3 ω (λo ho=>by have:=j.2.2 o ho;omega) g.l1 g.l2 g.s1 g.s2);have HD:=Y j;have cZ:=Y k;have iE:=g.l5;have iI:=ho.p.1;have iJ:=ho.t.1;have HM:=Y g;have HO:=Y ho;clear j k g ho;obtain⟨i0,g,j,k,l⟩:=WW dw;have HI:=Y (AG g (AG j (AG k l)));clear g j k l;obtain⟨i1,g,j,k,l⟩:=WW mw;have H:=Y (AG g (AG j (AG k l)))
 clear g j k l;unfold LM at CF;unfold LT NR at i⊢;go_enter func62,ntmps62;go_upto_region 1 with fail;generalize g:w.alloc _=v1;obtain⟨S,s,r⟩:=LK g;clear g;generalize g:v1.alloc _=v2;obtain⟨M,m,k⟩:=LK g;clear g;generalize g:v2.alloc _=v3;obtain⟨j,B,l⟩:=LK g;clear g;rw[s]at k m;rw[m]at l B;have o:=S.E ((M.E (j.J M.size)).J S.size);have g:DoS w v3 v (wL x q) [Z e.K,yI a e.b.length c,Z e.cut,yI f e.fs.length d] x q (λ_=>True):=⟨o,((r.I M).I j).q,(k.I j).q,l.q,⟨E,G⟩,n.j.I o,UO (λ_=>trivial)⟩;have l3:w.heap.size+1+1+1<=v3.heap.size:=ω
 clear o S M j r k l s m B n E G
 by_cases j:e.K=5
 ·have E:A=x.pow e.fs:=by rw[aP.j];unfold Wo.doE;rw[AI j]
  obtain⟨y,m⟩:∃y,Hid (y=x.pow e.fs):=⟨_,Y rfl⟩;have K:=Y (CP.j x q v3 g.f HM.j (eY.j.I g.e));rw[<-m.j]at K E;subst E;unfold LT at K;clear CP i CF HI H HD;have l:(e.K == 5)=true:=by simp[j]
  have k:=g.r3.y 0;have L:=g.r3.y 3;have o:=g.r3.lt;go_upto_region 2 with fail;refine AV ?_;refine AZ rfl 42 _ rfl w.heap.size 0 rfl _ _ g.r2.range underlying42 rfl MP ?_;simp only[PS];go_wp2_with fail;clear k L o;refine K.j.J ?_;rintro e v4 ⟨O,rfl,M,o⟩;replace M:=M.J (G:=v) (λb _ k=>k.elim id (λk=>aW.j b ω));replace g:=g.I o;clear o K;unfold LT
  try simp only[PS]
  refine‹∀(a:Act) (w:xV),wpList _ _ _ _ a w->_› _ _ ?_
  refine BU rfl 42 _ _ rfl (w.heap.size+1+1) 0 (wA A O) rfl rfl (g.r4.there rfl) MP κ ?_
  try simp only[PS]
  obtain⟨S,o⟩:∃y9,y9=v4.setCells (w.heap.size+1+1) 0 (wL A O):=⟨_,rfl⟩;obtain⟨R,Q,K⟩:=g.fin (M) cM.j (wL A O) rfl S o;rw[<-o];clear o g
  try go_wp2
  exact UK 4 42 results62 _ rfl (wL A O) _ R underlying42 rfl MP rfl ⟨O,rfl,K,Q⟩
 have l:(e.K == 5)=false:=by simp[j]
 have dB:=Y j;clear j;obtain⟨k,M,Q,L⟩:=g.r3.k4;have o:=g.r3.lt;go_upto_region 3 with fail;refine AV ?_;refine AZ rfl 42 _ rfl w.heap.size 0 rfl _ _ g.r2.range underlying42 rfl MP ?_;simp only[PS];go_wp2_with fail;clear k M Q L o l;refine(i.j _ g.f.at (C.j.I g.e)).J ?_;rintro r4 v4 ⟨m,n,ob,oe,rfl,j,own,l,K,o⟩;have k:DepF v4 v (λW=>OwnDn W D.rs D.ops m ob):=ZA (pu own l K) (λb p _=>aW.j b ω);have l4:=o.size;replace g:=g.I o;clear own l K o i j C;unfold MD;go_upto_region 4 with fail;generalize j:v4.alloc _=v5;obtain⟨o,r,i⟩:=LK j;clear j;obtain⟨V,j⟩:∃y,y=v4.heap.size:=⟨_,rfl⟩;rw[<-j]at i⊢;have gN:w.heap.size+1+1+1<=V:=ω
 have l:DoS w v5 v (wL x q) [Z e.K,yI a e.b.length c,Z e.cut,yI f e.fs.length d] x q (λW=>True/\Yj W V (dJ D.C D.W D.S D.L D.T D.H D.F D.R D.U D.O (yI m D.rs.length n) (yI ob D.ops.length oe)) D m ob):=(g.I o).add ((TP i.q (aW.j _ gN)).and (k.I o));have l5:V<v5.heap.size:=l.m.q.2.1.lt;clear g k o i r j;generalize Value.tuple _=T0;generalize Value.agg _=A0;generalize Value.agg _=A1;generalize Value.agg _=A2;go_cut [31] from 25 to 30 (λbv wx=>bv=yR (decide (u=false\/D.C≠0))/\wx=v5)
 case first =>
  have k:=l.m.q.2.1.y 0;have o:=l.m.q.2.1.lt
  cases u with
  | false =>
   go_wp2_with fail;go_meet;exact⟨σ,rfl⟩
  | true =>
   by_cases g:D.C=0
   ·have i:(D.C == 0)=true:=by simp[g]
    go_wp2_with fail;go_meet;exact⟨by simp[g],rfl⟩
   have i:(D.C == 0)=false:=by simp[g]
   go_wp2_with fail;go_meet;exact⟨by simp[g],rfl⟩
 case rest =>
 obtain⟨rfl,i⟩:=hcut;rw[i];clear i
 by_cases i:u=false\/D.C≠0
 ·have E:A=x:=by rw[aP.j];exact YQ dB.j cZ.j i
  subst E;rw[AM i];go_upto_region 5 with fail;refine AV ?_;refine AZ rfl 42 _ rfl w.heap.size 0 rfl _ _ l.r2.range underlying42 rfl MP ?_;simp only[PS];refine BU rfl 42 _ _ rfl (w.heap.size+1+1) 0 (wA A q) rfl rfl (l.r4.there rfl) MP κ ?_
  try simp only[PS]
  obtain⟨S,o⟩:∃y9,y9=v5.setCells (w.heap.size+1+1) 0 (wL A q):=⟨_,rfl⟩;obtain⟨R,Q,K⟩:=l.fin (l.f) cM.j (wL A q) rfl S o;rw[<-o];clear o l
  try go_wp2
  exact UK 4 42 results62 _ rfl (wL A q) _ R underlying42 rfl MP rfl ⟨q,rfl,K,Q⟩
 rw[AH i]
 obtain⟨rfl,g⟩:u=true/\D.C=0:=by cases u<;>simp_all
 have HC:=Y g;clear i g;obtain⟨N,HN⟩:∃N,Hid (N=VM e D):=⟨_,Y rfl⟩;obtain⟨CB,bJ⟩:∃b,Hid (b=QV e D):=⟨_,Y rfl⟩;have iB:N<=D.ops.length:=by rw[HN.j];exact pB e D
 have g:Hid (CB=true->e.cut=(N:Int)):=Y (λk=>by rw[bJ.j]at k;have k:=AW (by unfold QV at k;exact k);rw[HN.j];unfold VM;rw[AI k];omega);have j:Hid (CB=false->N=D.ops.length):=Y (λk=>by rw[bJ.j]at k;have k:=GT (by unfold QV at k;exact k);rw[HN.j];unfold VM;rw[AF k]);have s:=l.m.q.2.1.y 11;have o:=l.m.q.2.1.lt;have r:=l.r3.y 2;have el:=l.r3.lt;go_upto_region 7 with fail;go_cut [8] from 36 to 44 (λi wx=>i=yR CB/\wx=v5)
 case first =>
  by_cases p:0<=e.cut
  ·by_cases t:e.cut<=(D.ops.length:Int)
   ·have i:CB=true:=by rw[bJ.j];unfold QV;exact AM ⟨p,t⟩
    clear g j;go_wp2;go_meet;exact⟨by rw[i],rfl⟩
   have i:CB=false:=by rw[bJ.j];unfold QV;exact AH (λh=>t h.2)
   clear g j;go_wp2;go_meet;exact⟨by rw[i],rfl⟩
  have i:CB=false:=by rw[bJ.j];unfold QV;exact AH (λh=>p h.1)
  clear g j;go_wp2;go_meet;exact⟨by rw[i],rfl⟩
 case rest =>
 obtain⟨rfl,i⟩:=hcut;rw[i];clear i;go_upto_if 45 with fail;go_cut [7] from 46 to 47 (λi wx=>i=Z (N:Int)/\wx=v5)
 case first =>
  cases CB with
  | true =>
   have i:=Y (g.j rfl);clear g j;go_wp2;go_meet;exact⟨by rw[i.j],rfl⟩
  | false =>
   have i:=Y (j.j rfl);clear g j;go_wp2;go_meet;exact⟨by rw[i.j],rfl⟩
 case rest =>
 obtain⟨rfl,i⟩:=hcut;rw[i];clear i g j s o r el;have iA:(N:Int)<=1000:=ω
 have o:=l.r2.y 15;have T:=l.r2.lt;go_wp2_with (at_builtin;refine qG rfl _ _ 27 rfl 9 i0 (yQ empty) 1 16 underlying27 HI.j.1 HI.j.2.1 HI.j.2.2.1 HI.j.2.2.2 rfl v5.heap.size v5.heap.size rfl (DG _ #[] 0 (AA _) σ σ) _ rfl x.ts.length _ (Qj (l.f.h5.q.I (VP _ _)) _ _ underlying27 q.ct) ω ω σ ?_;intro g0 dZ ws i r g);have j:yX v5 ws:=(VP _ _).E (g.J σ);clear g r o T;go_loopw [9,10] (λo g wr=>Yl v5 wr x.ts D.ops N o g) (λ_ g _=>N-(intOf g).toNat)
 case atStart=>exact⟨0,g0,dZ,AL _,rfl,by simp[NH],by simpa[NH] using i,j⟩
 case round =>
  clear i j;obtain⟨j,g,s,hj,rfl,rfl,i,C⟩:=hrel;have r:=zb (D.ops.take j);rw[AX]at r;have gR:(x.ts++NH (D.ops.take j)).length<=4000:=by rw[AK];omega
  obtain⟨B,o⟩:∃y,Hid (y=x.ts++NH (D.ops.take j)):=⟨_,Y rfl⟩;rw[<-o.j]at i gR⊢;clear r;replace l:=l.I C
  by_cases iF:j<N
  ·have gS:(j:Int)<(N:Int):=ω
   have iC:(0:Int)<=(j:Int):=ω
   have iD:(j:Int)<(D.ops.length:Int):=ω
   have iO:=l.m.q.2.1.y 11;have iP:=l.m.q.2.1.lt;obtain⟨b1,o1,X,n1,E,rfl,R,K,L,U⟩:=l.m.q.2.2.p.ops.at (k:=j) ω;have r:=tQ D.ops j ω;rw[<-U.j]at r;have J:=Y r;clear r l;have I:=Y i;have r:=Y C;have iM:=qX R;clear i C;have iK:IntKind.i64.wrap ((j:Int)+1)=((j+1:Nat):Int):=by rw[OP _ ω ω];omega
   cases X with
   | true =>
    go_wp2;exact⟨⟨j+1,g,s,ω,ν,by rw[J.j];simp[o.j],by rw[J.j];simpa[o.j] using I.j,r.j⟩,by simp[intOf];omega⟩
   | false =>
    go_wp2_with (at_builtin;refine QS _ rfl _ _ 27 rfl v5.heap.size underlying27 HI.j rfl ω _ B.length _ rfl (I.j.alloc _) (yA wr.heap.size 0) 1 1 [yQ E] rfl rfl (World.news_of_block (AU wr _)) (by intro u G;simp at G;subst G;rfl) (by have:=r.j.size;simp;omega) (wr.heap.size+1) σ ?_;intro g9 aI w9 Q M bG bU;have T:=Y Q;have S:=Y M;clear Q M bG);have M:x.ts++NH (D.ops.take (j+1))=B++[E]:=by rw[J.j,o.j];simp
    have Q:yX v5 w9:=RU ((r.j).alloc r.j.size _) (I.j.alloc _) S.j (by have:=r.j.size;simp;omega);exact⟨⟨j+1,g9,aI,ω,ν,by rw[M];simp,by rw[M];simpa using T.j,Q⟩,by simp[intOf];omega⟩
  have r:j=N:=ω
  have dU:Hid (B=QJ x e D):=Y (by rw[o.j,r,HN.j];rfl);have iG:¬(j:Int)<(N:Int):=ω
  clear r;have gT:=ja i;have iL:V<wr.heap.size:=l.m.q.2.1.lt;have gV:w.heap.size+1+1+1<=g:=ω
  replace l:=l.add (TP (RJ i) (aW.j _ gV));clear C i o;obtain⟨C,bR⟩:∃y,Hid (y=OF x e D):=⟨_,Y rfl⟩;have gU:C.length<=201:=by rw[bR.j];unfold OF;split<;>(try simp)<;>omega
  have cA:=l.r2.y 14;have T:=l.r2.lt;have e0:=l.r3.y 0;have el:=l.r3.lt;go_upto_if 77 with fail;go_cut [11] from 75 to 85 (λi wx=>Ym wr wx v C i)
  case first =>
   clear cA T
   by_cases t:e.K=2
   ·have X:C=x.P++[D.rs]:=by rw[bR.j];unfold OF;rw[AI t]
    have eR:(e.K == 2)=true:=by simp[t]
    clear t;obtain⟨news,bW,bV,eO⟩:=Nf (P:=prog) l.f.h4 40 37 underlying40 q.cp;go_upto_region 18 with fail;clear e0 el
    have J:Hid (∀W,yX wr W->W.cell? (yA V 10)=some (yI m D.rs.length n)):=λW o=>(l.I o).m.q.1.2.1.y 10
    refine AN (S:=λw'=>w'.cell? (yA V 10)=some (yI m D.rs.length n)) κ (J.j _ (AB _ _).drew) (λdF=>?_);refine TY 1 (yI q.p x.P.length q.cp) rfl dF (TY 3 (zW V 1) rfl dF (TY 4 (zW V 10) rfl dF (TY 5 (.agg #[yI m D.rs.length n]) rfl dF ?_)));simp only[PS];refine ET (rs:=[0,6]) κ σ ?_;refine DC rfl (λQ r=>?_) (DC rfl (λQ r=>?_) EP)
    ·obtain⟨U,E⟩:∃y,y=wr.drew:=⟨_,rfl⟩
     rw[<-E];have bT:yX wr U:=by show Below (wr.heap.size) wr U;rw[E];exact(AB _ _).drew
     clear E;go_simp;have cO:=VP U (.cells #[] 37);have bB:=LS U #[] 37
     have aE:=DG (w:=U) (e:=37) (size:=1) (base:=wr.heap.size) #[] 0 bT.size (by first|simp|decide|omega) (by first|simp|decide|(unfold maxLen;omega)|omega)
     obtain⟨y1,K⟩:∃y,y=U.alloc (.cells #[] 37):=⟨_,rfl⟩;obtain⟨b0,G⟩:∃y,y=U.heap.size:=⟨_,rfl⟩;rw[<-K]at cO bB aE⊢;rw[<-G]at bB aE⊢;have R:=bT.E (cO.J bT.size);clear K;clear G;refine r.j _ _ (J.j _ R) (λgI=>?_)
     try simp only[PS]
     refine ET (rs:=[2,6]) κ σ ?_;refine DC rfl (λQ r=>?_) (DC rfl (λQ r=>?_) EP)
     ·refine lN rfl _ _ 40 rfl 37 i1 (.agg #[yI none 0 0]) 1 24 underlying40 H.j.1 H.j.2.1 H.j.2.2.1 H.j.2.2.2 rfl b0 wr.heap.size rfl aE _ rfl x.P.length news (bW _ R) ω ω R.size ?_
      intro g3 cE y2 bC fS S;have I:=R.E (S.J R.size);refine r.j _ _ (J.j _ I) (λgJ=>?_)
      try simp only[PS]
      refine RD 6 rfl (λQ r=>?_);go_simp;have M:=VP y2 (.cells #[yI m D.rs.length n] 37);have E:=LS y2 #[yI m D.rs.length n] 37
      have aG:=DG (w:=y2) (e:=37) (size:=1) (base:=wr.heap.size) #[yI m D.rs.length n] 1 I.size (by first|simp|decide|omega) (by first|simp|decide|(unfold maxLen;omega)|omega)
      obtain⟨y3,K⟩:∃y,y=y2.alloc (.cells #[yI m D.rs.length n] 37):=⟨_,rfl⟩;obtain⟨b6,G⟩:∃y,y=y2.heap.size:=⟨_,rfl⟩;rw[<-K]at M E aG⊢;rw[<-G]at E aG⊢;have L:=I.E (M.J I.size);clear K;clear G;have bC:=LZ bC M;refine r.j _ _ (J.j _ L) (λgK=>?_)
      try simp only[PS]
      refine RD 7 rfl (λQ r=>?_);refine RP _ rfl _ _ 40 rfl wr.heap.size underlying40 H.j rfl ω _ x.P.length _ rfl bC (yA b6 0) 1 1 [yI m D.rs.length n] rfl rfl (λj u G=>by rw[ZN];exact E.cell j u G) (by intro u G;simp at G;subst G;rfl) L.size _ rfl ?_;intro g9 aI y4 o9 aY bG bU;have K:yX wr y4:=RU L bC aY L.size;refine r.j _ _ (J.j _ K) (λeJ=>?_)
      try simp only[PS]
      refine RD 8 rfl (λQ r=>?_);go_simp;refine r.j _ _ eJ (λ_=>?_)
      try simp only[PS]
      refine DN ?_;clear J;go_wp2_with fail;go_meet;have r9:=RJ o9;have fA:=ja o9;refine⟨zY g9 0,aI,by rw[X];simp,?_,K⟩;rw[X];have s9:=K;exact ks (G:=v) bV (λi hi=>by obtain⟨p',c',p,t⟩:=eO i hi;exact⟨p',c',p,t.I s9⟩) r9 (aW.j _ ω) ((l.m.I s9).map λW k=>k.1.2.2.s.prs)
     go_simp
     have S:=VP y1 (.cells #[yI m D.rs.length n] 37);have E:=LS y1 #[yI m D.rs.length n] 37
     have aG:=DG (w:=y1) (e:=37) (size:=1) (base:=wr.heap.size) #[yI m D.rs.length n] 1 R.size (by first|simp|decide|omega) (by first|simp|decide|(unfold maxLen;omega)|omega)
     obtain⟨y2,K⟩:∃y,y=y1.alloc (.cells #[yI m D.rs.length n] 37):=⟨_,rfl⟩;obtain⟨b6,G⟩:∃y,y=y1.heap.size:=⟨_,rfl⟩;rw[<-K]at S E aG⊢;rw[<-G]at E aG⊢;have I:=R.E (S.J R.size);clear K;clear G;have aE:=LZ aE S;refine r.j _ _ (J.j _ I) (λgL=>?_)
     try simp only[PS]
     refine RD 2 rfl (λQ r=>?_);refine lN rfl _ _ 40 rfl 37 i1 (.agg #[yI none 0 0]) 1 24 underlying40 H.j.1 H.j.2.1 H.j.2.2.1 H.j.2.2.2 rfl b0 wr.heap.size rfl aE _ rfl x.P.length news (bW _ I) ω ω I.size ?_;intro g3 cE y3 bC fS M;have L:=I.E (M.J I.size);have E:=E.I M;refine r.j _ _ (J.j _ L) (λgM=>?_)
     try simp only[PS]
     refine RD 7 rfl (λQ r=>?_);refine RP _ rfl _ _ 40 rfl wr.heap.size underlying40 H.j rfl ω _ x.P.length _ rfl bC (yA b6 0) 1 1 [yI m D.rs.length n] rfl rfl (λj u G=>by rw[ZN];exact E.cell j u G) (by intro u G;simp at G;subst G;rfl) L.size _ rfl ?_;intro g9 aI y4 o9 aY bG bU;have K:yX wr y4:=RU L bC aY L.size;refine r.j _ _ (J.j _ K) (λeK=>?_)
     try simp only[PS]
     refine RD 8 rfl (λQ r=>?_);go_simp;refine r.j _ _ eK (λ_=>?_)
     try simp only[PS]
     refine DN ?_;clear J;go_wp2_with fail;go_meet;have r9:=RJ o9;have fA:=ja o9;refine⟨zY g9 0,aI,by rw[X];simp,?_,K⟩;rw[X];have s9:=K;exact ks (G:=v) bV (λi hi=>by obtain⟨p',c',p,t⟩:=eO i hi;exact⟨p',c',p,t.I s9⟩) r9 (aW.j _ ω) ((l.m.I s9).map λW k=>k.1.2.2.s.prs)
    obtain⟨U,E⟩:∃y,y=wr.drew:=⟨_,rfl⟩
    rw[<-E];have bT:yX wr U:=by show Below (wr.heap.size) wr U;rw[E];exact(AB _ _).drew
    clear E;go_simp;have cO:=VP U (.cells #[yI m D.rs.length n] 37);have E:=LS U #[yI m D.rs.length n] 37
    have aG:=DG (w:=U) (e:=37) (size:=1) (base:=wr.heap.size) #[yI m D.rs.length n] 1 bT.size (by first|simp|decide|omega) (by first|simp|decide|(unfold maxLen;omega)|omega)
    obtain⟨y1,K⟩:∃y,y=U.alloc (.cells #[yI m D.rs.length n] 37):=⟨_,rfl⟩;obtain⟨b6,G⟩:∃y,y=U.heap.size:=⟨_,rfl⟩;rw[<-K]at cO E aG⊢;rw[<-G]at E aG⊢;have R:=bT.E (cO.J bT.size);clear K;clear G;refine r.j _ _ (J.j _ R) (λfH=>?_)
    try simp only[PS]
    refine RD 0 rfl (λQ r=>?_);go_simp;have S:=VP y1 (.cells #[] 37);have bB:=LS y1 #[] 37
    have aE:=DG (w:=y1) (e:=37) (size:=1) (base:=wr.heap.size) #[] 0 R.size (by first|simp|decide|omega) (by first|simp|decide|(unfold maxLen;omega)|omega)
    obtain⟨y2,K⟩:∃y,y=y1.alloc (.cells #[] 37):=⟨_,rfl⟩;obtain⟨b0,G⟩:∃y,y=y1.heap.size:=⟨_,rfl⟩;rw[<-K]at S bB aE⊢;rw[<-G]at bB aE⊢;have I:=R.E (S.J R.size);clear K;clear G;have E:=E.I S;refine r.j _ _ (J.j _ I) (λfI=>?_)
    try simp only[PS]
    refine RD 2 rfl (λQ r=>?_);refine lN rfl _ _ 40 rfl 37 i1 (.agg #[yI none 0 0]) 1 24 underlying40 H.j.1 H.j.2.1 H.j.2.2.1 H.j.2.2.2 rfl b0 wr.heap.size rfl aE _ rfl x.P.length news (bW _ I) ω ω I.size ?_;intro g3 cE y3 bC fS M;have L:=I.E (M.J I.size);have E:=E.I M;refine r.j _ _ (J.j _ L) (λfJ=>?_)
    try simp only[PS]
    refine RD 7 rfl (λQ r=>?_);refine RP _ rfl _ _ 40 rfl wr.heap.size underlying40 H.j rfl ω _ x.P.length _ rfl bC (yA b6 0) 1 1 [yI m D.rs.length n] rfl rfl (λj u G=>by rw[ZN];exact E.cell j u G) (by intro u G;simp at G;subst G;rfl) L.size _ rfl ?_;intro g9 aI y4 o9 aY bG bU;have K:yX wr y4:=RU L bC aY L.size;refine r.j _ _ (J.j _ K) (λcN=>?_)
    try simp only[PS]
    refine RD 8 rfl (λQ r=>?_);go_simp;refine r.j _ _ cN (λ_=>?_)
    try simp only[PS]
    refine DN ?_;clear J;go_wp2_with fail;go_meet;have r9:=RJ o9;have fA:=ja o9;refine⟨zY g9 0,aI,by rw[X];simp,?_,K⟩;rw[X];have s9:=K;exact ks (G:=v) bV (λi hi=>by obtain⟨p',c',p,t⟩:=eO i hi;exact⟨p',c',p,t.I s9⟩) r9 (aW.j _ ω) ((l.m.I s9).map λW k=>k.1.2.2.s.prs)
   have X:C=x.P:=by rw[bR.j];unfold OF;rw[AF t]
   have eR:(e.K == 2)=false:=by simp[t]
   go_wp2_with fail;go_meet;rw[X];exact⟨q.p,q.cp,rfl,l.f.h4,AB _ _⟩
  case rest =>
  clear cA T e0 el;obtain⟨pa,pc,rfl,G,o⟩:=hcut
  rename World=>vp
  replace l:=l.I o;clear o;go_upto_region 19 with fail;go_cut [93] from 86 to 92 (λbv wx=>bv=yR (decide (2000<B.length\/200<C.length))/\wx=vp)
  case first =>
   by_cases r:2000<B.length
   ·have i:(2000:Int)<(B.length:Int):=ω
    go_wp2_with fail;go_meet;exact⟨by rw[AM (.inl r)],rfl⟩
   have i:¬((2000:Int)<(B.length:Int)):=ω
   by_cases E:200<C.length
   ·have o:(200:Int)<(C.length:Int):=ω
    go_wp2_with fail;go_meet;exact⟨by rw[AM (.inr E)],rfl⟩
   have o:¬((200:Int)<(C.length:Int)):=ω
   go_wp2_with fail;go_meet;exact⟨by rw[AH ω],rfl⟩
  case rest =>
  obtain⟨rfl,i⟩:=hcut;rw[i];clear i
  by_cases i:2000<B.length\/200<C.length
  ·have E:A=x:=by rw[aP.j];exact vo dB.j cZ.j HC.j (by rw[<-dU.j,<-bR.j];exact i)
   subst E;rw[AM i];go_upto_region 20 with fail;refine AV ?_;refine AZ rfl 42 _ rfl w.heap.size 0 rfl _ _ l.r2.range underlying42 rfl MP ?_;simp only[PS];refine BU rfl 42 _ _ rfl (w.heap.size+1+1) 0 (wA A q) rfl rfl (l.r4.there rfl) MP κ ?_
   try simp only[PS]
   obtain⟨S,o⟩:∃y9,y9=vp.setCells (w.heap.size+1+1) 0 (wL A q):=⟨_,rfl⟩;obtain⟨R,Q,K⟩:=l.fin (l.f) cM.j (wL A q) rfl S o;rw[<-o];clear o l
   try go_wp2
   exact UK 4 42 results62 _ rfl (wL A q) _ R underlying42 rfl MP rfl ⟨q,rfl,K,Q⟩
  rw[AH i];have dM:Hid (¬(2000<(QJ x e D).length\/200<(OF x e D).length)):=Y (by rw[<-dU.j,<-bR.j];exact i);have fX:=Y (HO.j.ran e (d:=D) HD.j (by have:=dM.j;omega));clear i;obtain⟨i,r⟩:∃y,Hid (y=NU x.ss x.ws D.ops (N:Int)):=⟨_,Y rfl⟩;have eZ:Hid (x.ran e D={ x with ss:=i.1,ws:=i.2,P:=C,ts:=B }):=Y (by rw[r.j,bR.j,dU.j,HN.j];rfl);have o:=CF.j ob oe (N:Int);rw[<-r.j]at o;have S:=Y o;clear o CF r;have K:=l.r2.y 1;have L:=l.r2.y 2;have cA:=l.r2.y 14;have o:=l.r2.y 15;have Q:=l.r2.A 1;have R:=l.r2.A 2;have M:=l.r2.A 14;have r:=l.r2.A 15;have T:=l.r2.lt;have E:=l.m.q.1.2.1.y 11;have xl:=l.m.q.1.2.1.lt;have iN:V≠w.heap.size:=ω
  go_wp2_with fail;clear K Q L R cA M o r T;clear E xl;have E:=(l.set 15 σ (yI (zY g 0) B.length s)).set 14 σ (yI pa C.length pc);have r:=(G.V (NA (AY vp (some w.heap.size)) 15 (yI (zY g 0) B.length s)) (λg e=>by cases e;exact l.n.1)).V (NA (AY _ (some w.heap.size)) 14 (yI pa C.length pc)) (λg e=>by cases e;exact l.n.1);generalize o:World.setCell (World.setCell _ _ _) _ _=v6 at E r⊢;clear o l G;refine(S.j _ E.f.h1.q E.f.h2.q E.m.q.1.2.2.p.ops).J ?_;rintro r7 v7 ⟨G,p,I,J,rfl,L,l,K,o⟩;have R:=E.r4.lt
  have M:DepF v7 v (λW=>Strs W G i.1):=(ZA (QF (lo:=v6.heap.size) L.s VJ l) (λb k _=>aW.j b ω)).map λW k=>k.strs
  have Q:DepF v7 v (λW=>Wrs W I i.2):=(ZA (QF (lo:=v6.heap.size) L.p af K) (λb k _=>aW.j b ω)).map λW k=>k.wrs
  replace E:=(E.I o).add (M.and Q);replace r:=r.I o;clear L l K o M Q S R;have K:=E.r2.y 1;have L:=E.r2.y 2;have Q:=E.r2.A 1;have R:=E.r2.A 2;have T:=E.r2.lt;go_upto_region 24 with fail;clear K Q L R T;have l:=(E.set 1 σ (yI G i.1.length p)).set 2 σ (yI I i.2.length J);replace r:=(r.V (NA (AY v7 (some w.heap.size)) 1 (yI G i.1.length p)) (λg e=>by cases e;exact E.n.1)).V (NA (AY _ (some w.heap.size)) 2 (yI I i.2.length J)) (λg e=>by cases e;exact E.n.1);generalize o:World.setCell (World.setCell _ _ _) _ _=v8 at l r⊢;clear o E;have T:=l.m
  cases CB with
  | true =>
   have E:A=(x.ran e D).pow e.fs:=by rw[aP.j];exact yr dB.j cZ.j HC.j dM.j bJ.j.symm
   have o:=fX.j.le;rw[eZ.j]at E o;have K:=Y (CP.j { x with ss:=i.1,ws:=i.2,P:=C,ts:=B } ⟨G,p,I,J,q.s,q.cs,pa,pc,zY g 0,s⟩ v8 ⟨T.map λW k=>k.2.1,T.map λW k=>k.2.2,l.f.h3,r,T.map λW k=>k.1.2.strs⟩ o (eY.j.I l.e));rw[<-E]at K;unfold LT at K;clear E o T r;have L:=l.r3.y 3;have o:=l.r3.lt;go_upto_region 25 with fail;refine AV ?_;refine AZ rfl 42 _ rfl w.heap.size 0 rfl _ _ l.r2.range underlying42 rfl MP ?_;simp only[PS];go_wp2_with fail;clear L o;refine K.j.J ?_;rintro r9 v9 ⟨O,rfl,M,o⟩;have E:=l.r4.lt;replace M:=M.J (G:=v) (λb _ k=>k.elim id (λk=>aW.j b ω));replace l:=l.I o;clear o K;unfold LT
   try simp only[PS]
   refine‹∀(a:Act) (w:xV),wpList _ _ _ _ a w->_› _ _ ?_
   refine BU rfl 42 _ _ rfl (w.heap.size+1+1) 0 (wA A O) rfl rfl (l.r4.there rfl) MP κ ?_
   try simp only[PS]
   obtain⟨S,o⟩:∃y9,y9=v9.setCells (w.heap.size+1+1) 0 (wL A O):=⟨_,rfl⟩;obtain⟨R,Q,K⟩:=l.fin (M) cM.j (wL A O) rfl S o;rw[<-o];clear o l
   try go_wp2
   exact UK 4 42 results62 _ rfl (wL A O) _ R underlying42 rfl MP rfl ⟨O,rfl,K,Q⟩
  | false =>
   obtain⟨L,dP⟩:∃y:List (List Pr),Hid (y=if e.K=2 then C else [D.rs]):=⟨_,Y rfl⟩;have E:A={ (x.ran e D).upS D with P:=L }:=by rw[aP.j,dP.j,bR.j];exact V3 dB.j cZ.j HC.j dM.j bJ.j.symm
   rw[eZ.j]at E;have ER:=Y E;clear E T;go_upto_region 26 with fail;refine AV ?_;refine mj rfl _ _ _ rfl (zW V 1) (by have xl:=l.m.q.1.1.2.1.lt;go_simp) ?_;simp only[PS];refine AZ rfl 39 _ rfl V 1 rfl (sJ D.W D.S D.L D.T D.H D.F D.R D.U D.O (yI m D.rs.length n)) _ (Row.rangeMid (pre:=[Z D.C]) (cs:=(sJ D.W D.S D.L D.T D.H D.F D.R D.U D.O (yI m D.rs.length n))) (post:=[yI ob D.ops.length oe]) l.m.q.1.1.2.1) underlying39 rfl em ?_;simp only[PS];refine mj rfl _ _ _ rfl (zW w.heap.size 4) (by have T:=l.r2.lt;go_simp) ?_;simp only[PS];refine BU rfl 39 _ _ rfl w.heap.size 4 (sK D.W D.S D.L D.T D.H D.F D.R D.U D.O (yI m D.rs.length n)) rfl rfl (Row.thereMid (pre:=[Z x.w,yI G i.1.length p,yI I i.2.length J,yR x.up]) (cs:=(sJ x.W x.S x.L x.T x.H x.F x.R x.U x.O (yI q.s x.rs.length q.cs))) (post:=[yI pa C.length pc,yI (zY g 0) B.length s]) l.r2 rfl) em κ ?_
   try simp only[PS]
   have b:=l.put (OU v8 w.heap.size 4 (sJ D.W D.S D.L D.T D.H D.F D.R D.U D.O (yI m D.rs.length n))) (Row.setsMid (pre:=[Z x.w,yI G i.1.length p,yI I i.2.length J,yR x.up]) (cs:=(sJ x.W x.S x.L x.T x.H x.F x.R x.U x.O (yI q.s x.rs.length q.cs))) (post:=[yI pa C.length pc,yI (zY g 0) B.length s]) l.r2 (sJ D.W D.S D.L D.T D.H D.F D.R D.U D.O (yI m D.rs.length n)) rfl);replace r:=r.V (OU v8 w.heap.size 4 (sJ D.W D.S D.L D.T D.H D.F D.R D.U D.O (yI m D.rs.length n))) (λg e=>by cases e;exact l.n.1);generalize o:v8.setCells _ _ _=v9 at b r⊢;clear o l;have l:=b.r2.y 3;have o:=b.r2.A 3;have T:=b.r2.lt;have e0:=b.r3.y 0;have el:=b.r3.lt;go_upto_if 117 with fail;clear l o T;have l:=b.set 3 σ (yR true);replace r:=r.V (NA (AY v9 (some w.heap.size)) 3 (yR true)) (λg e=>by cases e;exact b.n.1)
   generalize o:World.setCell _ _ _=va at l r⊢;clear o b;go_cut [] from 115 to 122 (λwx=>∃(E:xA) (U:Nat),DoS w wx v [Z x.w,yI G i.1.length p,yI I i.2.length J,yR true,Z D.W,Z D.S,Z D.L,Z D.T,Z D.H,Z D.F,Z D.R,Z D.U,Z D.O,yI m D.rs.length n,yI E L.length U,yI (zY g 0) B.length s] [Z e.K,yI a e.b.length c,Z e.cut,yI f e.fs.length d] x q (λW=>(((True/\Yj W V (dJ D.C D.W D.S D.L D.T D.H D.F D.R D.U D.O (yI m D.rs.length n) (yI ob D.ops.length oe)) D m ob)/\Row W g (B.map Value.string))/\(Strs W G i.1/\Wrs W I i.2)))/\PstF wx v E L)
   case first =>
    by_cases t:e.K=2
    ·have X:L=C:=by rw[dP.j,AI t]
     have eR:(e.K == 2)=true:=by simp[t]
     clear t;go_wp2_with fail;go_meet;rw[X];exact⟨pa,pc,l,r⟩
    have X:L=[D.rs]:=by rw[dP.j,AF t]
    have eR:(e.K == 2)=false:=by simp[t]
    clear t;have cA:=l.r2.y 14;have M:=l.r2.A 14;have T:=l.r2.lt;have b:=l.m.q.1.1.2.1.y 10;have xl:=l.m.q.1.1.2.1.lt;go_wp2_with fail;clear cA M T;clear b xl;go_meet;rw[X];have R:w.heap.size+1+1+1<=va.heap.size:=by have:=l.r4.lt;omega
    have b:=(l.set 14 σ (yI (zY va.heap.size 0) 1 1));have Q:(va.setCell (yA w.heap.size 14) (yI (zY va.heap.size 0) 1 1)).heap.size=va.heap.size:=BL _ _ _;generalize o:va.setCell _ _=M at b Q⊢;clear o;have o:=VP M (.cells #[yI m D.rs.length n] 37);have K:=LS M #[yI m D.rs.length n] 37;rw[Q]at K;exact⟨zY va.heap.size 0,1,b.I o,Hz K (aW.j _ R) ((b.m.I o).map λW k=>k.1.1.2.2.s.prs)⟩
   case rest =>
   clear l r e0 el;obtain⟨E,U,b,r⟩:=hcut
   rename World=>l
   have M:WoF A l v ⟨G,p,I,J,m,n,E,U,zY g 0,s⟩:=by rw[ER.j];exact⟨b.m.map λW k=>k.2.1,b.m.map λW k=>k.2.2,b.m.map λW k=>k.1.1.2.2.s.prs,r,b.m.map λW k=>k.1.2.strs⟩
   go_upto_region 30 with fail;refine AV ?_;refine AZ rfl 42 _ rfl w.heap.size 0 rfl _ _ b.r2.range underlying42 rfl MP ?_;simp only[PS];refine BU rfl 42 _ _ rfl (w.heap.size+1+1) 0 #[Z x.w,yI G i.1.length p,yI I i.2.length J,yR true,Z D.W,Z D.S,Z D.L,Z D.T,Z D.H,Z D.F,Z D.R,Z D.U,Z D.O,yI m D.rs.length n,yI E L.length U,yI (zY g 0) B.length s] rfl rfl (b.r4.there rfl) MP κ ?_
   try simp only[PS]
   obtain⟨S,o⟩:∃y9,y9=l.setCells (w.heap.size+1+1) 0 [Z x.w,yI G i.1.length p,yI I i.2.length J,yR true,Z D.W,Z D.S,Z D.L,Z D.T,Z D.H,Z D.F,Z D.R,Z D.U,Z D.O,yI m D.rs.length n,yI E L.length U,yI (zY g 0) B.length s]:=⟨_,rfl⟩;obtain⟨R,Q,K⟩:=b.fin (M) cM.j [Z x.w,yI G i.1.length p,yI I i.2.length J,yR true,Z D.W,Z D.S,Z D.L,Z D.T,Z D.H,Z D.F,Z D.R,Z D.U,Z D.O,yI m D.rs.length n,yI E L.length U,yI (zY g 0) B.length s] rfl S o;rw[<-o];clear o b
   try go_wp2
   refine UK 4 42 results62 _ rfl [Z x.w,yI G i.1.length p,yI I i.2.length J,yR true,Z D.W,Z D.S,Z D.L,Z D.T,Z D.H,Z D.F,Z D.R,Z D.U,Z D.O,yI m D.rs.length n,yI E L.length U,yI (zY g 0) B.length s] _ R underlying42 rfl MP rfl ⟨⟨G,p,I,J,m,n,E,U,zY g 0,s⟩,?_,K,Q⟩;rw[ER.j];rfl
theorem Xh{y:Wo}{q:Wp}{o:Nat->Nat}(h:QG y w' q o)(c:∀b,b<w.heap.size->o b=0)(a:yX w w'):jq w w' (yT (LT y q)) y:=by
 refine⟨q,λb=>if w.heap.size<=b/\b<w'.heap.size then o b else 0,rfl,h.lab (λb a=>?_),λb k=>?_,a⟩
 ·show(if w.heap.size<=b/\b<w'.heap.size then o b else 0)=o b
  by_cases h:w.heap.size<=b
  ·rw[AI ⟨h,a⟩]
  rw[AF (λk=>h k.1),c b ω]
 by_cases h:w.heap.size<=b/\b<w'.heap.size
 ·exact h
 exact absurd (AF h) k
theorem Sw(x:Wo)(q:Wp)(e:Ev)(a:xA)(c:Nat)(f:xA)(d:Nat)(w:xV)(h:x.at w q)(J:x.le 1048576)(G:Chs w a e.b)(I:Ints w f e.fs)(H:e.le):Calls prog 31 #[LT x q,NR e a c f d] w λr w'=>jq w w' r (x.doR e):=by
 have s:=Y (λw' k=>mC x q w' k J);unfold LT at s⊢;unfold NR;have C:=Y h;have K:=Y G;have M:=Y I;have L:=Y H;clear h G I H J;obtain⟨o,p⟩:∃y,Hid (y=x.doR e):=⟨_,Y rfl⟩;rw[<-p.j];go_enter func31,ntmps31;go_upto_region 1 with fail;generalize b:w.alloc _=Q;obtain⟨t,u,b0⟩:=LK b;clear b;generalize g:Q.alloc _=R;obtain⟨b,n,v⟩:=LK g;clear g;generalize i:R.alloc _=v3;obtain⟨g,A,z⟩:=LK i;clear i;rw[u]at v n;rw[n]at z A;have i:=t.E ((b.E (g.J b.size)).J t.size);have l:=((b0.I b).I g).q;have m:=(v.I g).q;have j:=z.q;clear t b g b0 v z u n A;refine AV ?_;refine AZ rfl 42 _ rfl w.heap.size 0 rfl _ _ l.range underlying42 rfl MP ?_;simp only[PS];go_wp2_with fail;refine(s.j _ (C.j.I i)).J ?_;rintro r v ⟨rfl,g⟩;replace i:=i.E (g.J i.size);replace l:=l.I g
 replace m:=m.I g;replace j:=j.I g;clear g s;obtain⟨O,u⟩:∃y,Hid (y=LW x):=⟨_,Y rfl⟩;rw[<-u.j]
 cases O with
 | false =>
  have g:o=lP:=by rw[p.j];unfold Wo.doR;rw[<-u.j,AF σ]
  have s:=Y g;clear g p;go_upto_region 2 with fail;refine AV ?_;refine SO rfl (.agg #[Z 0,yI none 0 0,yI none 0 0,yR false,Z 0,Z 0,Z 0,Z 0,Z 0,Z 0,Z 0,Z 0,Z 0,yI none 0 0,yI none 0 0,yI none 0 0]) γ ?_;simp only[PS];refine BU rfl 42 _ _ rfl (w.heap.size+1+1) 0 #[Z 0,yI none 0 0,yI none 0 0,yR false,Z 0,Z 0,Z 0,Z 0,Z 0,Z 0,Z 0,Z 0,Z 0,yI none 0 0,yI none 0 0,yI none 0 0] rfl rfl (j.there rfl) MP κ ?_
  try simp only[PS]
  have g:=OU v (w.heap.size+1+1) 0 [Z 0,yI none 0 0,yI none 0 0,yR false,Z 0,Z 0,Z 0,Z 0,Z 0,Z 0,Z 0,Z 0,Z 0,yI none 0 0,yI none 0 0,yI none 0 0];have t:=j.sets [Z 0,yI none 0 0,yI none 0 0,yR false,Z 0,Z 0,Z 0,Z 0,Z 0,Z 0,Z 0,Z 0,Z 0,yI none 0 0,yI none 0 0,yI none 0 0] rfl;have n:=i.E (MF g i.size (λx e=>by have e:=BP e;omega));generalize World.setCells _ _ _ _=U at t n g⊢;clear g l m j i
  try go_wp2
  exact UK 4 42 results31 _ rfl _ _ t underlying42 rfl MP rfl ⟨⟨none,0,none,0,none,0,none,0,none,0⟩,λ_=>0,by rw[s.j];rfl,by rw[s.j];exact⟨.inl rfl,.inl rfl,.inl rfl,.inl rfl,.inl rfl⟩,λb k=>absurd rfl k,n⟩
 | true =>
  obtain⟨n,B,D⟩:=gy u.j.symm;have g:o=x.doE e:=by rw[p.j];unfold Wo.doR;rw[<-u.j,AI rfl]
  have A:=Y (n.doE e);rw[<-g]at A;have y:=Y (λw' k=>Ub x q w' k n);have t:=Y (λs F w' z E k3=>Yh x s e a c f d F w' z n E k3 L.j);have z:=Y (λs w' k=>Ub o s w' k A.j);rw[<-g]at t;unfold LT at y t z;unfold NR at t;clear g p u B D n A;go_upto_region 3 with fail;refine TU (5) (S:=λw'=>Row w' w.heap.size (wL x q)/\Row w' (w.heap.size+1) [Z e.K,yI a e.b.length c,Z e.cut,yI f e.fs.length d]) κ (⟨l.I (AB _ _).drew,m.I (AB _ _).drew⟩) (λE=>?_);refine LU 0 (.agg (wA x q)) rfl (AS ⟨ρ,λw g=>by obtain⟨u,n⟩:=g;exact QI 42 _ rfl _ 0 rfl _ _ u.range underlying42 rfl MP⟩) E (LU 2 (.agg #[Z e.K,yI a e.b.length c,Z e.cut,yI f e.fs.length d]) rfl (AS ⟨ρ,λw g=>by obtain⟨u,n⟩:=g;exact QI 78 _ rfl _ 0 rfl _ _ n.range underlying78 rfl VV⟩) E ?_)
  simp only[PS];refine NK 1 rfl (λA p=>?_);have g:=(AB v.heap.size v).drew;replace i:=i.E (g.J i.size);replace l:=l.I g;replace m:=m.I g;replace j:=j.I g;generalize B:v.drew=S at i l m j⊢;clear B g;refine LI ρ 61 #[.agg (wA x q)] γ (y.j _ (C.j.I i)) ?_;rintro r y1 ⟨s,o1,rfl,D,n,g⟩;have B:=D.woF (F:=λb=>S.heap.size<=b) (λb k=>KL λh=>k (n b ω));refine⟨_,rfl,?_⟩;unfold LT;replace i:=i.E (g.J i.size);replace l:=l.I g;replace m:=m.I g;replace j:=j.I g;clear g y D n;refine p.j _ _ (⟨l,m⟩) (λV=>?_)
  try simp only[PS]
  refine NK 3 rfl (λA p=>?_);refine LI ρ 62 #[.agg (wA x s),.agg #[Z e.K,yI a e.b.length c,Z e.cut,yI f e.fs.length d]] γ (t.j s _ _ B (K.j.I i) (M.j.I i)) ?_;rintro r y2 ⟨P,rfl,n,g⟩;refine⟨_,rfl,?_⟩;unfold LT;replace i:=i.E (g.J i.size);replace l:=l.I g;replace m:=m.I g;replace j:=j.I g;clear g t B;refine p.j _ _ (⟨l,m⟩) (λW=>?_)
  try simp only[PS]
  refine NK 4 rfl (λA p=>?_);refine LI ρ _ _ γ (z.j P _ n.at) ?_;rintro r T ⟨k,o3,rfl,B,D,g⟩;refine⟨_,rfl,?_⟩;unfold LT;have l2:=i.size;have N:=j.lt;replace i:=i.E (g.J i.size);replace l:=l.I g;replace m:=m.I g;replace j:=j.I g;clear g z n;refine p.j _ _ (⟨l,m⟩) (λX=>?_)
  try simp only[PS]
  refine PM (rs:=[5]) κ σ ?_;refine AllReadyT.last rfl (λA p=>?_);refine SN rfl 42 _ _ rfl (w.heap.size+1+1) 0 (wA o k) rfl rfl (j.there rfl) MP κ ?_;refine p.j _ _ trivial (λ_=>?_)
  try simp only[PS]
  refine SP κ ?_ _;have g:=OU T (w.heap.size+1+1) 0 (wL o k);have t:=j.sets (wL o k) rfl;have y:=B.V g (D _ N);have n:=i.E (MF g i.size (λx e=>by have e:=BP e;omega));generalize World.setCells _ _ _ _=U at t y n g⊢;have z:=Y y;clear g y B l m j i
  try go_wp2
  exact UK 4 42 results31 _ rfl (wL o k) _ t underlying42 rfl MP rfl (Xh z.j (λb g=>D b ω) n)
end
section
open _root_.Go.Proofs.Tryz
open Go.RowKit Go.Proofs.YtkdedmclofhndaaGreatDoor.nw
variable {c:Nat}{a:xA}{w:xV}
theorem U5{i f:xV}{B:Nat}{d:Dk}{G:Nat->Prop}{q:Wp}{y:Wo}{r:Ending}(h:DkN w B d G q a c)(g:yX w i)(s:jq i f r y):∃e,r=yT (LT y e)/\DkN f B d G q a c/\DkN (f.setCells B 0 (MN y e)) B ⟨y,d.b⟩ (OE w (f.setCells B 0 (MN y e)) G) e a c/\Fr w (f.setCells B 0 (MN y e)) G/\yX i f:=by
 obtain⟨e,o,rfl,t,m,l⟩:=s;have j:=g.E (l.J g.size);obtain⟨n,p⟩:=h.world j (Uc t (λb k=>⟨AJ g.size (m b k).1,(m b k).2⟩));exact⟨e,rfl,h.I j,n,p,l⟩
theorem Wb{v u:xV}{B:Nat}{G:Nat->Prop}{d:Dk}{q:Wp}(e:Fr w v G)(h:DkN u B d (OE v u (OE w v G)) q a c)(f:Fr v u (OE w v G)):DkN u B d (OE w u G) q a c/\Fr w u G :=⟨h.J (λb l k=>by rcases k with (k|k)|k;exact .inl k;exact .inr ⟨k.1,AC k.2 f.size⟩;exact .inr ⟨AJ e.size k.1,k.2⟩),e.E f (λb l k=>by rcases k with k|k;exact k;exact absurd l ω)⟩
theorem Wd{L:Nat}{b:List Ch}(h:w.ownsRow L 92 3 (yI a b.length c) b.length (MS b)):Chs w a b:=by
 rcases MC h with ⟨d,e⟩|⟨g,f,d,e,_,i⟩
 ·exact .inl (AD e)
 cases d
 exact i.chs
theorem Ui{d:xV}{e:List Int}(h:Ints w a e)(j:∀b,a.map (·.block)=some b->b<d.heap.size/\d.heap[b]?=w.heap[b]?):Ints d a e:=by
 rcases h with h|⟨b,o,rfl,m,f⟩
 ·exact .inl h
 obtain⟨k,l⟩:=j b rfl
 exact .inr ⟨b,o,rfl,k,λi g=>(DP (a:=(yA b (o+i))) l).E (f i g)⟩
def Xj(K:Int)(d:Dk)(b:List Int):Dk×yZ:=(⟨d.x.doR (Tl K d.b b),if K=2 then [] else d.b⟩,XN d.x (Tl K d.b b))
theorem Va(K:Int)(y:List Int)(na:xA)(nc L:Nat)(d:Dk)(B:Nat)(G:Nat->Prop)(q:Wp)(a:xA)(c:Nat)(w:xV)(h:DkN w B d G q a c)(ho:d.ok 1000)(hG:∀b,G b->b<w.heap.size)(aV:w.ownsRow L 3 1 (yI na y.length nc) y.length (y.map (Value.int .i64)))(dM:∀b,(yI na y.length nc).ownBlock=some b->¬G b)(eK:y.length<=30000)(hK:1<=K/\K<=4):Calls prog 33 #[zW B 0,Z K,yI na y.length nc] w λr A=>Qw w A B G r (Xj K d y):=by
 have HH:=Y h;have HK:=Y ho.w;have N:=Y ho;have HG:=Y hG;have M:=Y dM;have D:=Y aV;have lB:=h.r.lt;clear h ho hG aV dM;go_enter func33,ntmps33;go_upto_region 2 with fail;generalize e:w.alloc _=v1;obtain⟨g,I,f⟩:=LK e;have v:=Y g;have E:=Y f.q;have U:w.heap.size<v1.heap.size:=ω
 clear e g I f;go_upto_if 14 with fail;go_cut [] from 15 to 21 (λo=>∃F Q,Row o w.heap.size [Z K,yI none 0 0,Z (y.getD 0 (-1)),yI F (y.drop 1).length Q]/\Ints o F (y.drop 1)/\(∀b,F.map (·.block)=some b->b<w.heap.size/\¬G b)/\yX w o)
 case first =>
  cases y with
  | nil =>
   go_wp2_with fail;go_meet;exact⟨none,0,E.j,.inl rfl,(λb k=>by cases k),v.j⟩
  | cons t l =>
   obtain⟨g,f,W,e,eR,-,eT,-⟩:=D.j.2.resolve_left (λk=>by have:=k.2;simp at this)
   obtain rfl:na=zY g 0:=by cases e;rfl
   obtain rfl:f=nc:=by cases e;rfl
   have H:=(RJ D.j).I v.j;have P:=M.j g rfl;have R:=(O1 D.j (b:=g) rfl).2;clear e;have eV:(1:Int)<=(l.length:Int)+1:=ω
   have lc:((l.length:Int)+1)<=(f:Int):=by have:(t::l).length=l.length+1:=rfl;omega
   obtain⟨s,O⟩:∃p,(if f=1 then some ((yA g 0):Addr) else zY g 1)=p:=⟨_,rfl⟩
   have eF:Hid (l=[]\/s=zY g 1):=Y (by by_cases eJ:f=1;exact .inl (AD ω);exact .inr (by rw[<-O,AF eJ]))
   have X:Hid (∀b,s.map (·.block)=some b->b<w.heap.size/\¬G b):=Y (λb k=>by rw[<-O]at k;split at k<;>(cases k;exact⟨R,P⟩));have j:=E.j;have q0:=H.y 0;have lg:=H.lt;have q2:=j.y 2;have q3:=j.y 3;have f2:=j.A 2;have f3:=j.A 3;have V:=j.lt;have S:g≠w.heap.size:=ω
   have i:=NA (AY v1 (some w.heap.size)) 2 (Z t);have m:=j.set 2 σ (Z t);have C:=H.V i (λe=>S (by cases e;rfl));have n:=v.j.E (MF i (KF U) (λ_ e=>by cases e;exact AA _));obtain⟨T,z⟩:∃u,u=v1.setCell (yA w.heap.size 2) (Z t):=⟨_,rfl⟩;rw[<-z]at m C n;have x:=NA (AY T (some w.heap.size)) 3 (yI s l.length (f-1));have J:=Y (m.set 3 σ (yI s l.length (f-1)));have aO:=Y (C.V x (λe=>S (by cases e;rfl)));have I:=Y (n.E (MF x n.size (λ_ e=>by cases e;exact AA _)));rw[z]at J aO I;clear i x m C n z T P R;rw[show decide (0<(t::l).length)=true from AM σ];simp only[BJ];go_wp2_with fail;go_meet;exact⟨s,f-1,J.j,eF.j.imp id (λe=>⟨g,1,e,aO.j.lt,λi m=>by rw[Nat.add_comm];exact aO.j.cell (i+1) _ (by simp[List.getD,show i<l.length by simpa using m])⟩),X.j,I.j⟩
 case rest =>
 obtain⟨F,Q,j,m,O,H⟩:=hcut
 rename World=>y1
 obtain⟨s,n⟩:∃z,z=y.getD 0 (-1):=⟨_,rfl⟩;obtain⟨i,f⟩:∃l,l=y.drop 1:=⟨_,rfl⟩;obtain⟨g,k⟩:∃l,l=(if K=2 then d.b else []):=⟨_,rfl⟩;obtain⟨P,u⟩:∃l,l=(if K=2 then [] else d.b):=⟨_,rfl⟩;have R:i.length<=1048576:=by rw[f,BQ];omega
 have HX:Hid (Xj K d y=(⟨d.x.doR ⟨K,g,s,i⟩,P⟩,XN d.x ⟨K,g,s,i⟩)):=Y (by unfold Xj Tl;rw[<-n,<-f,<-k,<-u])
 have z:Ev.le ⟨K,g,s,i⟩:=⟨by rw[k];split;exact⟨by have:=N.j.l;show d.b.length<=1048576;omega,λx t=>by have:=N.j.s x t;omega⟩;exact⟨σ,λx t=>by cases t⟩,R⟩
 rw[<-n,<-f]at j;rw[<-f]at m;have x:=Y j;have I:=Y m;have T:=Y O;have t:=Y H;have C:=Y (AG k u);have J:=Y z;clear n f k u R z j m O H E v U eK D M;go_upto_if 23 with fail;go_cut [] from 24 to 32 (λo=>∃O S f j,Row o w.heap.size [Z K,yI O g.length S,Z s,yI F i.length Q]/\Ints o F i/\Chs o O g/\DkN o B ⟨d.x,P⟩ (OE w o G) q f j/\Fr w o G)
 case first =>
  have U:=AC lB t.j.size
  by_cases D:K=2
  ·subst D
   obtain⟨rfl,rfl⟩:g=d.b/\P=[]:=C.j;have f:=HH.j.I t.j;have c16:=f.r.y 16;have k:=x.j.y 1;have j:=x.j.A 1;have V:=x.j.lt;clear f;go_upto_region 7 with fail;obtain⟨v,z⟩:∃u,u=y1.setCell (yA w.heap.size 1) (yI a d.b.length c):=⟨_,rfl⟩;have H:=NA (AY y1 (some w.heap.size)) 1 (yI a d.b.length c);have m:=x.j.set 1 σ (yI a d.b.length c);rw[<-z]at H m⊢;have n:=t.j.E (MF H t.j.size (λ_ e=>by cases e;exact AA _));have f:=HH.j.I n;have W:=f.r.lt;have eP:=f.r.y 16;have g16:=f.r.A 16;have R:=Y m;have E:=Y n;clear z H c16 k j V U m n f;have H:=Y W;go_wp2_with fail;go_meet;rw[<-World.setCell_alloc_past (w:=v) (.cells #[] 92) B 16 (yI (zY v.heap.size 0) 0 0) H.j];have f:=HH.j.I E.j;have j:=DG (base:=B+1) (size:=3) v #[] 0 (by have:=H.j;omega) σ σ (e:=92)
   obtain⟨n,M⟩:=f.clear (LG v (.cells #[] 92)) j (λb k=>by cases k;exact AA _);have m:=Wd (BS (a:=(yA B 16)) (f.o.alloc (.cells #[] 92)) (λe=>by have k:=(O1 f.o e).1;have k2:B+1<=B:=k;omega) (yI (zY v.heap.size 0) 0 0));have X:=(R.j.I (LG v (.cells #[] 92))).other (yA B 16) (by show B≠w.heap.size;omega) (yI (zY v.heap.size 0) 0 0);have z:Fr w _ G:=(Ov E.j).E M (λb _ k=>k);exact⟨a,c,zY v.heap.size 0,0,X,Ui I.j (λb k=>by obtain⟨V,k2⟩:=T.j b k;exact⟨AC V z.size,(z.block b V k2).E (t.j.block b V).symm⟩),m,n.J (λb l k=>k.imp_right (λk=>⟨AJ E.j.size k.1,k.2⟩)),z⟩
  obtain⟨rfl,rfl⟩:g=[]/\P=d.b:=⟨by rw[C.j.1,AF D],by rw[C.j.2,AF D]⟩
  have f:(K == 2)=false:=BI.2 D;go_wp2_with fail;go_meet;exact⟨none,0,a,c,x.j,I.j,.inl rfl,(HH.j.I t.j).J (λb _ k=>.inl k),Ov t.j⟩
 case rest =>
 obtain⟨O,S,a2,c2,j,m,n,f,b⟩:=hcut
 rename World=>R
 obtain⟨G3,k⟩:∃X,X=OE w R G:=⟨_,rfl⟩;rw[<-k]at f;have aO:=Y k;have dZ:=Y b;have E:=Y f;have M:=Y j;have eB:=Y m;have bQ:=Y n;have eY:w.heap.size<=R.heap.size:=b.size;have eX:=f.r.lt;clear j m n f b k x I T t C N;obtain⟨⟨D,u⟩,b⟩:∃p,d.x.call ⟨K,g,s,i⟩=p:=⟨_,rfl⟩;have f:=Te d.x ⟨K,g,s,i⟩;rw[b]at f;simp only at f;obtain⟨N,HN⟩:∃N,Hid (N=codeP d.x ⟨K,g,s,i⟩):=⟨_,Y rfl⟩;have bT:Hid ((u=true->D.C=(N:Int))/\(u=false->N=9)):=Y ⟨λe=>by rw[HN.j];unfold codeP;rw[b];simp only;rw[AI e];omega,λe=>by rw[HN.j];unfold codeP;rw[b];simp only;rw[AF (by rw[e];simp)]⟩;have eQ:N<=9:=by rw[HN.j];exact Rt _ _
 have CC:=Y (λA V k2=>oM d.x q ⟨K,g,s,i⟩ O S F Q A V (O2 HK.j) k2 J.j);have CD:=Y (λA V k2 k3=>Sw d.x q ⟨K,g,s,i⟩ O S F Q A V (O2 HK.j) k2 k3 J.j);rw[b]at CC;unfold NR at CC CD;clear b f J hK;go_upto_region 8 with fail;go_cut [8,9] from 33 to 41 (λf b o=>∃W cs,f=zW W 0/\b=yR u/\Row o W (Z D.C::cs)/\R.heap.size<=W/\yX R o)
 case first =>
  have b:=(AB R.heap.size R).drew;refine AN (S:=λA=>DkN A B ⟨d.x,P⟩ G3 q a2 c2/\Row A w.heap.size [Z K,yI O g.length S,Z s,yI F i.length Q]) κ (⟨E.j.I b,M.j.I b⟩) (λx=>?_);refine TY 0 (zW B 0) rfl x (TK 1 (zW B 0) rfl (AS ⟨ρ,λw k=>by obtain⟨C,I⟩:=k;have l:=C.r.lt;go_simp⟩) x (TK 2 (zW B 0) rfl (AS ⟨ρ,λw k=>by obtain⟨C,I⟩:=k;have l:=C.r.lt;go_simp⟩) x (TK 3 (LT d.x q) rfl (AS ⟨ρ,λw k=>by obtain⟨C,I⟩:=k;exact R6 (d:=⟨d.x,P⟩) C _ rfl rfl⟩) x (TK 4 (.agg #[Z K,yI O g.length S,Z s,yI F i.length Q]) rfl (AS ⟨ρ,λw k=>by obtain⟨C,I⟩:=k;exact QI 78 _ rfl _ 0 rfl _ _ I.range underlying78 rfl VV⟩) x ?_))));simp only[PS];refine ET (rs:=[5,9]) κ σ ?_
  refine DC rfl (λv f=>?_) (DC rfl (λv f=>?_) EP)
  ·generalize j:R.drew=T at b⊢
   clear j;refine LI ρ _ _ γ (CC.j T (E.j.I b).m.q (bQ.j.I b)) ?_;rintro r J ⟨p,m,j,t,rfl,-,-,-,-,bG⟩;refine⟨_,rfl,?_⟩;replace b:=b.E (bG.J b.size);refine f.j _ _ (⟨E.j.I b,M.j.I b⟩) (λX=>?_)
   try simp only[PS]
   refine TY 6 (.tuple #[MD D p m j t,yR u]) rfl X (TY 7 (MD D p m j t) rfl X (TY 8 (yR u) rfl X ?_));simp only[PS];refine RD 9 rfl (λv f=>?_);go_simp;have aU:=b.size;obtain⟨ya,n⟩:∃u,u=J.alloc (.cells (dK 0 0 0 0 0 0 0 0 0 0 (yI none 0 0) (yI none 0 0)) 102):=⟨_,rfl⟩;rw[<-n];obtain⟨cI,zA,H⟩:=LK n.symm;have z:=H.q;replace b:=b.E (cI.J b.size);clear n H;refine f.j _ _ (⟨E.j.I b,M.j.I b⟩) (λeG=>?_)
   try simp only[PS]
   refine RD 10 rfl (λv f=>?_);refine SN rfl 102 _ _ rfl (J.heap.size) 0 (QD D p m j t).toArray rfl rfl (z.there rfl) RQ κ ?_;have H:=OU ya (J.heap.size) 0 (QD D p m j t);have aW:=z.sets (QD D p m j t) rfl;obtain⟨yz,U⟩:∃u,u=ya.setCells (J.heap.size) 0 (QD D p m j t):=⟨_,rfl⟩;rw[<-U]at H aW;show v _ (ya.setCells (J.heap.size) 0 (QD D p m j t));rw[<-U];have n:=b.E (MF H b.size (λ_ e=>by cases e;exact aU));clear U;refine f.j _ _ (⟨E.j.I n,M.j.I n⟩) (λU=>?_)
   try simp only[PS]
   refine RD 11 rfl (λv f=>?_);go_simp;refine f.j _ _ U (λ_=>?_)
   try simp only[PS]
   refine DN ?_;go_wp2_with fail;go_meet;exact⟨J.heap.size,_,rfl,rfl,aW,aU,n⟩
  generalize j:R.drew=T at b⊢
  clear j;go_simp;have aU:=b.size;obtain⟨ya,n⟩:∃u,u=T.alloc (.cells (dK 0 0 0 0 0 0 0 0 0 0 (yI none 0 0) (yI none 0 0)) 102):=⟨_,rfl⟩;rw[<-n];obtain⟨cI,zA,H⟩:=LK n.symm;have z:=H.q;replace b:=b.E (cI.J b.size);clear n H;refine f.j _ _ (⟨E.j.I b,M.j.I b⟩) (λeH=>?_)
  try simp only[PS]
  refine RD 5 rfl (λv f=>?_);refine LI ρ _ _ γ (CC.j ya (E.j.I b).m.q (bQ.j.I b)) ?_;rintro r J ⟨p,m,j,t,rfl,-,-,-,-,bG⟩;refine⟨_,rfl,?_⟩;replace b:=b.E (bG.J b.size);replace z:=z.I bG;refine f.j _ _ (⟨E.j.I b,M.j.I b⟩) (λX=>?_)
  try simp only[PS]
  refine TY 6 (.tuple #[MD D p m j t,yR u]) rfl X (TY 7 (MD D p m j t) rfl X (TY 8 (yR u) rfl X ?_));simp only[PS];refine RD 10 rfl (λv f=>?_);refine SN rfl 102 _ _ rfl (T.heap.size) 0 (QD D p m j t).toArray rfl rfl (z.there rfl) RQ κ ?_;have H:=OU J (T.heap.size) 0 (QD D p m j t);have aW:=z.sets (QD D p m j t) rfl;obtain⟨yz,U⟩:∃u,u=J.setCells (T.heap.size) 0 (QD D p m j t):=⟨_,rfl⟩;rw[<-U]at H aW;show v _ (J.setCells (T.heap.size) 0 (QD D p m j t));rw[<-U];have n:=b.E (MF H b.size (λ_ e=>by cases e;exact aU));clear U;refine f.j _ _ (⟨E.j.I n,M.j.I n⟩) (λU=>?_)
  try simp only[PS]
  refine RD 11 rfl (λv f=>?_);go_simp;refine f.j _ _ U (λ_=>?_)
  try simp only[PS]
  refine DN ?_;go_wp2_with fail;go_meet;exact⟨T.heap.size,_,rfl,rfl,aW,aU,n⟩
 case rest =>
 obtain⟨W,cs,rfl,rfl,z,eI,b⟩:=hcut
 rename World=>y5
 have f:=Y z;have j:=Y b;clear z b CC;go_upto_if 43 with fail;go_cut [] from 44 to 44 (λo=>Row o W (Z (N:Int)::cs)/\yX R o)
 case first =>
  cases u with
  | true =>
   go_wp2_with fail;go_meet;exact⟨by rw[<-bT.j.1 σ];exact f.j,j.j⟩
  | false =>
   have b:=f.j.y 0;have m:=f.j.A 0;have n:=f.j.lt;go_wp2_with fail;go_meet;have H:=NA (AY y5 (some W)) 0 (Z 9);refine⟨?_,j.j.E (MF H j.j.size (λ_ e=>by cases e;exact eI))⟩;rw[bT.j.2 σ];exact f.j.set 0 σ (Z 9)
 case rest =>
 obtain⟨z,b⟩:=hcut
 rename World=>m
 have bW:=Y z;have o:=Y b;clear z b f j bT;go_upto_region 11 with fail;refine TU (9) (S:=λA=>DkN A B ⟨d.x,P⟩ G3 q a2 c2/\Row A w.heap.size [Z K,yI O g.length S,Z s,yI F i.length Q]) κ (⟨E.j.I (o.j.E ((AB m.heap.size m).drew.J o.j.size)),M.j.I (o.j.E ((AB m.heap.size m).drew.J o.j.size))⟩) (λx=>?_);refine NL 0 (zW B 0) rfl x (NL 1 (zW B 0) rfl x (LU 2 (zW B 0) rfl (AS ⟨ρ,λw k=>by obtain⟨C,I⟩:=k;have l:=C.r.lt;go_simp⟩) x (LU 3 (zW B 0) rfl (AS ⟨ρ,λw k=>by obtain⟨C,I⟩:=k;have l:=C.r.lt;go_simp⟩) x (LU 4 (LT d.x q) rfl (AS ⟨ρ,λw k=>by obtain⟨C,I⟩:=k;exact R6 (d:=⟨d.x,P⟩) C _ rfl rfl⟩) x (LU 5 (.agg #[Z K,yI O g.length S,Z s,yI F i.length Q]) rfl (AS ⟨ρ,λw k=>by obtain⟨C,I⟩:=k;exact QI 78 _ rfl _ 0 rfl _ _ I.range underlying78 rfl VV⟩) x ?_)))))
 simp only[PS];refine NK 6 rfl (λv f=>?_);have t:=(AB m.heap.size m).drew;have j:=o.j.E (t.J o.j.size);have p:=bW.j.I t;generalize b:m.drew=y9 at t j p⊢;clear b;refine LI ρ _ _ γ (CD.j y9 (E.j.I j).m.q (bQ.j.I j) (eB.j.I j)) ?_;intro r z2 z;obtain⟨k,U⟩:∃b,Hid (b=d.x.doR ⟨K,g,s,i⟩):=⟨_,Y rfl⟩;rw[<-U.j]at z;obtain⟨H,rfl,n,J,T,cY⟩:=U5 E.j j z;refine⟨_,rfl,?_⟩;have dU:=(M.j.I j).I cY;replace p:=p.I cY;clear z t CD;refine f.j _ _ (⟨n,dU⟩) (λX=>?_)
 try simp only[PS]
 refine NK 7 rfl (λv f=>?_);have b:=n.r.lt;go_simp;clear b;refine f.j _ _ X (λ_=>?_)
 try simp only[PS]
 refine NK 8 rfl (λv f=>?_);have b:=n.r.lt;go_simp;clear b;refine f.j _ _ X (λ_=>?_)
 try simp only[PS]
 refine PM (rs:=[9]) κ σ ?_;refine AllReadyT.last rfl (λv f=>?_);refine SN rfl 42 _ _ rfl B 0 (MN k H).toArray rfl rfl (Row.thereMid (pre:=[]) (cs:=MN d.x q) (post:=[yI a2 P.length c2]) n.r rfl) MP κ ?_;have t:=p.V (OU z2 B 0 (MN k H)) (λe=>by have z:=BP e;omega);obtain⟨w5,b⟩:∃u,u=z2.setCells B 0 (MN k H):=⟨_,rfl⟩;rw[<-b]at J T t;show v _ (z2.setCells B 0 (MN k H));rw[<-b];clear b p;refine f.j _ _ trivial (λ_=>?_)
 try simp only[PS]
 refine SP κ ?_ _;clear x;obtain⟨b,x⟩:=Wb dZ.j (by rw[<-aO.j];exact J) (by rw[<-aO.j];exact T);have p:=Y (AG b x);have e:=b.r.y 3;have l5:=b.r.lt;have x0:=t.y 0;have lx:=t.lt;clear J T b x n dU j t;have n:=Y (λA=>gx 9 N A ω δ);have b:(LH N).size<=9:=Pl ω;have zk:¬(9223372036854775807<3+(LH N).size):=ω
 have A:¬(9223372036854775807<5+(LH N).size):=ω
 have J:¬(9223372036854775804<(LH N).size):=ω
 have T:¬(9223372036854775802<(LH N).size):=ω
 clear b;have t:Hid (XN d.x ⟨K,g,s,i⟩=(if k.up=true then ⟨#[117,112,32]⟩ else ⟨#[100,111,119,110,32]⟩)++LH N):=Y (by rw[HN.j,U.j];rfl);rw[t.j,<-U.j]at HX;simp only at e
 cases hup:k.up with
 | true =>
  rw[hup]at e HX;go_wp2_with fail;refine(n.j _).J ?_;rintro r x ⟨rfl,b⟩;have j:=Y b;clear b e l5 x0 lx;go_wp2;refine AE (v:=yQ (⟨#[117,112,32]⟩++LH N)) (by simp[results,results33,go_sem]) rfl ?_;rw[HX.j];exact R2 p.j.1 p.j.2 j.j _
 | false =>
  rw[hup]at e HX;go_wp2_with fail;refine(n.j _).J ?_;rintro r x ⟨rfl,b⟩;have j:=Y b;clear b e l5 x0 lx;go_wp2;refine AE (v:=yQ (⟨#[100,111,119,110,32]⟩++LH N)) (by simp[results,results33,go_sem]) rfl ?_;rw[HX.j];exact R2 p.j.1 p.j.2 j.j _
end
section
open _root_.Go.Proofs.Tryz
open Go.RowKit Go.Proofs.YtkdedmclofhndaaGreatDoor.nw
theorem U4{b:UInt8}{s t:yZ}(h:MB b s=[t]):t=s:=by
 by_cases a:b∈s.data.toList
 ·obtain⟨p,q,e,c⟩:=List.eq_append_cons_of_mem a
  exfalso;unfold MB at h;rw[e,nf q c,FU]at h;have:=BC List.length h;simp at this;exact my b q this
 unfold MB at h
 rw[nu a]at h;simp only[FU,JN,List.cons.injEq,and_true]at h;rw[<-h]
section
variable {d:Dk} {s f:yZ} {us:List yZ}
theorem Xp(b:MB 32 s=f::us)(a:Qs (MB 32 s)=false):Oy d s=Pk d f us:=by
 unfold Oy;rw[AF (by rw[a];simp),b];rfl
theorem X8(a:MB 32 s=f::us){t:yZ}(e:¬s=t):¬(f=t/\us.length=0):=λ⟨b,c⟩=>by
 rw[AD c,b]at a;exact e (U4 a).symm
theorem Xb(h:us.length=2):Pk d wPut us=Sm false d (wPut::us):=by
 match us,h with
 | [k,v],_ =>
  unfold Pk;rw[AI rfl];unfold Q8 Sm Vt Vu QX PD
  cases MU k<;>cases MU v<;>simp
theorem W7(h:us.length=1):Pk d wDel us=Sm true d (wDel::us):=by
 match us,h with
 | [k],_ =>
  unfold Pk;rw[AF δ,AI rfl];unfold Q6 Sm Vt Vu QX PD;simp;rfl
theorem Xa(h:us.length=1):Pk d Rk us=(d,if (MU (us.getD 0 empty)).isSome=true then Rg d.x ((MU (us.getD 0 empty)).getD empty) else O0):=by
 match us,h with
 | [k],_ =>
  unfold Pk;rw[AF δ,AF δ,AI rfl];unfold Rh QX PD;simp
  split<;>rfl
theorem Vd:Oy d P6=(d,Q1 d.x):=rfl
theorem Wa:Oy d Qv=(d,Q3 d.x):=rfl
structure LnR(f:yZ)(us:List yZ):Prop where
 h1:¬(f=wPut/\us.length=2)
 h2:¬(f=wDel/\us.length=1)
 h3:¬(f=Rk/\us.length=1)
 h4:¬(f=P6/\us.length=0)
 h5:¬(f=Qv/\us.length=0)
theorem V9(h:LnR f us):Pk d f us=if MZ us=true then (if f=Qn then (⟨d.x.doR ⟨5,[],0,OZ us⟩,d.b⟩,Qd) else if f=Ql/\us.length=2 then Qb d us else if Ry f=0 then (d,O0) else Xj (Ry f) d (OZ us)) else (d,O0):=by
 have b:∀k,Pp k d us=if MZ us=true then Xj k d (OZ us) else (d,O0):=λk=>rfl
 by_cases l:f=wPut
 ·subst l
  have e:Pk d wPut us=Q8 d us:=rfl;rw[e];unfold Q8;rw[AF (λk=>h.h1 ⟨rfl,k.2⟩)]
  split<;>rfl
 by_cases m:f=wDel
 ·subst m
  have e:Pk d wDel us=Q6 d us:=rfl;rw[e];unfold Q6;rw[AF (λk=>h.h2 ⟨rfl,k.2⟩)]
  split<;>rfl
 by_cases k3:f=Rk
 ·subst k3
  have e:Pk d Rk us=Rh d us:=rfl;rw[e];unfold Rh;rw[AF (λk=>h.h3 ⟨rfl,k.2⟩)]
  split<;>rfl
 by_cases n:f=P6
 ·subst n
  have e:Pk d P6 us=Rf d us:=rfl;rw[e];unfold Rf;rw[AF (λk=>h.h4 ⟨rfl,k⟩)]
  split<;>rfl
 by_cases o:f=Qv
 ·subst o
  have e:Pk d Qv us=Ri d us:=rfl;rw[e];unfold Ri;rw[AF (λk=>h.h5 ⟨rfl,k⟩)]
  split<;>rfl
 by_cases c:f=Qn
 ·subst c
  rfl
 by_cases i:f=Ql
 ·subst i
  have e:Pk d Ql us=Qb d us:=rfl;rw[e]
  by_cases a:MZ us=true
  ·rw[AI a,AF c]
   by_cases g:us.length=2
   ·rw[AI ⟨rfl,g⟩]
   rw[AF (λk=>g k.2)];unfold Qb;rw[AF (λe=>g e.2)];rfl
  rw[AF a];unfold Qb;rw[AF (λe=>a e.1)]
 by_cases a:MZ us=true
 rotate_left
 ·rw[AF a]
  unfold Pk;rw[AF l,AF m,AF k3,AF n,AF o,AF c,AF i,b,b,b,b,AF a,AF a,AF a,AF a]
  split<;>(try rfl)
  split<;>(try rfl)
  split<;>(try rfl)
  split<;>rfl
 rw[AI a,AF c,AF (λk=>i k.1)]
 have b:∀k,Pp k d us=Xj k d (OZ us):=λk=>by rw[b,AI a]
 unfold Pk Ry;rw[AF l,AF m,AF k3,AF n,AF o,AF c,AF i]
 by_cases j:f=Re
 ·rw[AI j,AI j,AF δ];exact b 1
 rw[AF j,AF j]
 by_cases k:f=P2
 ·rw[AI k,AI k,AF δ];exact b 2
 rw[AF k,AF k]
 by_cases e:f=Qm
 ·rw[AI e,AI e,AF δ];exact b 3
 rw[AF e,AF e]
 by_cases g:f=Ps
 ·rw[AI g,AI g,AF δ];exact b 4
 rw[AF g,AF g,AI rfl]
end
end
section
open _root_.Go.Proofs.Tryz
open Go.RowKit Go.Proofs.YtkdedmclofhndaaGreatDoor.nw
theorem Vb(d:Dk)(B:Nat)(G:Nat->Prop)(q:Wp)(a:xA)(c:Nat)(w:xV)(h:DkN w B d G q a c)(O:LW d.x=true):Calls prog 27 #[zW B 0] w λr g=>r=yT (yQ (Q1 d.x))/\yX w g:=by
 have m:=Y h;have lB:=h.r.lt;have D:=Y (O2 O);clear h O;have j:=Y (λg (k:DkN g B d G q a c)=>pH d.x q g k.m.q D.j);have J:=Y (λg (k:DkN g B d G q a c)=>Dh d.x q g k.m.q D.j);have I:=Y (λg (k:DkN g B d G q a c)=>Nn d.x q g k.m.q D.j);have t:=Y (λ(n:Nat) (W:n<10 ^ 9) g=>gx 9 n g W δ);have V:=jm d.x;have i:=U7 d.x;obtain⟨C,b⟩:∃C:Nat,(NP d.x).2=(C:Int):=⟨(NP d.x).2.toNat,ω⟩;obtain⟨L,e⟩:∃L:Nat,(NP d.x).1.length=L:=⟨_,rfl⟩;have s:Hid (Sb d.x=LH C++⟨#[32,112,97,105,114,115,32]⟩++LH L++(if RZ d.x=true then ⟨#[32,114,105,103,104,116]⟩ else ⟨#[32,119,114,111,110,103]⟩)):=Y (by unfold Sb;rw[b,e];rfl);rw[b]at i;rw[e]at V;have l:(LH C).size<=9:=Pl ω;have o:(LH L).size<=9:=Pl ω;have f:=Y (AG b e);have aZ:=i.2;have zk:¬(9223372036854775807<(LH C).size+7):=ω
 have Q:¬(9223372036854775800<(LH C).size):=ω
 have R:¬(9223372036854775807<(LH C).size+7+(LH L).size):=ω
 have S:¬(9223372036854775807<(LH C).size+7+(LH L).size+6):=ω
 have N:=Y (AG l o);clear l o b e i;go_enter func27,ntmps27;go_upto_region 1 with fail;refine AV ?_;refine vl (zW B 0) (vl (zW B 0) (vl (zW B 0) (Rb m.j ?_)));simp only[PS];go_wp2_with fail;refine(j.j w m.j).J ?_;rintro r P ⟨z,A,rfl,-,-,-,b⟩;rw[f.j.1,f.j.2];unfold LR;clear j f;go_upto_region 2 with fail;generalize p:P.alloc _=y;obtain⟨e,j,i⟩:=LK p;have l:=i.q;have f:=b.E (e.J b.size);clear p b i j e;have j:=(AB y.heap.size y).drew;have b:=l.I j;have e:=f.E (j.J f.size);obtain⟨X,i⟩:∃X,X=P.heap.size:=⟨_,rfl⟩;rw[<-i]at b⊢;clear j l f i;refine AN (S:=λg=>Row g X [yI z L A]) κ (b) (λj=>?_);refine TK 0 (Z (C:Int)) rfl (AS ⟨ρ,λw f=>γ⟩) j (TK 3 (zW X 0) rfl (AS ⟨ρ,λw f=>by have l:=f.lt;go_simp⟩) j (TK 4 (yI z L A) rfl (AS ⟨ρ,λw f=>by have T:=f.y 0;go_simp⟩) j (TK 5 (Z (L:Int)) rfl (AS ⟨ρ,λw f=>γ⟩) j ?_)))
 simp only[PS];refine RD 1 rfl (λu i=>?_);generalize p:y.drew=y1 at b e⊢;clear p;refine LI ρ _ _ γ (t.j C ω y1) ?_;rintro r y2 ⟨rfl,p⟩;refine⟨_,rfl,?_⟩;replace b:=b.I p;replace e:=e.E (p.J e.size);clear p;refine i.j _ _ (b) (λE=>?_)
 try simp only[PS]
 refine TK 2 (yQ (LH C++⟨#[32,112,97,105,114,115,32]⟩)) rfl (AS ⟨ρ,λw f=>γ⟩) E ?_;simp only[PS];refine RD 6 rfl (λu i=>?_);refine LI ρ _ _ γ (t.j L ω y2) ?_;rintro r y3 ⟨rfl,p⟩;refine⟨_,rfl,?_⟩;replace b:=b.I p;replace e:=e.E (p.J e.size);clear p;refine i.j _ _ (b) (λo=>?_)
 try simp only[PS]
 refine TK 7 (yQ (LH C++⟨#[32,112,97,105,114,115,32]⟩++LH L)) rfl (AS ⟨ρ,λw f=>γ⟩) o (TK 8 (yQ (LH C++⟨#[32,112,97,105,114,115,32]⟩++LH L++⟨#[32,119,114,111,110,103]⟩)) rfl (AS ⟨ρ,λw f=>γ⟩) o ?_);simp only[PS];refine RD 9 rfl (λu i=>?_);go_simp;refine i.j _ _ o (λ_=>?_)
 try simp only[PS]
 refine DN ?_;clear j;have j:=Y e;have K:=Y b;clear e b;go_upto_region 3 with fail;refine AV ?_;have p:=(m.j.I j.j).r.lt;refine vl (zW B 0) (vl (zW B 0) (vl (zW B 0) (Rb (m.j.I j.j) ?_)));simp only[PS];go_wp2_with fail;refine(J.j _ (m.j.I j.j)).J ?_;rintro r H ⟨rfl,b⟩;have v:=Y (j.j.E (b.J j.j.size));have F:=Y (K.j.I b);obtain⟨x,e⟩:∃x,RZ d.x=x:=⟨_,rfl⟩;rw[e]at s⊢;obtain⟨U,M⟩:∃U,Hid (U=Sb d.x):=⟨_,Y rfl⟩;rw[<-M.j]at s;clear e J j b p K;go_upto_if 27 with fail;go_cut [5] from 28 to 36 (λb e=>b=yQ U/\yX w e)
 case first =>
  cases x with
  | true =>
   go_upto_region 4 with fail;have j:=(AB H.heap.size H).drew;have b:=F.j.I j;have e:=v.j.E (j.J v.j.size);clear j F;refine AN (S:=λg=>Row g X [yI z L A]) κ (b) (λj=>?_);refine TK 0 (Z (C:Int)) rfl (AS ⟨ρ,λw f=>γ⟩) j (TK 3 (zW X 0) rfl (AS ⟨ρ,λw f=>by have l:=f.lt;go_simp⟩) j (TK 4 (yI z L A) rfl (AS ⟨ρ,λw f=>by have T:=f.y 0;go_simp⟩) j (TK 5 (Z (L:Int)) rfl (AS ⟨ρ,λw f=>γ⟩) j ?_)));simp only[PS];refine RD 1 rfl (λu i=>?_);generalize p:H.drew=u1 at b e⊢;clear p;refine LI ρ _ _ γ (t.j C ω u1) ?_;rintro r u2 ⟨rfl,p⟩;refine⟨_,rfl,?_⟩;replace b:=b.I p;replace e:=e.E (p.J e.size);clear p;refine i.j _ _ (b) (λE=>?_)
   try simp only[PS]
   refine TK 2 (yQ (LH C++⟨#[32,112,97,105,114,115,32]⟩)) rfl (AS ⟨ρ,λw f=>γ⟩) E ?_;simp only[PS];refine RD 6 rfl (λu i=>?_);refine LI ρ _ _ γ (t.j L ω u2) ?_;rintro r u3 ⟨rfl,p⟩;refine⟨_,rfl,?_⟩;replace b:=b.I p;replace e:=e.E (p.J e.size);clear p;refine i.j _ _ (b) (λo=>?_)
   try simp only[PS]
   refine TK 7 (yQ (LH C++⟨#[32,112,97,105,114,115,32]⟩++LH L)) rfl (AS ⟨ρ,λw f=>γ⟩) o (TK 8 (yQ (LH C++⟨#[32,112,97,105,114,115,32]⟩++LH L++⟨#[32,114,105,103,104,116]⟩)) rfl (AS ⟨ρ,λw f=>γ⟩) o ?_);simp only[PS];refine RD 9 rfl (λu i=>?_);go_simp;refine i.j _ _ o (λ_=>?_)
   try simp only[PS]
   refine DN ?_;go_wp2_with fail;go_meet;exact⟨by rw[s.j];rfl,e⟩
  | false =>
   go_wp2;go_meet;exact⟨by rw[s.j];rfl,v.j⟩
 case rest =>
  obtain⟨rfl,e⟩:=hcut;have b:=Y e
  have J:U.size<=36:=by rw[s.j];simp only[BW];have:=N.j;cases x<;>(show _+7+_+6<=36;omega)
  clear e v F s zk Q R S t N;go_upto_region 5 with fail;refine AV ?_;have p:=(m.j.I b.j).r.lt;refine vl (zW B 0) (vl (zW B 0) (vl (zW B 0) (Rb (m.j.I b.j) ?_)));simp only[PS];go_wp2_with fail;refine(I.j _ (m.j.I b.j)).J ?_;rintro r v ⟨rfl,t⟩;have s:=Y (b.j.E (t.J b.j.size));obtain⟨j,e⟩:∃g,g=UE d.x:=⟨_,rfl⟩;have f:Hid (Q1 d.x=if j.size=0 then U else U++⟨#[32,102,111,114,103,101,100]⟩):=Y (by rw[e,M.j];rfl);rw[<-e];clear e t b I p;have F:¬(9223372036854775807<U.size+7):=ω
  have t:¬(9223372036854775800<U.size):=ω
  by_cases b:j=⟨([]:List UInt8).toArray⟩
  ·have p:=Pc (l:=[]) b
   have g:Hid (Q1 d.x=U):=Y (by rw[f.j,AI (by rw[b];rfl)]);clear b f;go_wp2;refine AE (v:=yQ U) (by simp[results,results27,go_sem]) rfl ?_;rw[g.j];exact⟨rfl,s.j⟩
  have p:=O7 (l:=[]) b
  have g:Hid (Q1 d.x=U++⟨#[32,102,111,114,103,101,100]⟩):=Y (by rw[f.j,AF (λe=>b (TE (by rw[show j.data=#[] from EU e])))]);clear b f;go_wp2;refine AE (v:=yQ (U++⟨#[32,102,111,114,103,101,100]⟩)) (by simp[results,results27,go_sem]) rfl ?_;rw[g.j];exact⟨rfl,s.j⟩
end
section
open _root_.Go.Proofs.Tryz
open Go.RowKit Go.Proofs.YtkdedmclofhndaaGreatDoor.nw
theorem Xn(d:Dk)(B:Nat)(G:Nat->Prop)(q:Wp)(a:xA)(c:Nat)(w:xV)(h:DkN w B d G q a c)(E:LW d.x=true)(s:yZ)(N:s.size<=30000):Calls prog 26 #[zW B 0,yQ s] w λr i=>r=yT (yQ (if (MU s).isSome=true then Rg d.x ((MU s).getD empty) else O0))/\yX w i:=by
 have u:=Y (yp s w N);have O:=Y h;have n:=Y (gy E).2.2;have j:=Y (O2 E);clear h E N;obtain⟨g,f⟩:∃t,t=(MU s).getD empty:=⟨_,rfl⟩;obtain⟨R,e⟩:∃b,b=(MU s).isSome:=⟨_,rfl⟩;rw[<-f,<-e]at u⊢;clear f e
 cases R with
 | false =>
  go_enter func26,ntmps26;go_wp2_with fail;refine u.j.J ?_;rintro r y ⟨rfl,k⟩;have b:=Y k;clear k;go_wp2;refine AE (v:=yQ O0) (by simp[results,results26,go_sem]) rfl ?_;exact⟨rfl,b.j⟩
 | true =>
  obtain⟨m,l⟩:∃m,d.x.P.length=m+1:=⟨d.x.P.length-1,by have:=n.j;omega⟩;have y:=GA (l:=d.x.P) (n:=m) ω;obtain⟨f,t⟩:∃f,f=d.x.P.getD m []:=⟨_,rfl⟩;have z:f∈d.x.P:=by rw[t,show d.x.P.getD m []=d.x.P[m]' ω by simp[List.getD,show m<d.x.P.length by omega]];exact y
  have o:Hid (Rg d.x g=if (Pe f g).isSome=true then SR ((Pe f g).getD ⟨#[]⟩) else ⟨#[110,111,110,101]⟩):=Y (by unfold Rg;rw[l,t];rfl);have L:=Y (j.j.s4 f z);have x:Hid (((Pe f g).getD ⟨#[]⟩).size<=30000):=Y (by cases e:Pe f g with|none=>exact AL _|some v=>have:=Sp e;show v.size<=30000;omega);have I:=Y (λi=>Dv ((Pe f g).getD ⟨#[]⟩) i x.j);have H:=Y (λp c i k=>X6 p f c g i k L.j.1 L.j.2);obtain⟨V,b⟩:∃V,V=(Pe f g).getD ⟨#[]⟩:=⟨_,rfl⟩;obtain⟨S,k⟩:∃S,S=(Pe f g).isSome:=⟨_,rfl⟩;rw[<-b,<-k]at H o;rw[<-b]at I;have Q:(m:Int)<(m:Int)+1:=ω
  have P:(0:Int)<=(m:Int):=ω
  have T:IntKind.i64.wrap (m:Int)=(m:Int):=eh _ ω (by have:=j.j.l4;omega);have p:=Y l;clear y z x b k n j l;go_enter func26,ntmps26;go_wp2_with fail;refine u.j.J ?_;rintro r y ⟨rfl,k⟩;have n:=O.j.I k;obtain⟨j,l,F,pc,M,C,A,D⟩:=n.m.q.h4.at (k:=m) (by rw[p.j];omega);have x:=n.r.y 14;rw[p.j,M]at x;rw[<-t]at A D;have b:=(AB y.heap.size y).drew;have J:=Y (AG ((b.cell (p:=(yA B 14)) n.r.lt).E x) (AG (AC n.r.lt b.size) (AG ((b.cell (p:=(yA j (l+m))) C).E A) (AC C b.size))));have z:=Y (D.j.I b);have K:=Y (k.E (b.J k.size));clear u k n x A D b t M C p;go_upto_region 4 with fail;obtain⟨x,t,u,p⟩:=J.j;have k:=K.j;clear J K;refine AN (S:=λi=>i.cell? (yA B 14)=some (yI (zY j l) (m+1) q.cp)/\B<i.heap.size/\i.cell? (yA j (l+m))=some (yI F f.length pc)/\j<i.heap.size) κ (⟨x,t,u,p⟩) (λb=>?_)
  refine TY 0 (zW B 0) rfl b (TY 1 (zW B 0) rfl b (TY 2 (zW B 0) rfl b (TY 3 (zW B 14) rfl b (TY 4 (yI (zY j l) (m+1) q.cp) rfl b (TY 5 (zW B 0) rfl b (TY 6 (zW B 0) rfl b (TY 7 (zW B 0) rfl b (TY 8 (zW B 14) rfl b (TY 9 (yI (zY j l) (m+1) q.cp) rfl b (TY 10 (Z ((m:Int)+1)) rfl b (TY 11 (Z (m:Int)) rfl b ?_)))))))))));simp only[PS];refine TY 12 (zW j (l+m)) rfl b (TY 13 (.agg #[yI F f.length pc]) rfl b (TY 14 (yQ g) rfl b ?_));simp only[PS];refine RD 15 rfl (λA n=>?_);generalize i:y.drew=M at x t u p z k⊢;clear i;refine LI ρ _ _ γ (H.j F pc M z.j) ?_;rintro r U ⟨rfl,i⟩;refine⟨_,rfl,?_⟩;have C:=(i.cell (p:=(yA B 14)) t).E x
  have D:=AC t i.size;have J:=(i.cell (p:=(yA j (l+m))) p).E u;have K:=AC p i.size;replace k:=k.E (i.J k.size);clear i z u p x t;refine n.j _ _ (⟨C,D,J,K⟩) (λi=>?_)
  try simp only[PS]
  refine TY 16 (.tuple #[yQ V,yR S]) rfl i (TY 17 (yQ V) rfl i (TY 18 (yR S) rfl i ?_));simp only[PS];refine RD 19 rfl (λA n=>?_);go_simp;refine n.j _ _ i (λ_=>?_)
  try simp only[PS]
  refine RD 20 rfl (λA n=>?_);go_simp;refine n.j _ _ i (λ_=>?_)
  try simp only[PS]
  refine DN ?_;clear b C D J K;have b:=Y k;clear k Q P
  cases S with
  | true =>
   rw[AI rfl]at o;go_wp2_with fail;refine(I.j _).J ?_;rintro r t ⟨rfl,k⟩;have p:=Y (b.j.E (k.J b.j.size));clear k;go_wp2;refine AE (v:=yQ (SR V)) (by simp[results,results26,go_sem]) rfl ?_;exact⟨by rw[<-o.j],p.j⟩
  | false =>
   rw[AF σ]at o;go_wp2;refine AE (v:=yQ ⟨#[110,111,110,101]⟩) (by simp[results,results26,go_sem]) rfl ?_;exact⟨by rw[<-o.j],b.j⟩
end
section
open _root_.Go.Proofs.Tryz
open Go.RowKit Go.Proofs.YtkdedmclofhndaaGreatDoor.nw
theorem Ve{w e f:xV}{B:Nat}{G:Nat->Prop}{r:Ending}{p:Dk×yZ}(d:yX w e)(h:Qw e f B G r p):Qw w f B G r p:=by
 obtain⟨g,⟨q,a,c,i⟩,j⟩:=h;exact⟨g,⟨q,a,c,i.J (λb l k=>k.imp_right (λk=>⟨AJ d.size k.1,k.2⟩))⟩,(Ov d).E j (λb _ k=>k)⟩
theorem Xo(s:yZ)(d:Dk)(B:Nat)(G:Nat->Prop)(q:Wp)(a:xA)(c:Nat)(w:xV)(h:DkN w B d G q a c)(ho:d.ok 1000)(hG:∀b,G b->b<w.heap.size)(hs:s.size<=20000):Calls prog 10 #[zW B 0,yQ s] w λr J=>Qw w J B G r (Oy d s):=by
 have i:=Y (show Calls prog 8 #[yQ s,.int .u8 32] w _ from mY s 32 w ω);have O:=Y h;have HO:=Y ho;have HG:=Y hG
 obtain⟨f,o,C⟩:∃f o,MB 32 s=f::o:=by
  match e:MB 32 s with
  | []=>have:=kg 32 s;rw[e]at this;simp at this
  | f::o=>exact⟨f,o,rfl⟩
 have HZ:Hid (∀t∈f::o,t.size<=30000):=Y (λt P=>by have:=jv (b:=32) (s:=s) (t:=t) (by rw[C];exact P);omega);have eJ:o.length<=20000:=by have:=ib 32 s;rw[C]at this;simp at this;omega
 have u:Hid (Qs (f::o)=false->Oy d s=Pk d f o):=Y (λk=>Xp C (by rw[C];exact k));have z:Hid (Qs (f::o)=true->Oy d s=(d,O0)):=Y (λk=>by unfold Oy;rw[AI (by rw[C];exact k)]);have X:Hid (∀t,¬s=t->¬(f=t/\o.length=0)):=Y (λt k=>X8 C k);rw[C]at i;clear C h ho hG;go_enter func10,ntmps10;go_wp2_with fail;refine i.j.J ?_;rintro r I ⟨v,rfl,j,l⟩;obtain⟨g,L,cur,e1,cO,-,m,-⟩:=j.2.resolve_left (λk=>by have:=k.2;simp at this);subst e1;have x:=RJ j;have Q:=Y l;have aU:=Y x;have dZ:o.length+1<=L:=m;have lg:=x.lt;have e:=O.j.I l;have aN:=Y e;have lB:=e.r.lt;clear i j l x e cO m;simp only[BJ];go_wp2_with fail;go_loopw [6] (λi wr=>∃k:Nat,k<=o.length+1/\i=Z (k:Int)/\Hid (∀j,j<k->((f::o).getD j empty).size≠0)/\wr=I) (λi _=>o.length+1-(intOf i).toNat)
 case atStart=>exact⟨0,AL _,rfl,Y (λj hj=>absurd hj ω),rfl⟩
 case round =>
  obtain⟨k,l,rfl,p,e⟩:=hrel;rw[e];clear e
  by_cases n:k<o.length+1
  ·obtain⟨t,P⟩:∃t,t=(f::o).getD k empty:=⟨_,rfl⟩
   have A:I.cell? (yA g k)=some (yQ t):=by rw[P];exact aU.j.cell k _ (by rw[FL,AO (by simpa using n)];simp[List.getD,n])
   have E:(k:Int)<(o.length:Int)+1:=ω
   have C:(0:Int)<=(k:Int):=ω
   by_cases m:t=⟨([]:List UInt8).toArray⟩
   ·have e1:=Pc (l:=[]) m
    have D:=Y (z.j (by unfold Qs;rw[List.any_eq_true];exact⟨t,by rw[P];simp[List.getD,n],by rw[m];rfl⟩));clear m P;go_wp2;refine AE (v:=yQ O0) (by simp[results,results10,go_sem]) rfl ?_;rw[D.j];exact Pu O.j Q.j _
   have e1:=O7 (l:=[]) m
   have x:Hid (((f::o).getD k empty).size≠0):=Y (λe=>m (TE (by rw[P,show((f::o).getD k empty).data=#[] from EU e])));clear m P;go_wp2;exact⟨⟨k+1,ω,ν,Y (λj hj=>by by_cases e:j=k;subst e;exact x.j;exact p.j j ω),trivial⟩,by simp[intOf];omega⟩
  obtain rfl:k=o.length+1:=ω
  have D:=Y (u.j (by
   unfold Qs;rw[List.any_eq_false];intro t P;obtain⟨j,hj,rfl⟩:=EL P;have:=p.j j (by simpa using hj);simp only[List.getD,AO hj,GC]at this
   simpa using this))
  clear p l n u z;have c0:=aU.j.y 0;have cY:Hid (Strs I (zY g 0) (f::o)):=Y (.inr ⟨g,0,rfl,lg,λi N=>by rw[BK];exact aU.j.cell i _ (by rw[FL,AO N];simp[List.getD,AO N])⟩);have eH:(0:Int)<(o.length:Int)+1:=ω
  go_upto_region 7 with fail;obtain⟨C1,n⟩:∃C,Hid (C=decide ((f=wPut/\o.length=2)\/(f=wDel/\o.length=1))):=⟨_,Y rfl⟩;go_cut [43] from 24 to 43 (λT R=>T=yR C1/\R=I)
  case first =>
   by_cases m:f=wPut
   ·have e1:=Pc (l:=[112,117,116]) m
    have p:¬f=wDel:=λe=>by rw[m]at e;exact absurd e δ
    have e2:=O7 (l:=[100,101,108]) p
    by_cases A:o.length=2
    ·have e3:((o.length:Int)+1 == 3)=true:=by rw[A];rfl
     have l:=n.j;rw[AM (AS ⟨m,A⟩)]at l;clear m p A;go_wp2;go_meet;exact⟨by rw[l],rfl⟩
    have e3:((o.length:Int)+1 == 3)=false:=BI.2 ω
    have l:=n.j;rw[AH (λk=>by rcases k with k|k;exact A k.2;exact p k.1)]at l;clear m p A;go_wp2;go_meet;exact⟨by rw[l],rfl⟩
   have e1:=O7 (l:=[112,117,116]) m
   by_cases M:f=wDel
   ·have e2:=Pc (l:=[100,101,108]) M
    by_cases A:o.length=1
    ·have e3:((o.length:Int)+1 == 2)=true:=by rw[A];rfl
     have l:=n.j;rw[AM (IS ⟨M,A⟩)]at l;clear m M A;go_wp2;go_meet;exact⟨by rw[l],rfl⟩
    have e3:((o.length:Int)+1 == 2)=false:=BI.2 ω
    have l:=n.j;rw[AH (λk=>by rcases k with k|k;exact m k.1;exact A k.2)]at l;clear m M A;go_wp2;go_meet;exact⟨by rw[l],rfl⟩
   have e2:=O7 (l:=[100,101,108]) M
   have l:=n.j;rw[AH (λk=>by rcases k with k|k;exact m k.1;exact M k.1)]at l;clear m M;go_wp2;go_meet;exact⟨by rw[l],rfl⟩
  case rest =>
  obtain⟨rfl,l⟩:=hcut;rw[l];clear l;rw[n.j];clear n
  by_cases n:(f=wPut/\o.length=2)\/(f=wDel/\o.length=1)
  ·rw[AM n]
   obtain⟨u,l,p,z⟩:∃u,(f::o).length=(if u=true then 2 else 3)/\((f::o).getD 0 empty=wDel<->u=true)/\Pk d f o=Sm u d (f::o):=by
    rcases n with ⟨m,M⟩|⟨m,M⟩
    ·subst m;exact⟨false,by simp[M],⟨λe=>absurd (show wPut=wDel from e) δ,λe=>by cases e⟩,Xb M⟩
    subst m;exact⟨true,by simp[M],⟨λ_=>rfl,λ_=>rfl⟩,W7 M⟩
   have E:=Y (show Calls prog 25 #[zW B 0,yI (zY g 0) (o.length+1) L] I _ from Uj u d B G q a c (zY g 0) (f::o) L I aN.j HO.j.l cY.j l p HZ.j);rw[z]at D;clear n l p z;go_wp2_with fail;refine E.j.J ?_;intro r w2 l;obtain⟨rfl,-⟩:=id l;have x:=Y l;obtain⟨p,m⟩:∃p,p=Sm u d (f::o):=⟨_,rfl⟩;rw[<-m]at D x⊢;clear E l m;go_wp2;refine AE (v:=yQ p.2) (by simp[results,results10,go_sem]) rfl ?_;rw[D.j];exact Ve Q.j x.j
  rw[AH n];have W:=Y n;clear n;go_upto_region 9 with fail;obtain⟨C2,e⟩:∃C,Hid (C=decide (f=Rk/\o.length=1)):=⟨_,Y rfl⟩;go_cut [55] from 47 to 55 (λT R=>T=yR C2/\R=I)
  case first =>
   by_cases m:f=Rk
   ·have e1:=Pc (l:=[103,101,116]) m
    by_cases A:o.length=1
    ·have e3:((o.length:Int)+1 == 2)=true:=by rw[A];rfl
     have l:=e.j;rw[AM (AG m A)]at l;clear m A;go_wp2;go_meet;exact⟨by rw[l],rfl⟩
    have e3:((o.length:Int)+1 == 2)=false:=BI.2 ω
    have l:=e.j;rw[AH (λk=>A k.2)]at l;clear m A;go_wp2;go_meet;exact⟨by rw[l],rfl⟩
   have e1:=O7 (l:=[103,101,116]) m
   have l:=e.j;rw[AH (λk=>m k.1)]at l;clear m;go_wp2;go_meet;exact⟨by rw[l],rfl⟩
  case rest =>
  obtain⟨rfl,l⟩:=hcut;rw[l,e.j];clear l e
  by_cases e:f=Rk/\o.length=1
  ·rw[AM e]
   have n:=Y (Xn d B G q a c I aN.j HO.j.w (o.getD 0 empty) (Sq (λt P=>HZ.j t (DJ _ P)) 0));have p:Hid (Oy d s=(d,if (MU (o.getD 0 empty)).isSome=true then Rg d.x ((MU (o.getD 0 empty)).getD empty) else O0)):=Y (by rw[D.j,e.1,Xa e.2]);have u:I.cell? (yA g 1)=some (yQ (o.getD 0 empty)):=aU.j.cell 1 _ (by match o,e.2 with | [x],_=>rfl);have z:(1:Int)<(o.length:Int)+1:=ω
   obtain⟨m,l⟩:∃x,x=(if (MU (o.getD 0 empty)).isSome=true then Rg d.x ((MU (o.getD 0 empty)).getD empty) else O0):=⟨_,rfl⟩;rw[<-l]at n p;clear e l;go_wp2_with fail;refine n.j.J ?_;rintro r w2 ⟨rfl,S⟩;have V:=Y (Q.j.E (S.J Q.j.size));clear n S;go_wp2;refine AE (v:=yQ m) (by simp[results,results10,go_sem]) rfl ?_;rw[p.j];exact Pu O.j V.j _
  rw[AH e];have cC:=Y e;clear e
  by_cases hF:s=P6
  ·have e1:=Pc (l:=[102,111,117,110,100]) hF
   have p:Hid (Oy d s=(d,Q1 d.x)):=Y (by rw[hF];exact Vd);have e:=Y (Vb d B G q a c I aN.j HO.j.w);obtain⟨m,l⟩:∃x,x=Q1 d.x:=⟨_,rfl⟩;rw[<-l]at e p;clear hF l;go_wp2_with fail;refine e.j.J ?_;rintro r w2 ⟨rfl,S⟩;have V:=Y (Q.j.E (S.J Q.j.size));clear e S;go_wp2;refine AE (v:=yQ m) (by simp[results,results10,go_sem]) rfl ?_;rw[p.j];exact Pu O.j V.j _
  have e1:=O7 (l:=[102,111,117,110,100]) hF
  by_cases A:s=Qv
  ·have e2:=Pc (l:=[114,111,111,109]) A
   have p:Hid (Oy d s=(d,Q3 d.x)):=Y (by rw[A];exact Wa);clear hF A;have H:=aN.j.r.y 3
   cases hup:d.x.up with
   | false =>
    have S:Hid (Q3 d.x=Qd):=Y (by unfold Q3;rw[hup];rfl);rw[hup]at H;clear hup;go_wp2;refine AE (v:=yQ Qd) (by simp[results,results10,go_sem]) rfl ?_;rw[p.j,S.j];exact Pu O.j Q.j _
   | true =>
    rw[hup]at H;obtain⟨hU,hS,M⟩:=Vi HO.j.w hup;obtain⟨u,z⟩:∃u:Nat,d.x.U=(u:Int):=⟨d.x.U.toNat,ω⟩;obtain⟨m,e⟩:∃m:Nat,hv d.x.S=(m:Int):=⟨(hv d.x.S).toNat,ω⟩;have S:Hid (Q3 d.x=LH u++⟨#[32,111,102,32]⟩++LH m):=Y (by rw[M,z,e];rfl);rw[z]at hU;rw[e]at hS;have V:=Y (λ(n:Nat) (l:n<10 ^ 9) J=>gx 9 n J l δ);have E:=Y (λJ=>VU d.x.S J);rw[e]at E;have zu:(LH u).size<=9:=Pl ω;have U:(LH m).size<=9:=Pl ω;have zk:¬(9223372036854775807<(LH u).size+4):=ω
    have dQ:¬(9223372036854775803<(LH u).size):=ω
    have dR:¬(9223372036854775807<(LH u).size+4+(LH m).size):=ω
    have F:=aN.j.r.y 11;rw[z]at F;have K:=Y (AG F (AG (aN.j.r.y 5) lB));clear hup M e z zu U F;go_upto_region 16 with fail;have F:=(AB I.heap.size I).drew;have e:=AG ((F.cell (p:=(yA B 11)) K.j.2.2).E K.j.1) (AG ((F.cell (p:=(yA B 5)) K.j.2.2).E K.j.2.1) (AC K.j.2.2 F.size));have z:=Q.j.E (F.J Q.j.size);clear F H;refine AN (S:=λJ=>J.cell? (yA B 11)=some (Z (u:Int))/\J.cell? (yA B 5)=some (Z d.x.S)/\B<J.heap.size) κ (e) (λF=>?_);refine TY 0 (zW B 0) rfl F (TY 1 (zW B 0) rfl F (TY 2 (zW B 0) rfl F (TY 3 (zW B 4) rfl F (TY 4 (zW B 11) rfl F (TY 5 (Z (u:Int)) rfl F (TY 8 (zW B 0) rfl F (TY 9 (zW B 0) rfl F (TY 10 (zW B 0) rfl F (TY 11 (zW B 4) rfl F (TY 12 (zW B 5) rfl F (TY 13 (Z d.x.S) rfl F ?_)))))))))))
    simp only[PS];refine RD 6 rfl (λU H=>?_);generalize M:I.drew=y1 at e z⊢;clear M;refine LI ρ _ _ γ (V.j u ω y1) ?_;rintro r y2 ⟨rfl,M⟩;refine⟨_,rfl,?_⟩;replace e:=AG ((M.cell (p:=(yA B 11)) e.2.2).E e.1) (AG ((M.cell (p:=(yA B 5)) e.2.2).E e.2.1) (AC e.2.2 M.size));replace z:=z.E (M.J z.size);clear M;refine H.j _ _ (e) (λaP=>?_)
    try simp only[PS]
    refine TY 7 (yQ (LH u++⟨#[32,111,102,32]⟩)) rfl aP ?_;simp only[PS];refine RD 14 rfl (λU H=>?_);refine LI ρ _ _ γ (E.j y2) ?_;rintro r y3 ⟨rfl,rfl⟩;refine⟨_,rfl,?_⟩;refine H.j _ _ aP (λ_=>?_)
    try simp only[PS]
    refine RD 15 rfl (λU H=>?_);refine LI ρ _ _ γ (V.j m ω y3) ?_;rintro r y4 ⟨rfl,M⟩;refine⟨_,rfl,?_⟩;replace e:=AG ((M.cell (p:=(yA B 11)) e.2.2).E e.1) (AG ((M.cell (p:=(yA B 5)) e.2.2).E e.2.1) (AC e.2.2 M.size));replace z:=z.E (M.J z.size);clear M;refine H.j _ _ (e) (λM=>?_)
    try simp only[PS]
    refine TY 16 (yQ (LH u++⟨#[32,111,102,32]⟩++LH m)) rfl M ?_;simp only[PS];refine RD 17 rfl (λU H=>?_);go_simp;refine H.j _ _ M (λ_=>?_)
    try simp only[PS]
    refine DN ?_;clear F;have F:=Y z;clear z e zk dQ dR;go_wp2;refine AE (v:=yQ (LH u++⟨#[32,111,102,32]⟩++LH m)) (by simp[results,results10,go_sem]) rfl ?_;rw[p.j,S.j];exact Pu O.j F.j _
  have e2:=O7 (l:=[114,111,111,109]) A;have e:LnR f o:=⟨λk=>W.j (.inl k),λk=>W.j (.inr k),cC.j,X.j _ hF,X.j _ A⟩;rw[V9 e]at D;clear e W cC X hF A;obtain⟨PF,e⟩:∃p,(if L=1 then some ((yA g 0):Addr) else zY g 1)=p:=⟨_,rfl⟩
  have l:Strs I PF o:=by
   by_cases m:L=1
   ·exact .inl (AD ω)
   exact .inr ⟨g,1,by rw[<-e,AF m],lg,λi N=>by rw[Nat.add_comm];exact aU.j.cell (i+1) _ (by rw[FU,List.getElem?_cons_succ,FL,AO N];simp[List.getD,AO N])⟩
  have CN:=Y (Nk PF o (L-1) I l ω (λt P=>HZ.j t (DJ _ P)));have n:(1:Int)<=(o.length:Int)+1:=ω
  have m:(o.length:Int)+1<=(L:Int):=ω
  clear l;go_wp2_with fail;refine CN.j.J ?_;rintro r w2 ⟨v,rfl,i,S⟩;have V:=Y (Q.j.E (S.J Q.j.size));have eK:=AC lB S.size;have eL:=AC lg S.size;have dU:=(S.cell (p:=(yA g 0)) lg).E c0;have bT:=Y (aN.j.I S);clear CN n m e
  cases l:MZ o with
  | false =>
   rw[l]at D;rw[AF σ]at D;clear l i S;go_wp2;refine AE (v:=yQ O0) (by simp[results,results10,go_sem]) rfl ?_;rw[D.j];exact Pu O.j V.j _
  | true =>
  rw[l,AI rfl]at D;replace i:=i l;have m:=Qq o;obtain⟨N,bF⟩:∃N,N=OZ o:=⟨_,rfl⟩;have HD:Hid (Qb d o=if o.length=2 then (if nwOk (N.getD 0 0) (N.getD 1 0) then (⟨Qc (N.getD 0 0) (N.getD 1 0),d.b⟩,⟨#[111,107]⟩) else (d,⟨#[110,111]⟩)) else (d,O0)):=Y (by unfold Qb;rw[bF];by_cases A:o.length=2;rw[AI ⟨l,A⟩,AI A];rw[AF (λk=>A k.2),AF A]);rw[<-bF]at D i m;obtain⟨fa,fc,e⟩:=UX i;rw[<-m]at e i;subst e;have HN:=Y i;have HI:=Y (Tz rfl i)
  have n:∀b,(yI fa N.length fc).ownBlock=some b->¬G b:=λb k e=>by have:=(O1 i k).1;have:=HG.j b e;have:=Q.j.size;omega
  have cE:=Y n;have dL:N.length<=20000:=ω
  have bU:=Y m;clear l bF i n m
  by_cases z:f=Qn
  ·have e3:=Pc (l:=[112,111,119,101,114]) z
   rw[AI z]at D
   have l:=Y (Sw d.x q ⟨5,[],0,N⟩ none 0 fa fc w2 bT.j.m.q (O2 HO.j.w) (.inl rfl) HI.j ⟨⟨σ,λx i=>by cases i⟩,by simp only;omega⟩)
   clear z;go_upto_region 21 with fail;refine AV ?_;refine vl (zW B 0) (vl (zW B 0) (vl (zW B 0) (vl (zW B 0) (Rb bT.j ?_))));simp only[PS];go_wp2_with fail;refine l.j.J ?_;intro r M n;obtain⟨E,rfl,i,m,F,K⟩:=U5 O.j V.j n;clear n l
   try simp only[PS]
   refine‹∀(a:Act) (w:xV),wpList _ _ _ _ a w->_› _ _ ?_
   have n:=i.r.lt;refine vl (zW B 0) (vl (zW B 0) (T8 i (y:=d.x.doR ⟨5,[],0,N⟩) (q':=E) ?_));obtain⟨U,l⟩:∃u,u=M.setCells B 0 (MN (d.x.doR ⟨5,[],0,N⟩) E):=⟨_,rfl⟩;rw[<-l]at m F⊢;have H:=Y (AG m F);clear i m F l n
   try go_wp2
   refine AE (v:=yQ Qd) (by simp[results,results10,go_sem]) rfl ?_;rw[D.j];exact R2 H.j.1 H.j.2 (AB _ _) _
  have e3:=O7 (l:=[112,111,119,101,114]) z;rw[AF z]at D;clear z;go_upto_region 23 with fail;rw[bU.j];obtain⟨C3,K⟩:∃C,Hid (C=decide (f=Ql/\o.length=2)):=⟨_,Y rfl⟩;go_cut [120] from 112 to 120 (λT R=>T=yR C3/\R=w2)
  case first =>
   by_cases m:f=Ql
   ·have e1:=Pc (l:=[100,105,115,107]) m
    by_cases A:o.length=2
    ·have e3:((o.length:Int) == 2)=true:=by rw[A];rfl
     have l:=K.j;rw[AM (AG m A)]at l;clear m A;go_wp2;go_meet;exact⟨by rw[l],rfl⟩
    have e3:((o.length:Int) == 2)=false:=BI.2 ω
    have l:=K.j;rw[AH (λk=>A k.2)]at l;clear m A;go_wp2;go_meet;exact⟨by rw[l],rfl⟩
   have e1:=O7 (l:=[100,105,115,107]) m
   have l:=K.j;rw[AH (λk=>m k.1)]at l;clear m;go_wp2;go_meet;exact⟨by rw[l],rfl⟩
  case rest =>
  obtain⟨rfl,l⟩:=hcut;rw[l,K.j];clear l K
  by_cases K:f=Ql/\o.length=2
  ·rw[AM K]
   rw[AI K,HD.j,AI K.2]at D
   obtain⟨i,n,bF⟩:∃i n,N=[i,n]:=by
    match N,bU.j.E K.2 with
    | [x,y],_=>exact⟨x,y,rfl⟩
   subst bF;obtain⟨g2,cT,l,cO,eB,m⟩:=(MC HN.j).resolve_left (λk=>by have:=k.2;simp at this)
   obtain rfl:fa=zY g2 0:=by cases l;rfl
   have aV:=Y m;have CN:=Y (λJ=>show Calls prog 9 #[Z i,Z n] J λe I=>ft J I e (MX i n) from(nw_s i n J).J (λe I k=>T3 k));rw[K.2];clear l K m cE;go_upto_region 24 with fail;go_cut [9] from 121 to 127 (λl R=>∃X E,l=zW X 0/\Row R X (MN (MX i n) E)/\DepF R (λb=>w.heap.size<=b/\b<R.heap.size) (λW=>(MX i n).at W E)/\(MX i n).rs.length<=E.cs/\yX w R)
   case first =>
    have F:=(AB w2.heap.size w2).drew;have x:=aV.j.I F;have z:=V.j.E (F.J V.j.size);clear F aV;refine TU (8) (S:=λJ=>Row J g2 [Z i,Z n]) κ (x) (λF=>?_);refine LU 0 (yI (zY g2 0) 2 fc) rfl (AS ⟨ρ,λw C=>γ⟩) F (LU 1 (zW g2 0) rfl (AS ⟨ρ,λw C=>by have l:=C.lt;go_simp⟩) F (LU 2 (Z i) rfl (AS ⟨ρ,λw C=>by have c0:=C.y 0;go_simp⟩) F (LU 3 (yI (zY g2 0) 2 fc) rfl (AS ⟨ρ,λw C=>γ⟩) F (LU 4 (zW g2 1) rfl (AS ⟨ρ,λw C=>by have l:=C.lt;go_simp⟩) F (LU 5 (Z n) rfl (AS ⟨ρ,λw C=>by have c0:=C.y 1;go_simp⟩) F ?_)))));simp only[PS];refine PM (rs:=[6,7]) κ σ ?_;refine AllReadyT.cons rfl (λU H=>?_) (AllReadyT.cons rfl (λU H=>?_) AllReadyT.nil)
    ·generalize M:w2.drew=y0 at x z⊢
     clear M;have dM:=z.size;refine LI ρ _ _ γ (CN.j y0) ?_;rintro r W ⟨E,rfl,hW,cA,aM⟩;refine⟨_,rfl,?_⟩;have dN:=aM.size;replace x:=x.I aM;replace z:=z.E (aM.J z.size);refine H.j _ _ (x) (λaP=>?_)
     try simp only[PS]
     refine NK 7 rfl (λU H=>?_);go_simp;obtain⟨ya,m⟩:∃u,u=W.alloc (.cells #[Z 0,yI none 0 0,yI none 0 0,yR false,Z 0,Z 0,Z 0,Z 0,Z 0,Z 0,Z 0,Z 0,Z 0,yI none 0 0,yI none 0 0,yI none 0 0] 42):=⟨_,rfl⟩;rw[<-m];obtain⟨aS,zA,M⟩:=LK m.symm;have T:=M.q;replace x:=x.I aS;replace z:=z.E (aS.J z.size);replace hW:=hW.I aS;clear m M;refine H.j _ _ (x) (λcV=>?_)
     try simp only[PS]
     refine PM (rs:=[8]) κ σ ?_;refine AllReadyT.last rfl (λU H=>?_);refine SN rfl 42 _ _ rfl (W.heap.size) 0 (MN (MX i n) E).toArray rfl rfl (T.there rfl) MP κ ?_;have hs:=OU ya (W.heap.size) 0 (MN (MX i n) E);have bH:=T.sets (MN (MX i n) E) rfl;obtain⟨yz,R⟩:∃u,u=ya.setCells (W.heap.size) 0 (MN (MX i n) E):=⟨_,rfl⟩;rw[<-R]at hs bH;show U _ (ya.setCells (W.heap.size) 0 (MN (MX i n) E));rw[<-R];have dH:=z.size;have bY:=hW.V hs (λg e k=>by have m:=k.1;have M:=k.2;cases e;omega);have bW:=z.E (MF hs ω (λ_ e=>by cases e;omega));have zz:yz.heap.size=ya.heap.size:=by rw[R];exact SK _ _ _ _
     clear R;refine H.j _ _ trivial (λ_=>?_)
     try simp only[PS]
     refine SP κ ?_ _;go_wp2_with fail;go_meet;exact⟨W.heap.size,E,rfl,bH,bY.J (λb l k=>⟨by have m:=k.1;omega,l⟩),cA,bW⟩
    generalize M:w2.drew=y0 at x z⊢
    clear M;have dM:=z.size;go_simp;obtain⟨ya,m⟩:∃u,u=y0.alloc (.cells #[Z 0,yI none 0 0,yI none 0 0,yR false,Z 0,Z 0,Z 0,Z 0,Z 0,Z 0,Z 0,Z 0,Z 0,yI none 0 0,yI none 0 0,yI none 0 0] 42):=⟨_,rfl⟩;rw[<-m];obtain⟨aS,zA,M⟩:=LK m.symm;have T:=M.q;replace x:=x.I aS;replace z:=z.E (aS.J z.size);clear m M;refine H.j _ _ (x) (λcW=>?_)
    try simp only[PS]
    refine NK 6 rfl (λU H=>?_);refine LI ρ _ _ γ (CN.j ya) ?_;rintro r W ⟨E,rfl,hW,cA,aM⟩;refine⟨_,rfl,?_⟩;have dN:=aM.size;replace x:=x.I aM;replace z:=z.E (aM.J z.size);replace T:=T.I aM;refine H.j _ _ (x) (λcX=>?_)
    try simp only[PS]
    refine PM (rs:=[8]) κ σ ?_;refine AllReadyT.last rfl (λU H=>?_);refine SN rfl 42 _ _ rfl (y0.heap.size) 0 (MN (MX i n) E).toArray rfl rfl (T.there rfl) MP κ ?_;have hs:=OU W (y0.heap.size) 0 (MN (MX i n) E);have bH:=T.sets (MN (MX i n) E) rfl;obtain⟨yz,R⟩:∃u,u=W.setCells (y0.heap.size) 0 (MN (MX i n) E):=⟨_,rfl⟩;rw[<-R]at hs bH;show U _ (W.setCells (y0.heap.size) 0 (MN (MX i n) E));rw[<-R];have dH:=z.size;have bY:=hW.V hs (λg e k=>by have m:=k.1;have M:=k.2;cases e;omega);have bW:=z.E (MF hs ω (λ_ e=>by cases e;omega));have zz:yz.heap.size=W.heap.size:=by rw[R];exact SK _ _ _ _
    clear R;refine H.j _ _ trivial (λ_=>?_)
    try simp only[PS]
    refine SP κ ?_ _;go_wp2_with fail;go_meet;exact⟨y0.heap.size,E,rfl,bH,bY.J (λb l k=>⟨by have m:=k.1;omega,l⟩),cA,bW⟩
   case rest =>
    obtain⟨X,E,rfl,T,hW,-,l⟩:=hcut
    rename World=>w6
    have z:=Y T;have C:=Y hW;have M:=Y l;have x:=T.y 14;have W:=T.lt;have U:=(O.j.I l).r.lt;clear T hW l CN
    by_cases l:nwOk i n
    ·rw[AI (show nwOk ([i,n].getD 0 0) ([i,n].getD 1 0) from l)]at D
     have m:Hid (MX i n=Qc i n):=Y (by unfold MX;rw[AI l]);rw[m.j]at z C x;clear l m;simp only[Qc,BJ,AT]at x;go_upto_region 27 with fail;refine AV ?_;refine vl (zW B 0) (AZ rfl 42 _ rfl X 0 rfl _ _ z.j.range underlying42 rfl MP ?_);simp only[PS];refine vl (zW B 0) (vl (zW B 0) (T8 (O.j.I M.j) (y:=Qc i n) (q':=E) ?_));obtain⟨m,F⟩:=O.j.world M.j C.j;obtain⟨T,R⟩:∃u,u=w6.setCells B 0 (MN (Qc i n) E):=⟨_,rfl⟩;rw[<-R]at m F⊢;have H:=Y (AG m F);clear R m F z C M U x W
     try go_wp2
     refine AE (v:=yQ ⟨#[111,107]⟩) (by simp[results,results10,go_sem]) rfl ?_;rw[D.j];exact R2 H.j.1 H.j.2 (AB _ _) _
    rw[AF (show ¬nwOk ([i,n].getD 0 0) ([i,n].getD 1 0) from l)]at D
    rw[show MX i n=mF by unfold MX;rw[AF l]]at x;simp only[mF,AT]at x;clear l z C;go_wp2;refine AE (v:=yQ ⟨#[110,111]⟩) (by simp[results,results10,go_sem]) rfl ?_;rw[D.j];exact Pu O.j M.j _
  rw[AH K];rw[AF K]at D;clear K HD;have i:=Y (λJ=>Xm f J);obtain⟨K,l⟩:∃K,K=Ry f:=⟨_,rfl⟩;have m:K=0\/(1<=K/\K<=4):=by rw[l];unfold Ry;split;exact .inr δ;split;exact .inr δ;split;exact .inr δ;split;exact .inr δ;exact .inl rfl
  rw[<-l]at D i;clear l;go_wp2_with fail;refine(i.j w2).J ?_;rintro r l ⟨rfl,R⟩;rw[R];clear R l i
  by_cases i:K=0
  ·subst i
   rw[AI rfl]at D;go_wp2;refine AE (v:=yQ O0) (by simp[results,results10,go_sem]) rfl ?_;rw[D.j];exact Pu O.j V.j _
  rw[AF i]at D
  have u:(K == 0)=false:=BI.2 i;have n:=Y (Va K N fa fc _ d B G q a c w2 bT.j HO.j (λb k=>AC (HG.j b k) V.j.size) HN.j cE.j ω (m.resolve_left i));clear i m;obtain⟨p,m⟩:∃p,p=Xj K d N:=⟨_,rfl⟩;rw[<-m]at D n;clear m;rw[<-bU.j];go_wp2_with fail;refine n.j.J ?_;intro r M l;obtain⟨rfl,-⟩:=id l;have x:=Y l;clear n l;go_wp2;refine AE (v:=yQ p.2) (by simp[results,results10,go_sem]) rfl ?_;rw[D.j];exact Ve V.j x.j
end
section
open _root_.Go.Proofs.Tryz
open Go.RowKit Go.Proofs.YtkdedmclofhndaaGreatDoor.nw
theorem Rd(s:yZ):Lib.strCells s=s.data.toList.map uv:=by simp[Lib.strCells,uv]
theorem Ur{P:Program}(w:xV)(a:Nat)(t u h e:TypeId)(i:TypeInfo)(r:P.underlying t=some (.slice e))(v:P.underlying u=some .string)(q:P.info? e=some i)(A:i.zero=some (.int .u8 0))
  (m:i.size=1)(x:i.bytes=1)(g n b:Nat)(c:List qD)(d:w.ownsRow a e 1 (yI (zY g 0) n b) n c)(s:yZ)(J:n+s.size<=1048576)(B:a<=w.heap.size):∃f j l,(Builtin.append_ #[t,u] h #[yI (zY g 0) n b,yQ s]).run P w=.ok (yI (zY f 0) (n+s.size) j) l/\l.ownsRow a e 1 (yI (zY f 0) (n+s.size) j) (n+s.size) (c++Lib.strCells s)/\w.grownBy l (some g)/\(f=g\/f=w.heap.size):=by
 obtain⟨Q,l,f,y,z,_⟩:=Lib.run_append_own_string (P:=P) w a t u h e i r v q A m x _ n c d s (by unfold maxLen;omega) ω B;rcases d.2 with ⟨k,_⟩|⟨O,I,o,F,K,G,N,L,M,H⟩
 ·cases k
 cases F
 by_cases D:n+s.size<=b
 ·have j:=Lib.run_append_room_string (P:=P) w t u h e i r v q m g n b o G s D ω
  have p:=f.symm.E j
  cases p
  exact⟨g,b,_,f,y,z,.inl rfl⟩
 have E:c.length=n:=by simpa using d.1
 have C:∀j u,c[j]?=some u->w.cell? (((yA g 0):Addr).add j)=some u:=d.cells (g:=g) rfl;have j:=Lib.run_append_grow_string (P:=P) w t u h e i (.int .u8 0) r v q A (yA g 0) n b c (by rw[m];simpa using E) C s ω ω (by rw[x];exact growslice_fits ω ω);have p:=f.symm.E j
 cases p
 exact⟨w.heap.size,_,_,f,y,z,.inr rfl⟩
theorem R7{P:Program}{c:Array Oper}{b:List Oper}{o:Oper}{a:Act}{w:xV}{Q:Exit->Act->xV->Prop}(g:o.guard=none)(d x:Operand)(t u:TypeId)
  (j:o.op=.call { callee:=.builtin .append,args:=#[d,x],argTypes:=#[t,u] }){y z:qD}(l:a.eval d=y)(m:a.eval x=z)(e:qD)(f:xV)
  (k:(Builtin.append_ #[t,u] o.type #[y,z]).run P w=.ok e f)(h:wpList P c Q b (a.put o.dst e) f):wpList P c Q (o::b) a w:=by
 refine ID g λK i=>?_
 unfold Oper.wp execOp;simp only[j,resolve,invoke,builtin,IC,IZ,IB,List.map_toArray,FU,JN,l,m,k];exact i _ _ h
theorem Fr.b0{w a:xV}{G:Nat->Prop}(h:Fr w a G):Below 0 w a:=⟨h.os,h.tape,h.output,h.size,λb c=>absurd c ω⟩
theorem Wt{u i:xV}{B:Nat}{d:Dk}{G:Nat->Prop}{q:Wp}{a:xA}{c o:Nat}(h:DkN u B d G q a c)(f:u.grownBy i (some o))(j:¬G o):DkN i B d G q a c:=h.step ⟨f.os,f.tape,f.output,f.size,λb g=>absurd g ω⟩ (λb g l=>f.block b l (λe=>j (by cases e;exact g)))
def Qy:Dk:=⟨Qc 40 8,[]⟩
theorem Tk:Qy.ok 0:=⟨Rm δ,AA _,λc a=>by cases a⟩
structure SsN(w wr:xV)(B g:Nat)(ls:List yZ)(k:Nat)(og oc:Nat)(G:Nat->Prop)(q:Wp)(a:xA)(c:Nat):Prop where
 D:DkN wr B (Po Qy (ls.take k)) G q a c
 gs:∀b,G b->b<wr.heap.size
 gl:∀b,G b->w.heap.size<=b
 gg:¬G g
 go:¬G og
 o:wr.ownsRow (B+1) 5 1 (yI (zY og 0) (Pb Qy (ls.take k)).length oc) (Pb Qy (ls.take k)).length ((Pb Qy (ls.take k)).map uv)
 r:Row wr g (ls.map Value.string)
 b:yX w wr
def Yn(w wr:xV)(B g:Nat)(b:List yZ)(k:Nat)(f:qD):Prop:=∃e d G q a c,f=yI (zY e 0) (Pb Qy (b.take k)).length d/\SsN w wr B g b k e d G q a c
theorem Q4{a:List yZ}(c:a.length<=400)(b:∀s∈a,s.size<=20000):∀k,(Pb Qy (a.take k)).length<=301*k
 | 0=>AA _
 | k+1=>by
  by_cases f:k<a.length
  ·have e:a.take (k+1)=a.take k++[a[k]]:=by rw[List.take_add_one,AO f];rfl
   have d:=Q4 c b k;have h:=R0 ((Q0 (a.take k) Qy 0 Tk (λs k=>b s (DM k))).J (m:=1000) (by rw[AX];omega)) (AA _) a[k];rw[e,Qa,AK,AK];have g:(Oy (Po Qy (a.take k)) a[k]).2.data.toList.length=(Oy (Po Qy (a.take k)) a[k]).2.size:=rfl;simp only[EI];omega
  have d:=Q4 c b k
  rw[show a.take (k+1)=a.take k by rw[AR ω,AR ω]];omega
end
section
open _root_.Go.Proofs.Tryz
open Go.RowKit Go.Shelf Go.Proofs.YtkdedmclofhndaaGreatDoor.nw
theorem Vq{P:Program}(w:xV)(a:Nat)(t u h e:TypeId)(i:TypeInfo)(y:P.underlying t=some (.slice e))(z:P.underlying u=some .string)(x:P.info? e=some i)(A:i.zero=some (.int .u8 0))
  (C:i.size=1)(m:i.bytes=1)(v:qD)(n:Nat)(j:List qD)(l:w.ownsRow a e 1 v n j)(s:yZ)(D:n+s.size<=1048576)(B:a<=w.heap.size):∃d b,(Builtin.append_ #[t,u] h #[v,yQ s]).run P w=.ok d b/\b.ownsRow a e 1 d (n+s.size) (j++Lib.strCells s)/\w.grownBy b v.ownBlock/\(∀k,d.ownBlock=some k->v.ownBlock=some k\/k=w.heap.size):=by
 rcases l.2 with ⟨rfl,rfl⟩|⟨g,o,F,rfl,_⟩
 ·obtain⟨d,b,f,p,q,r⟩:=Lib.run_append_own_string (P:=P) w a t u h e i y z x A C m _ 0 j l s (by unfold maxLen;omega) ω B
  refine⟨d,b,f,p,q,λk c=>.inr ?_⟩
  by_cases H:s.size=0
  ·rw[r.2 ⟨rfl,H⟩]at c;cases c
  have E:=run_append_nil_string (P:=P) w t u h e i (.int .u8 0) y z x A s ω ω (by rw[m];omega)
  have G:=f.symm.E E
  cases G
  cases c
  rfl
 obtain⟨E,d,b,f,p,q,r⟩:=Ur w a t u h e i y z x A C m g n o j l s D B
 exact⟨_,b,f,p,q,λk c=>by cases c;exact r.imp (λe=>by rw[e];rfl) id⟩
structure Bd(w:xV)(b:Nat)(p v:qD)(D:List UInt8):Prop where
 hb:w.heap[b]?=some (.cells #[p,v] 55 (0,0))
 o:w.ownsRow (b+1) 5 1 v D.length (D.map uv)
section
variable {w w':xV} {b:Nat} {p v:qD} {D:List UInt8}
theorem Bd.lt(h:Bd w b p v D):b<w.heap.size:=(AP.1 h.hb).1
theorem Bd.row(h:Bd w b p v D):Row w b [p,v]:=by
 refine⟨h.lt,λi u a=>?_,λi c=>?_⟩
 ·match i,a with
  | 0,a=>simpa[World.cell?,h.hb] using a
  | 1,a=>simpa[World.cell?,h.hb] using a
 match i,c with
 | 0,_=>simp[World.frozen?,h.hb]
 | 1,_=>simp[World.frozen?,h.hb]
theorem Bd.ne(h:Bd w b p v D):v.ownBlock≠some b:=λe=>by have:=O1 h.o e;omega
theorem Bd.keep(h:Bd w b p v D)(d:w.heap.size<=w'.heap.size)(c:Below 0 w w')(a:∀k,(k=b\/v.ownBlock=some k)->w'.heap[k]?=w.heap[k]?):Bd w' b p v D :=⟨(a b (.inl rfl)).E h.hb,(WR (F:=λk=>v.ownBlock=some k) h.o (λ_ e=>e)).keep w' c (λk e _=>a k (.inr e))⟩
theorem Bd.set0(h:Bd w b p v D)(u:qD):Bd (w.setCell (yA b 0) u) b u v D:=⟨by simp[World.setCell,Array.getElem?_modify,h.hb],BS (a:=(yA b 0)) h.o h.ne u⟩
theorem Bd.set1{a:qD}{c:List UInt8}(h:w.heap[b]?=some (.cells #[p,v] 55 (0,0)))(d:w.ownsRow (b+1) 5 1 a c.length (c.map uv)):Bd (w.setCell (yA b 1) a) b p a c:=⟨by simp[World.setCell,Array.getElem?_modify,h],BS (a:=(yA b 1)) d (λe=>by have:=O1 d e;have k:b+1<=b:=this.1;omega) a⟩
theorem X0(h:Bd w b p v D)(a:p=.pointer none\/p=zW b 0):Calls prog 49 #[zW b 0] w λe w'=>e=yT (.tuple #[])/\Bd w' b (zW b 0) v D/\w.grownBy w' (some b):=by
 rcases a with rfl|rfl
 ·refine(Any.Builder_copyCheck_fresh uS dr.toX72 b w (h.row.y 0) (by simp[World.shape?,h.hb];rfl) (h.row.A 0)).J ?_
  rintro e w' ⟨rfl,rfl⟩;exact⟨rfl,h.set0 _,NA (AY w (some b)) 0 _⟩
 refine(Any.Builder_copyCheck_used uS dr.toX72 b w (h.row.y 0)).J ?_
 rintro e w' ⟨rfl,rfl⟩;exact⟨rfl,h,AY _ _⟩
end
def Ye(w c:xV)(b:Nat)(v:qD)(D:List UInt8):Prop:=∃a,Bd c b (zW b 0) a D/\Fr w c (λk=>k=b\/v.ownBlock=some k)/\∀k,a.ownBlock=some k->v.ownBlock=some k\/w.heap.size<=k
theorem Ws{w c a d:xV}{b i:Nat}{v u:qD}(f:w.grownBy c (some b))(h:c.grownBy a v.ownBlock)(j:d=a.setCell (yA b i) u):Fr w d (λk=>k=b\/v.ownBlock=some k):=by
 have g:=NA (AY a (some b)) i u;rw[<-j]at g;exact(Pv (G:=λk=>k=b\/v.ownBlock=some k) f (λg e=>.inl (by cases e;rfl))).E ((Pv (G:=λk=>k=b\/v.ownBlock=some k) h (λg e=>.inr e)).E (Pv (G:=λk=>k=b\/v.ownBlock=some k) g (λg e=>.inl (by cases e;rfl))) (λ_ _ k=>k)) (λ_ _ k=>k)
theorem Xz(b:Nat)(p v:qD)(D:List UInt8)(s:yZ)(w:xV)(h:Bd w b p v D)(u:p=.pointer none\/p=zW b 0)(F:D.length+s.size<=1048576):Calls prog 14 #[zW b 0,yQ s] w λr a=>r=yT (.tuple #[Z (s.size:Int),.nilIface])/\Ye w a b v (D++s.data.toList):=by
 obtain⟨G,n,o,q,t⟩:=pe infoByte;have j:=Y (X0 h u);clear u h;go_enter func14,ntmps14;go_wp2_with fail;refine j.j.J ?_;rintro r I ⟨rfl,a,f⟩;have H:=a.lt;have C:=a.row.y 1;go_upto_region 2 with fail;refine AV ?_;refine vl (zW b 0) (vl (zW b 0) (vl (zW b 0) (vl (zW b 1) (vl v (vl (yQ s) ?_)))));simp only[PS];obtain⟨M,i,x,g,c,l⟩:=Vq I (b+1) 24 9 24 5 G underlying24 underlying9 n o q t v D.length _ a.o s F ω;obtain⟨z,A,rfl⟩:=UX g;refine R7 rfl _ _ 24 9 rfl rfl rfl _ _ x ?_;simp only[PS];have m:=(c.block b H (λe=>a.ne e.symm)).E a.hb;have d:Row i b [zW b 0,v]:=a.row.V c (λe=>a.ne e.symm);have J:=d.y 1;have K:=d.A 1;have L:=d.lt;have y:i.ownsRow (b+1) 5 1 (yI z (D.length+s.size) A) (D++s.data.toList).length ((D++s.data.toList).map uv):=by rw[AK,DA,<-Rd];exact g
 have B:=Y (show Ye w (i.setCell (yA b 1) (yI z (D.length+s.size) A)) b v (D++s.data.toList) from⟨_,Bd.set1 m y,Ws f c rfl,λk E=>(l k E).imp id (λe=>by rw[e];exact f.size)⟩);clear x g y c l m d C f a j n o q t;go_wp2;refine AE (v:=.tuple #[Z (s.size:Int),.nilIface]) (by simp[results,results14,go_sem]) rfl ?_;exact⟨rfl,B.j⟩
theorem Xy(b:Nat)(v:qD)(D:List UInt8)(w:xV)(h:Bd w b (zW b 0) v D)(J:D.length+1<=1048576):Calls prog 16 #[zW b 0,.int .u8 10] w λr a=>r=yT .nilIface/\Ye w a b v (D++[10]):=by
 obtain⟨F,s,t,u,x⟩:=pe infoByte;have o:=Y (X0 h (.inr rfl));clear h;go_enter func16,ntmps16;go_wp2_with fail;refine o.j.J ?_;rintro r d ⟨rfl,a,m⟩;have G:=a.lt;have E:=a.row.y 1;go_upto_region 2 with fail;refine AV ?_;refine vl (zW b 0) (vl (zW b 0) (vl (zW b 0) (vl (zW b 1) (vl v (vl (.int .u8 10) ?_)))));simp only[PS];refine dt rfl (yI (zY d.heap.size 0) 1 1) (d.alloc (.cells #[.int .u8 10] 5)) γ ?_;simp only[PS];refine wpList_append_lies _ rfl _ _ 24 rfl (b+1) 5 F (.int .u8 0) 1 1 underlying24 s t u x rfl ω v D.length _ rfl (a.o.alloc _) (yA d.heap.size 0) 1 1 [.int .u8 10] rfl rfl (World.news_of_block (AU d _)) (by simp[Value.oneCell']) ω (by unfold maxLen;omega) ω τ (d.heap.size+1) σ ?_
 intro n y l z f p C;simp only[PS];have c:=LG d (.cells #[.int .u8 10] 5);have g:d.grownBy l v.ownBlock:=⟨f.os.E c.os,f.tape.E c.tape,f.output.E c.output,AJ c.size f.size,λk i e=>(f.block k (AC i c.size) e).E (c.block k i)⟩;have q:=(g.block b G (λe=>a.ne e.symm)).E a.hb;have j:Row l b [zW b 0,v]:=a.row.V g (λe=>a.ne e.symm);have H:=j.y 1;have I:=j.A 1;have K:=j.lt;have A:l.ownsRow (b+1) 5 1 (yI (zY n 0) (D.length+1) y) (D++[10]).length ((D++[10]).map uv):=by rw[AK,DA];exact z
 have B:=Y (show Ye w (l.setCell (yA b 1) (yI (zY n 0) (D.length+1) y)) b v (D++[10]) from⟨_,Bd.set1 q A,Ws m g rfl,λk i=>by have e:n=k:=BP i;subst e;exact p.imp id (λe=>by have:=m.size;omega)⟩);clear z A f g p q j E m a o s t u x c C;go_wp2;refine AE (v:=.nilIface) (by simp[results,results16,go_sem]) rfl ?_;exact⟨rfl,B.j⟩
theorem Xx(b:Nat)(p v:qD)(D:List UInt8)(w:xV)(h:Bd w b p v D)(k:p=.pointer none\/p=zW b 0):Calls prog 17 #[zW b 0] w λr f=>r=yT (yQ ⟨D.toArray⟩)/\Below b w f:=by
 have l:w.ownsRowF b 5 1 v (Lib.byteCells D).length (Lib.byteCells D):=World.ownsRowF_of (by rw[Lib.byteCells_length];exact⟨h.o.1,h.o.2.imp id (λ⟨g,a,c,i,m,r⟩=>⟨g,a,c,i,ω,r⟩)⟩);have d:Lib.BuilderAtF 55 5 b b p (Lib.byteCells D) w:=⟨AA _,v,h.hb,l,h.ne⟩;refine(zL b b D w (k.elim (λe=>.inl (by rw[<-e];exact d)) (λe=>.inr (by subst e;exact d))) (KF h.lt)).J ?_;rintro e f ⟨rfl,-,j,-⟩;exact⟨rfl,j⟩
end
section
open _root_.Go.Proofs.Tryz
open Go.RowKit Go.Proofs.YtkdedmclofhndaaGreatDoor.nw
structure SiN(w wr:xV)(B g M bb:Nat)(ls:List yZ)(k:Nat)(p v:qD)(G:Nat->Prop)(q:Wp)(a:xA)(c:Nat):Prop where
 D:DkI wr B (Po Qy (ls.take k)) G q a c
 gs:∀b,G b->b<wr.heap.size
 gl:∀b,G b->w.heap.size<=b
 gg:¬G g
 gm:¬G M
 gb:¬G bb
 gv:∀x,v.ownBlock=some x->¬G x
 bd:Bd wr bb p v (Pb Qy (ls.take k))
 hp:p=.pointer none\/p=zW bb 0
 m:CmM wr B M RT
 r:Row wr g (ls.map Value.string)
 b:yX w wr
def Yk(w wr:xV)(B g M b:Nat)(d:List yZ)(k:Nat):Prop:=∃p v G q a c,SiN w wr B g M b d k p v G q a c
theorem Q7{w v u:xV}{G:Nat->Prop}(h:yX w v)(f:Fr v u G)(a:∀b,G b->w.heap.size<=b):yX w u:=h.E ⟨f.os,f.tape,f.output,f.size,λb c=>f.block b (AC c h.size) (λk=>by have:=a b k;omega)⟩
theorem SiN.next{w wr f z t:xV}{B g M d:Nat}{j:List yZ}{k:Nat}{p v r y:qD}{G:Nat->Prop}{q R:Wp}{a F:xA}{c J:Nat}{s:yZ}{P:Dk×yZ}(h:SiN w wr B g M d j k p v G q a c)(L:j.take (k+1)=j.take k++[s])(K:P=Oy (Po Qy (j.take k)) s)(W:g<d)(X:M<d)(aF:w.heap.size<=d)
  (T:DkI f B P.1 (OE wr f G) R F J)(m:Fr wr f G)
  (S:Bd z d (zW d 0) r (Pb Qy (j.take k)++P.2.data.toList))(i:Fr f z (λx=>x=d\/v.ownBlock=some x))(Z:∀x,r.ownBlock=some x->v.ownBlock=some x\/f.heap.size<=x)
  (B4:Bd t d (zW d 0) y (Pb Qy (j.take k)++P.2.data.toList++[10]))(o:Fr z t (λx=>x=d\/r.ownBlock=some x))(h4:∀x,y.ownBlock=some x->r.ownBlock=some x\/z.heap.size<=x):SiN w t B g M d j (k+1) (zW d 0) y (OE wr f G) R F J:=by
 have lb:=h.bd.lt
 have D:∀x,v.ownBlock=some x->d+1<=x/\x<wr.heap.size:=λx e=>O1 h.bd.o e
 have u:∀x,x<wr.heap.size->¬G x->¬OE wr f G x:=λx l n b=>by rcases b with b|b;exact n b;omega
 have E:∀x,OE wr f G x->x<f.heap.size:=λx b=>by rcases b with b|b;exact AC (h.gs x b) m.size;exact b.2
 have lG:∀x,OE wr f G x->w.heap.size<=x:=λx b=>by rcases b with b|b;exact h.gl x b;exact AJ h.b.size b.1
 have C:=u d lb h.gb
 have O:∀x,v.ownBlock=some x->¬OE wr f G x:=λx e=>u x (D x e).2 (h.gv x e)
 have I:∀x,r.ownBlock=some x->¬OE wr f G x:=λx e b=>by rcases Z x e with e|e;exact O x e b;have:=E x b;omega
 have Y:∀x,y.ownBlock=some x->¬OE wr f G x:=λx e b=>by rcases h4 x e with e|e;exact I x e b;have:=E x b;have:=i.size;omega
 have U:=T.step i.b0 (λx b l=>i.block x l (λe=>by rcases e with e|e;exact C (e ▸ b);exact O x e b));have V:=U.step o.b0 (λx b l=>o.block x l (λe=>by rcases e with e|e;exact C (e ▸ b);exact I x e b));have N:=h.m.lt;have A:=h.r.lt
 have Q:∀x,r.ownBlock=some x->d+1<=x:=λx e=>(O1 S.o e).1
 have H:∀x,x<wr.heap.size->¬G x->x<d->t.heap[x]?=wr.heap[x]?:=λx l n lt=>(o.block x (AC l (AJ m.size i.size)) (λe=>by rcases e with e|e;omega;have:=Q x e;omega)).E ((i.block x (AC l m.size) (λe=>by rcases e with e|e;omega;have:=(D x e).1;omega)).E (m.block x l n))
 have l:wr.heap.size<=t.heap.size:=AJ m.size (AJ i.size o.size);refine⟨by rw[L,Qx,<-K];exact V,λx b=>AC (E x b) (AJ i.size o.size),lG,u g A h.gg,u M N h.gm,C,Y,by rw[L,Qa,<-K,<-BV];exact B4,.inr rfl,h.m.keep (H M N h.gm X),SX h.r (H g A h.gg W) (AC A l),?_⟩;refine Q7 (Q7 (Q7 h.b m h.gl) i (λx e=>?_)) o (λx e=>?_)
 ·rcases e with e|e
  ·omega
  have:=(D x e).1;omega
 rcases e with e|e
 ·omega
 have:=Q x e;omega
theorem Um(t:yZ)(w:xV)(hv:Vz w):Calls prog 6 #[yQ t] w λr w'=>r=yT (yQ (Qi t))/\yX w w':=by
 by_cases F:t.size<=20000
 rotate_left
 ·have e2:(20000:Int)<(t.size:Int):=ω
  have i:Hid (Qi t=⟨#[116,111,111,32,108,111,110,103,10]⟩):=Y (by unfold Qi;rw[AI (.inl ω)]);clear F;go_enter func6,ntmps6;go_wp2;refine AE (v:=yQ ⟨#[116,111,111,32,108,111,110,103,10]⟩) (by simp[results,results6,go_sem]) rfl ?_;rw[i.j];exact⟨rfl,AB _ _⟩
 have N:=Y (Av t w F);have HV:=Y hv;obtain⟨a,E⟩:∃a,a=TW t:=⟨_,rfl⟩;have U:Hid (∀s∈a,s.size<=20000):=Y (λs k=>S9 F (by rw[<-E];exact k));have i:Hid (Qi t=if 400<a.length then ⟨#[116,111,111,32,108,111,110,103,10]⟩ else ⟨(Pb Qy a).toArray⟩):=Y (by unfold Qi;rw[<-E];by_cases k:400<a.length;rw[AI (.inr k),AI k];rw[AF (λe=>by rcases e with e|e;omega;exact k e),AF k];rfl);rw[<-E]at N;have e2:¬((20000:Int)<(t.size:Int)):=ω
 clear E hv F;go_enter func6,ntmps6;go_wp2_with fail;refine N.j.J ?_;rintro r u ⟨cap,rfl,rG,hb⟩;have bB:=Y rG;have j:=Y hb;have lg:=rG.lt;clear N rG hb
 by_cases g:400<a.length
 ·have e3:(400:Int)<(a.length:Int):=ω
  rw[AI g]at i;clear g;go_wp2;refine AE (v:=yQ ⟨#[116,111,111,32,108,111,110,103,10]⟩) (by simp[results,results6,go_sem]) rfl ?_;rw[i.j];exact⟨rfl,j.j⟩
 have e3:¬((400:Int)<(a.length:Int)):=ω
 rw[AF g]at i;have bY:a.length<=400:=ω
 clear g;have CN:=Y (show Calls prog 12 #[Z 40,Z 8] u λe w1=>ft u w1 e (MX 40 8) from(nw_i 40 8 u).J (λe w1 k=>T3 k));go_wp2_with fail;refine CN.j.J ?_;rintro r w3 ⟨q,rfl,hW,W,V⟩;rw[show MX 40 8=Qc 40 8 from AI δ]at hW W⊢;have HW:=Y hW;have n:=Y V;have aW:=Y W;have bZ:=AC lg V.size;clear CN hW V W;unfold LT;go_upto_region 7 with fail;generalize aD:w3.alloc _=h;obtain⟨D,z4,b4⟩:=LK aD
 have D4:DkI h w3.heap.size Qy (λb=>u.heap.size<=b/\b<h.heap.size) q none 0:=⟨⟨b4.q,((HW.j.I D).J (λb l k=>⟨⟨k.1,l⟩,by have:=k.2;omega,λe=>by cases e⟩)),BT _ _ _ _,⟨n.j.size,ω⟩,λb k=>by cases k⟩,aW.j⟩
 have R:=Y D4;have aZ:=Y ((bB.j.I n.j).I D);have z:=Y ((j.j.E (n.j.J j.j.size)).E (D.J (AJ j.j.size n.j.size)));obtain⟨B,bF⟩:∃B,B=w3.heap.size:=⟨_,rfl⟩;rw[<-bF]at R⊢;have bP:w.heap.size<B:=ω
 have bJ:h.heap.size=B+1:=ω
 have aX:=Y (AG bP bJ);have CM:=Y (Tf B h);clear aD D z4 b4 D4 bF HW bB n aW bZ bP bJ;go_wp2_with fail;refine CM.j.J ?_;rintro r d ⟨rfl,aT,bG⟩;have S:=Y aT;have A:=Y bG;have l5:h.heap.size<d.heap.size:=aT.lt;clear CM aT bG;go_upto_region 9 with fail;generalize y:d.alloc _=I;have O:Hid (I.heap[d.heap.size]?=some (.cells #[.pointer none,yI none 0 0] 55 (0,0))):=Y (by rw[<-y];exact AU d _);have o:yX d I:=by show Below (d.heap.size) d I;rw[<-y];exact LG d _
 have z6:I.heap.size=d.heap.size+1:=by rw[<-y];simp
 obtain⟨f,bI⟩:∃x,x=d.heap.size:=⟨_,rfl⟩;obtain⟨M,hM⟩:∃x,x=h.heap.size:=⟨_,rfl⟩;rw[<-bI]at O⊢;rw[<-hM]at S⊢;have bC:Hid (Yk w I B w.heap.size M f a 0):=Y ⟨.pointer none,yI none 0 0,λb=>u.heap.size<=b/\b<h.heap.size,q,none,0,⟨(R.j.I A.j).I o,λb k=>by have:=k.2;omega,λb k=>AJ j.j.size k.1,λk=>by have:=k.1;omega,λk=>by have:=k.2;omega,λk=>by have:=k.2;omega,λx e=>(by cases e),⟨O.j,BT _ _ _ _⟩,.inl rfl,S.j.keep (o.block M ω),(aZ.j.I A.j).I o,(z.j.E (A.j.J z.j.size)).E (o.J (by have:=z.j.size;omega))⟩⟩;have bV:M<f:=ω
 have bW:w.heap.size<f:=by have:=aX.j;omega
 clear y o z6 bI hM O S A l5 R aZ z aX j;go_wp2_with fail;go_loopw [24] (λiv wr=>∃k:Nat,k<=a.length/\iv=Z (k:Int)/\Yk w wr B w.heap.size M f a k) (λiv _=>a.length-(intOf iv).toNat)
 case atStart=>exact⟨0,AL _,rfl,bC.j⟩
 case round =>
  clear bC;obtain⟨k,hk,rfl,p,v,G,q1,a1,c1,hN⟩:=hrel;have c:=Y hN;clear hN
  by_cases X:k<a.length
  ·obtain⟨s,H⟩:∃s,s=a[k]:=⟨_,rfl⟩
   have ck:wr.cell? (yA w.heap.size k)=some (yQ s):=by rw[H];exact c.j.r.cell k _ (by rw[FL,AO X];rfl)
   have cA:=c.j.r.lt;have cE:(k:Int)<(a.length:Int):=ω
   have cC:(0:Int)<=(k:Int):=ω
   have aU:=(Q0 (a.take k) Qy 0 Tk (λs k=>U.j s (DM k))).J (m:=1000) (by rw[AX];omega);have aY:=Y (Q4 bY U.j k);obtain⟨P,hP⟩:∃P,P=Oy (Po Qy (a.take k)) s:=⟨_,rfl⟩;have T:=Y (R0 aU (AA _) s);have aV:=HV.j.sz;have K:=Y (Up s (Po Qy (a.take k)) B G q1 a1 c1 M wr c.j.D aU (λb k=>⟨by have:=c.j.gl b k;omega,c.j.gs b k⟩) (HV.j.I c.j.b) c.j.m (U.j s (by rw[H];exact GA X)));rw[<-hP]at K T;have bT:Hid (a.take (k+1)=a.take k++[s]):=Y (by rw[List.take_add_one,AO X,H];rfl);have HP:=Y hP;clear H aU hP aV;go_wp2_with fail;refine K.j.J ?_;rintro r u2 ⟨rfl,⟨q2,a2,c2,D2⟩,m⟩;have bE:=c.j.bd.keep m.size m.b0 (λx e=>m.block x (by rcases e with e|e;rw[e];exact c.j.bd.lt;exact(O1 c.j.bd.o e).2) (λkk=>by rcases e with e|e;rw[e]at kk;exact c.j.gb kk;exact c.j.gv x e kk))
   have Q:=Y (AG D2 m);have CW:=Y (Xz f p v _ P.2 u2 bE c.j.hp (by have:=aY.j;have:=T.j;omega));clear K D2 m bE ck cA;go_wp2_with fail;refine CW.j.J ?_;rintro r u3 ⟨rfl,v3,J,F3,h3⟩;have C:=Y (AG J (AG F3 h3));have CB:=Y (Xy f v3 _ u3 J (by have:=aY.j;have:=T.j;rw[AK];have e:P.2.data.toList.length=P.2.size:=rfl;omega));clear CW J F3 h3;go_wp2_with fail;refine CB.j.J ?_;rintro r u4 ⟨rfl,cF,B4,F4,g⟩;have bU:=Y (c.j.next bT.j HP.j bW bV ω Q.j.1 Q.j.2 C.j.1 C.j.2.1 C.j.2.2 B4 F4 g);clear CB B4 F4 g Q C c;go_wp2;exact⟨⟨k+1,ω,ν,_,_,_,_,_,_,bU.j⟩,by simp[intOf];omega⟩
  obtain rfl:k=a.length:=ω
  have L:=Y (Xx f p v _ wr c.j.bd c.j.hp);rw[DF]at L;have bQ:=Y c.j.b;clear c;go_wp2_with fail;refine L.j.J ?_;rintro r u5 ⟨rfl,bH⟩;have bR:=Y (bQ.j.E (bH.J ω));clear L bH;go_wp2;refine AE (v:=yQ ⟨(Pb Qy a).toArray⟩) (by simp[results,results6,go_sem]) rfl ?_;rw[i.j];exact⟨rfl,bR.j⟩
end
section
open _root_.Go.Proofs.Tryz
open Go.RowKit Go.Proofs.YtkdedmclofhndaaGreatDoor.nw
theorem S7(t:yZ):∃n,TW t=(MB 10 t).take n/\n<=(MB 10 t).length/\(TW t).length=n/\((MB 10 t).getD ((MB 10 t).length-1) empty=empty->n=(MB 10 t).length-1)/\(¬(MB 10 t).getD ((MB 10 t).length-1) empty=empty->n=(MB 10 t).length):=by
 unfold TW
 split
 ·rename_i h
  exact⟨(MB 10 t).length-1,List.dropLast_eq_take,ω,by rw[List.length_dropLast],λ_=>rfl,λk=>absurd h k⟩
 rename_i h
 exact⟨(MB 10 t).length,by rw[DF],AA _,rfl,λk=>absurd k h,λ_=>rfl⟩
theorem Un(t:yZ)(w:xV):Calls prog 5 #[yQ t] w λr a=>r=yT (yQ (Qi t))/\yX w a:=by
 by_cases h1:t.size<=20000
 rotate_left
 ·have e1:¬((t.size:Int)<=20000):=ω
  have F:(20000:Int)<(t.size:Int):=ω
  have y:Hid (Qi t=⟨#[116,111,111,32,108,111,110,103,10]⟩):=Y (by unfold Qi;rw[AI (.inl ω)]);clear h1;go_enter func5,ntmps5;go_wp2;refine AE (v:=yQ ⟨#[116,111,111,32,108,111,110,103,10]⟩) (by simp[results,results5,go_sem]) rfl ?_;rw[y.j];exact⟨rfl,LG _ _⟩
 have j:=Y (λa=>show Calls prog 8 #[yQ t,.int .u8 10] a _ from mY t 10 a ω)
 obtain⟨n,p,A,i,g,h⟩:=S7 t;have v:=kg 10 t;have o:=ib 10 t;obtain⟨d,a⟩:∃d,d=TW t:=⟨_,rfl⟩;have Q:Hid (∀s∈d,s.size<=20000):=Y (λs k=>S9 h1 (by rw[<-a];exact k));have y:Hid (Qi t=if 400<d.length then ⟨#[116,111,111,32,108,111,110,103,10]⟩ else ⟨(Pb Qy d).toArray⟩):=Y (by unfold Qi;rw[<-a];by_cases k:400<d.length;rw[AI (.inr k),AI k];rw[AF (λe=>by rcases e with e|e;omega;exact k e),AF k];rfl);have u:Hid (d.map Value.string=((MB 10 t).map Value.string).take n):=Y (by rw[a,p,GS]);obtain⟨m,l⟩:∃m,(MB 10 t).length=m+1:=⟨(MB 10 t).length-1,ω⟩;rw[<-a]at i;rw[l]at g h A o;obtain⟨la,f⟩:∃x,x=(MB 10 t).getD m empty:=⟨_,rfl⟩;have c:=Y (AG g h);simp only[JF]at c;rw[<-f]at c;have q:=Y f;have b:=Y l;have J:m<=20000:=ω
 have L:IntKind.i64.wrap (m:Int)=(m:Int):=eh _ ω ω;have e1:(t.size:Int)<=20000:=ω
 have F:¬((20000:Int)<(t.size:Int)):=ω
 have K:(m:Int)<(m:Int)+1:=ω
 have G:(0:Int)<=(m:Int):=ω
 clear p v o a f l g h;go_enter func5,ntmps5;go_upto_if 10 with fail;generalize a:w.alloc _=v1;obtain⟨f,g,-⟩:=LK a;have o:=Y f;clear a f g;go_cut [3] from 11 to 24 (λf a=>∃g h,f=yI (zY g 0) d.length h/\Row a g (d.map Value.string)/\yX w a)
 case first =>
  go_wp2_with fail;refine(j.j v1).J ?_;rintro r H ⟨v,rfl,l,z⟩;obtain⟨g,h,E,C,D,-,B,-⟩:=l.2.resolve_left (λk=>by have:=k.2;have:=b.j;omega);subst C;have a:=RJ l;have lg:=a.lt;have I:H.cell? (yA g m)=some (yQ la):=by rw[q.j];exact a.cell m _ (by rw[FL,AO (by have:=b.j;omega)];simp[List.getD,AO (show m<(MB 10 t).length by have:=b.j;omega)])
  have p:=Y (o.j.E (z.J o.j.size));have f:Hid (Row H g (d.map Value.string)):=Y (by rw[u.j];exact zP a n);rw[b.j]at B⊢;have M:(m:Int)<=(h:Int):=ω
  clear l a z j D
  by_cases a:la=⟨([]:List UInt8).toArray⟩
  ·have X:=Pc (l:=[]) a
   have l:n=m:=c.j.1 (by rw[a];rfl);subst l;clear a;go_wp2_with fail;go_meet;exact⟨g,h,by rw[i],f.j,p.j⟩
  have X:=O7 (l:=[]) a
  have l:n=m+1:=c.j.2 (λk=>a k);subst l;clear a;go_wp2_with fail;go_meet;exact⟨g,h,by rw[i],f.j,p.j⟩
 case rest =>
 obtain⟨g,h,rfl,a,l⟩:=hcut
 rename World=>I
 have f:=Y a;have C:=Y l;have lg:=a.lt;clear a l o j c q b u L K G A i J
 by_cases a:400<d.length
 ·have X:(400:Int)<(d.length:Int):=ω
  rw[AI a]at y;clear a;go_wp2;refine AE (v:=yQ ⟨#[116,111,111,32,108,111,110,103,10]⟩) (by simp[results,results5,go_sem]) rfl ?_;rw[y.j];exact⟨rfl,C.j⟩
 have X:¬((400:Int)<(d.length:Int)):=ω
 rw[AF a]at y;have dB:d.length<=400:=ω
 clear a;have i:=Y (show Calls prog 9 #[Z 40,Z 8] I λe H=>ft I H e (MX 40 8) from(nw_s 40 8 I).J (λe H k=>T3 k));go_wp2_with fail;refine i.j.J ?_;rintro r w3 ⟨q,rfl,c,-,b⟩;rw[show MX 40 8=Qc 40 8 from AI δ]at c⊢;have o:=Y c;have a:=Y b;have v:=AC lg b.size;clear i c b;unfold LT;go_upto_region 9 with fail;generalize i:w3.alloc _=A;obtain⟨j,z,p⟩:=LK i
 have c:DkN A w3.heap.size Qy (λb=>I.heap.size<=b/\b<A.heap.size) q none 0:=⟨p.q,((o.j.I j).J (λb l k=>⟨⟨k.1,l⟩,by have:=k.2;omega,λe=>by cases e⟩)),BT _ _ _ _,⟨a.j.size,ω⟩,λb k=>by cases k⟩
 have bQ:=Y c;have cW:=Y ((f.j.I a.j).I j);have bI:=Y ((C.j.E (a.j.J C.j.size)).E (j.J (AJ C.j.size a.j.size)));obtain⟨B,u⟩:∃B,B=w3.heap.size:=⟨_,rfl⟩;rw[<-u]at bQ⊢;have lB:B<A.heap.size:=ω
 have eI:g<B:=ω
 clear i j z p c u o f a v;obtain⟨i0,a,c,f,i⟩:=pe infoByte;have o:=Y (AG a (AG c (AG f i)));clear a c f i;go_wp2_with fail;go_loopw [5,6] (λc a wr=>∃k:Nat,k<=d.length/\a=Z (k:Int)/\Yn w wr B g d k c) (λ_ a _=>d.length-(intOf a).toNat)
 case atStart =>
  refine⟨0,AL _,rfl,A.heap.size,0,λb=>I.heap.size<=b/\b<A.heap.size,q,none,0,rfl,?_⟩;have a:=LG A (.cells #[] 5);exact⟨bQ.j.I a,λb k=>AC k.2 a.size,λb k=>AJ C.j.size k.1,λk=>by have:=k.1;omega,λk=>by have:=k.2;omega,DG _ #[] 0 ω σ σ,cW.j.I a,bI.j.E (a.J bI.j.size)⟩
 case round =>
  obtain⟨k,hk,rfl,u,oc,G,q1,a1,c1,rfl,a⟩:=hrel;have f:=Y a;clear a
  by_cases U:k<d.length
  ·obtain⟨s,c⟩:∃s,s=d[k]:=⟨_,rfl⟩
   obtain⟨W,a⟩:∃x,x=Po Qy (d.take k):=⟨_,rfl⟩;obtain⟨L,hL⟩:∃x,x=Pb Qy (d.take k):=⟨_,rfl⟩;have ck:wr.cell? (yA g k)=some (yQ s):=by rw[c];exact f.j.r.cell k _ (by rw[FL,AO U];rfl)
   have V:=f.j.r.lt;have eH:(k:Int)<(d.length:Int):=ω
   have eG:(0:Int)<=(k:Int):=ω
   have i:=(Q0 (d.take k) Qy 0 Tk (λs k=>Q.j s (DM k))).J (m:=1000) (by rw[AX];omega);have cA:=Q4 dB Q.j k;have x:=Y (R0 i (AA _) s);have j:=Y (Xo s (Po Qy (d.take k)) B G q1 a1 c1 wr f.j.D i f.j.gs (Q.j s (by rw[c];exact GA U)));have p:d.take (k+1)=d.take k++[s]:=by rw[List.take_add_one,AO U,c];rfl
   have P:Hid (Pb Qy (d.take (k+1))=L++((Oy W s).2.data.toList++[10])):=Y (by rw[p,Qa,<-hL,<-a]);have bP:Hid (Po Qy (d.take (k+1))=(Oy W s).1):=Y (by rw[p,Qx,<-a]);have v:=Y f.j.o;rw[<-hL]at v cA⊢;rw[<-a]at j x;clear i c a p;go_upto_region 13 with fail;refine AV ?_;refine vl (yI (zY u 0) L.length oc) (vl (zW B 0) (vl (yI (zY g 0) d.length h) (vl (Z (k:Int)) (vl (zW g k) (vl (yQ s) ?_)))));simp only[PS];go_wp2_with fail;refine j.j.J ?_;rintro r u2 ⟨rfl,⟨q2,a2,c2,J⟩,i⟩;obtain⟨p,a⟩:∃p,p=Oy W s:=⟨_,rfl⟩;rw[<-a]at J P bP x⊢;clear a j
   try simp only[PS]
   refine‹∀(a:Act) (w:xV),wpList _ _ _ _ a w->_› _ _ ?_
   have j:=(WR (F:=λb=>¬G b) v.j (λb c=>by cases c;exact f.j.go)).keep u2 i.b0 (λb z l=>i.block b l z);have eB:=(O1 v.j (b:=u) rfl).2
   have gG:¬OE wr u2 G g:=λc=>by rcases c with c|c;exact f.j.gg c;omega
   have oG:¬OE wr u2 G u:=λc=>by rcases c with c|c;exact f.j.go c;omega
   have N:∀b,OE wr u2 G b->b<u2.heap.size:=λb c=>by rcases c with c|c;exact AC (f.j.gs b c) i.size;exact c.2
   have cP:=SX f.j.r (i.block g V f.j.gg) (AC V i.size);have S:yX w u2:=f.j.b.E ⟨i.os,i.tape,i.output,i.size,λb z=>i.block b (AC z f.j.b.size) (λc=>absurd (f.j.gl b c) ω)⟩
   have lG:∀b,OE wr u2 G b->w.heap.size<=b:=λb c=>by rcases c with c|c;exact f.j.gl b c;exact AJ f.j.b.size c.1
   have dU:=J.r.lt;obtain⟨l,c3,u3,E,O,D,bU⟩:=Ur u2 (B+1) 24 9 24 5 i0 underlying24 underlying9 o.j.1 o.j.2.1 o.j.2.2.1 o.j.2.2.2 u L.length oc _ j p.2 (by have:=x.j;omega) ω;have D3:=Wt J D oG
   have R:¬OE wr u2 G l:=λc=>by rcases bU with e|e;rw[e]at c;exact oG c;have:=N l c;omega
   have cQ:=cP.V D (λe=>by have F:g=u:=BP e;have:=(O1 v.j (b:=u) rfl).1;omega);have eE:=f.j.gl B f.j.D.gB;have K:=S.E (MF D S.size (λT e=>by have F:u=T:=BP e;have:=(O1 v.j (b:=u) rfl).1;omega));have dP:=D.size;refine R7 rfl _ _ 24 9 rfl rfl rfl _ _ E ?_;simp only[PS];clear E j;refine dt rfl (yI (zY u3.heap.size 0) 1 1) (u3.alloc (.cells #[.int .u8 10] 5)) γ ?_;simp only[PS];refine wpList_append_lies _ rfl _ _ 24 rfl (B+1) 5 i0 (.int .u8 0) 1 1 underlying24 o.j.1 o.j.2.1 o.j.2.2.1 o.j.2.2.2 rfl ω (yI (zY l 0) (L.length+p.2.size) c3) (L.length+p.2.size) _ rfl (O.alloc _) (yA u3.heap.size 0) 1 1 [.int .u8 10] rfl rfl (World.news_of_block (AU u3 _)) (by simp[Value.oneCell']) ω (by have:=x.j;unfold maxLen;omega) (by have:=x.j;omega) τ (u3.heap.size+1) σ ?_
   intro M c5 u5 aO E bV dZ;have j:=LG u3 (.cells #[.int .u8 10] 5);have D5:=Wt (D3.I j) E R
   have bW:¬OE wr u2 G M:=λc=>by rcases bV with e|e;cases e;exact R c;have:=N M c;omega
   have l3:=(O1 O (b:=l) rfl).1;have cS:=(cQ.I j).V E (λe=>by have F:g=l:=BP e;omega);have bY:=(K.E (j.J K.size)).E (MF E (AJ K.size j.size) (λT e=>by have F:l=T:=BP e;omega));have dR:=E.size;have dQ:=j.size;have T:(Pb Qy (d.take (k+1))).length=L.length+p.2.size+1:=by rw[P.j,AK,AK,<-KU];rfl
   have HF:Hid (SsN w u5 B g d (k+1) M c5 (OE wr u2 G) q2 a2 c2):=Y ⟨by rw[bP.j];exact D5,λb c=>by have:=N b c;omega,lG,gG,bW,by rw[T,P.j,DA,DA,<-Rd,<-BV];exact aO,cS,bY⟩;have b:=Y T;clear O D bU J D3 D5 i aO E bV dZ cP cQ cS S K bY gG oG N lG R bW j T dP dQ dR ck V l3 eB cA dU eE v f
   try simp only[PS]
   go_wp2;exact⟨⟨k+1,ω,ν,M,c5,_,q2,a2,c2,by rw[b.j],HF.j⟩,by simp[intOf];omega⟩
  obtain rfl:k=d.length:=ω
  have b:=fk f.j.o;have a:=Y f.j.b;rw[DF]at b⊢;clear f;go_wp2;refine AE (v:=yQ ⟨(Pb Qy d).toArray⟩) (by simp[results,results5,go_sem]) rfl ?_;rw[y.j];exact⟨rfl,a.j⟩
end
end Go.Proofs.YtkdedmclofhndaaGreatDoor
namespace Go.Proofs.YtkdedmclofhndaaGreatDoor.fnExactSession
open _root_.ByteArray(empty)
open _root_.Go.Proofs.Tryz
open Go.ChangeShapes Go.WideShapes Go.ChangeAt Go.RowKit
open Go.ChangeMaps (open_string shut_string)
theorem own:ownKnob prog.godebug=none:=κ
theorem laidOut:laidOutB prog=true:=κ
theorem gEt:prog.globalNamed "errors.errorType"=some 1:=κ
theorem gEn:prog.globalNamed "loop.example/kilnstone/impl.errNoPage"=some 7:=κ
theorem gEnT:(prog.globals[7]?).map (·.type)=some 57:=κ
theorem gEs:prog.globalNamed "strconv.ErrSyntax"=some 4:=κ
theorem gEsT:(prog.globals[4]?).map (·.type)=some 57:=κ
theorem gEr:prog.globalNamed "strconv.ErrRange"=some 5:=κ
theorem gErT:(prog.globals[5]?).map (·.type)=some 57:=κ
theorem gTt:(prog.globals[6]?).map (·.type)=some 314:=κ
theorem gD:prog.globalNamed "math/bits.deBruijn64tab"=some 9:=κ
theorem rt:(prog.cutTypes.find? (·.1 == "internal/reflectlite.rtype")).map (·.2)=some 320:=κ
theorem oneRow:((List.range prog.types.size).filter λt=>prog.rowNamed t [101,114,114,111,114])=[57]:=κ
theorem err_of{n:String}{g t:Nat}{W:xV}{a:Array qD}{f:Nat}{d:DataW Unit}{p:List MemPlace}{h:String}(e:prog.globalNamed n=some g)(hv:W.var? prog n=some a)(c:DataW.trod (λ_=>()) prog W 0 (λ_=>true) false f 57 a.toList=some (.iface h d,p)):∃b v,W.cell? (yA g 0)=some (.iface b v):=by
 obtain⟨i⟩:=a;obtain⟨_,u,v,b,_,_⟩:=iface_of_trod underlying57 c;have:=World.var?_cell e hv 0;simp at b;subst b;exact⟨u,v,by simpa using this⟩
set_option maxRecDepth 100000 in
theorem of_laid{W:xV}(h:laidMetH prog Rows.fnExactSessionRow.laid W):Vz W:=by
 have d:laidMet prog [("math/bits.deBruijn32tab",Rows.laid_math_bits_deBruijn32tab),("math/bits.deBruijn64tab",Rows.laid_math_bits_deBruijn64tab),("internal/strconv.uint64pow10",Rows.laid_internal_strconv_uint64pow10),("unicode/utf8.acceptRanges",Rows.laid_unicode_utf8_acceptRanges),("strconv.ErrRange",Rows.laid_strconv_ErrRange),("strconv.ErrSyntax",Rows.laid_strconv_ErrSyntax),("loop.example/kilnstone/impl.errNoPage",Rows.laid_loop_example_kilnstone_impl_errNoPage),("unicode/utf8.first",Rows.laid_unicode_utf8_first)] W/\handlesMet prog [("errors.errorType",Rows.laid_errors_errorType)] W:=h
 obtain⟨f,u,H,z,A,B,C,c⟩:=d.2 _ (DK.2 rfl);have D:f=[101,114,114,111,114]:=(BP z).symm;subst D;obtain rfl:=BP (rt.symm.E A)
 have e:H∈(List.range prog.types.size).filter λt=>prog.rowNamed t [101,114,114,111,114]:=List.mem_filter.2 ⟨FP.2 B,C⟩
 rw[oneRow]at e;obtain rfl:=DK.1 e;have E:typeHandle prog 57=zW 10 57:=κ
 rw[E]at c;obtain⟨ps,⟨_,_,_,_,_,_,_,_,_,_,⟨U,t1,I,P,p1,q1,l,O,a,N,⟨V,t2,J,Q,G,q2,m,q,v,g,⟨_,_,_,_,_,_,_,_,_,_,⟨X,t4,K,R,p4,q4,n,r,w,i,⟨Y,t5,L,S,p5,q5,o,s,x,j,⟨Z,t6,M,T,p6,q6,p,t,y,k,_,_⟩,_⟩,_⟩,_⟩,_⟩,_⟩,_⟩,_,_⟩:=d.1;obtain rfl:=BP (gD.symm.E l);obtain rfl:=BP (rU.symm.E m);obtain rfl:=BP (gTt.symm.E q);obtain rfl:=BP (gEr.symm.E n);obtain rfl:=BP (gErT.symm.E r);obtain rfl:=BP (gEs.symm.E o);obtain rfl:=BP (gEsT.symm.E s);obtain rfl:=BP (gEn.symm.E p);obtain rfl:=BP (gEnT.symm.E t);refine⟨?_,err_of (t:=0) gEn y k,by simpa using World.var?_cell gEt c 0,err_of (t:=0) gEs x j,err_of (t:=0) gEr w i,?_⟩
 ·rcases FX 9 W.heap.size with b|b
  ·exact b
  exfalso
  have F:W.heap[9]?=none:=EG b;unfold World.var? at a;rw[gD]at a;simp[F]at a
 unfold Lib.TabIs
 rw[v,<-Lib.cells_of_tab (k:=.u64) (zs:=Lib.pow10Tab) underlying314 underlying255 κ κ (show DataW.trod _ _ _ _ _ _ _ _ _=some (Lib.tabData .u64 Lib.pow10Tab,G) from g)]
theorem walk(s:yZ)(k:s.size<=maxLen)(w:xV)(g:laidMetH prog Rows.fnExactSessionRow.laid w):Calls prog 3 #[yQ s] w λe a=>e=yT (yR true)/\yX w a:=by
 have h:=Y (of_laid g);unfold maxLen at k;clear g
 by_cases m:s.size<=1048576
 ·have i:¬(1048576<(s.size:Int)):=ω
  have b:=Y (Un s w);have a:=Y (λwx (j:yX w wx)=>Um s wx (h.j.I j));obtain⟨R,c⟩:∃R,R=Qi s:=⟨_,rfl⟩;rw[<-c]at b a;clear c;go_enter func3,ntmps3;go_wp2_with fail;refine b.j.J ?_;rintro e l ⟨rfl,c⟩;have d:=Y (a.j l c);have f:=Y c;clear b a c;go_wp2_with fail;refine d.j.J ?_;rintro e c ⟨rfl,a⟩;have b:=Y (f.j.E (a.J f.j.size));clear d a;go_wp2;go_ret;exact⟨rfl,b.j⟩
 have i:1048576<(s.size:Int):=ω
 go_enter func3,ntmps3;go_wp2;go_ret;exact⟨rfl,AB _ _⟩
end Go.Proofs.YtkdedmclofhndaaGreatDoor.fnExactSession
