import Derived.Test.YteflhojcomcfaaaGreatDoorPrAm
import Derived.Shelf.Strings.Builder1
import Derived.Test.YteflhojcomcfaaaGreatDoorProg
import Derived.Deep.RegionHeld
import Derived.WalkKit
import Derived.Conc.MuLone
import Derived.KernelRfl
import Derived.Lib.SplitLaws
import Derived.Below
set_option maxHeartbeats 16000000
set_option maxRecDepth 8000
set_option linter.all false
namespace Go.Proofs.YteflhojcomcfaaaGreatDoor
section
open Tryz
open Go.Shelf
def si:Go.Shelf.Ren:=⟨fun|166=>15|240=>40|276=>67|169=>18|n=>n,fun|0=>0|3=>3|4=>4|5=>5|9=>9|20=>20|37=>22|70=>54|72=>56|75=>58|80=>63|164=>108|127=>80|n=>n,fun|n=>n⟩
theorem xT:Go.Proofs.Lays.n240 prog si:={
 mixed:=h
 f240:=func40.E (BD some h)
 f276:=func67.E (BD some h)
 t0:=underlying0
 a0:=isAgg0
 z0:=sizeOf0
 v0:=zeroValue0
 t4:=underlying4
 a4:=isAgg4
 z4:=sizeOf4
 v4:=zeroValue4
 t9:=underlying9
 a9:=isAgg9
 z9:=sizeOf9
 v9:=zeroValue9
 t20:=underlying20
 a20:=isAgg20
 z20:=sizeOf20
 v20:=zeroValue20
 t70:=underlying54
 a70:=isAgg54
 z70:=sizeOf54
 v70:=zeroValue54
 t72:=underlying56
 a72:=isAgg56
 z72:=sizeOf56
 v72:=zeroValue56
 t164:=underlying108
 a164:=isAgg108
 z164:=sizeOf108
 v164:=zeroValue108 }
theorem wX:Go.Proofs.Lays.n166 prog si:={
 mixed:=h
 f166:=func15.E (BD some h)
 f240:=func40.E (BD some h)
 f276:=func67.E (BD some h)
 t0:=underlying0
 a0:=isAgg0
 z0:=sizeOf0
 v0:=zeroValue0
 t3:=underlying3
 a3:=isAgg3
 z3:=sizeOf3
 v3:=zeroValue3
 t4:=underlying4
 a4:=isAgg4
 z4:=sizeOf4
 v4:=zeroValue4
 t9:=underlying9
 a9:=isAgg9
 z9:=sizeOf9
 v9:=zeroValue9
 t20:=underlying20
 a20:=isAgg20
 z20:=sizeOf20
 v20:=zeroValue20
 t37:=underlying22
 a37:=isAgg22
 z37:=sizeOf22
 v37:=zeroValue22
 t70:=underlying54
 a70:=isAgg54
 z70:=sizeOf54
 v70:=zeroValue54
 t72:=underlying56
 a72:=isAgg56
 z72:=sizeOf56
 v72:=zeroValue56
 t75:=underlying58
 a75:=isAgg58
 z75:=sizeOf58
 v75:=zeroValue58
 t164:=underlying108
 a164:=isAgg108
 z164:=sizeOf108
 v164:=zeroValue108 }
theorem Aa:Go.Proofs.Lays.n169 prog si:={
 mixed:=h
 f169:=func18.E (BD some h)
 t0:=underlying0
 a0:=isAgg0
 z0:=sizeOf0
 v0:=zeroValue0
 t3:=underlying3
 a3:=isAgg3
 z3:=sizeOf3
 v3:=zeroValue3
 t9:=underlying9
 a9:=isAgg9
 z9:=sizeOf9
 v9:=zeroValue9
 t37:=underlying22
 a37:=isAgg22
 z37:=sizeOf22
 v37:=zeroValue22
 t70:=underlying54
 a70:=isAgg54
 z70:=sizeOf54
 v70:=zeroValue54
 t72:=underlying56
 a72:=isAgg56
 z72:=sizeOf56
 v72:=zeroValue56
 t127:=underlying80
 a127:=isAgg80
 z127:=sizeOf80
 v127:=zeroValue80 }
theorem kn:Builder.Extra prog si:={
 sizeBuilder:=h
 liesBuilder:=h
 t5:=underlying5
 a5:=isAgg5
 z5:=sizeOf5
 v5:=zeroValue5
 infoByte:=h
 cellsByte:=h
 sizeByte:=h
 neB5:=by decide }
open Go.RowKit in
theorem qS(B b:Nat)(bs:List Ra)(s:Q4)(w:Q9)(h:Lib.IsBuilder 56 5 B b bs w)(c:bs.length+s.size<=140737488355328)(d:B<=w.heap.size):Calls prog 15 #[Dr b 0,Ow s] w λe a=>e=Q2 (.tuple #[Z s.size,.nilIface])/\(Lib.BuilderAt 56 5 B b (Dr b 0) (bs++Lib.strCells s) a/\Below B w a):=Any.Builder_WriteString wX kn B b bs s w h c d
open Go.RowKit in
theorem Hc(B b:Nat)(l:List UInt8)(w:Q9)(h:Lib.IsBuilder 56 5 B b (Lib.byteCells l) w)(a:B<=w.heap.size):Calls prog 18 #[Dr b 0] w λe c=>e=Q2 (Ow ⟨l.toArray⟩)/\Below B w c:=Any.Builder_String_any Aa kn B b l w h a
end
section
open Tryz
open Go
variable {a:Act}{aA:Array Bool}{aB i:Nat}{w:Q9}
section
variable {P:Program} {ops:Array Oper} {Q:Exit->Act->Q9->Prop} {md:Region.Mode} {S:Q9->Prop} {z:Nat}
def UK(P:Program)(md:Region.Mode)(ops:Array Oper)(Q:Exit->Act->Q9->Prop)(S:Q9->Prop)(z:Nat):Nat->Array Bool->Act->Q9->Prop
 | 0,listed,a,w=>Region.ready md ops listed=[]/\Q .normal a w
 | fuel+1,listed,a,w =>
  (Region.ready md ops listed=[]->Q .normal a w) /\
  ∀i∈Region.ready md ops listed,wpOp P ops Q i (λa' w'=>(i≠z->S w')/\UK P md ops Q S z fuel (listed.setIfInBounds i true) a' w') a w
theorem Aw:∀(aB:Nat) (aA:Array Bool) (a:Act) (w:Q9),UK P md ops Q S z aB aA a w->wpAny P md ops Q aB aA a w
 | 0,_,_,_,h=>h
 | aB+1,_,_,_,h=>⟨h.1,λi hi=>wpOp_mono (λa' w' h'=>Aw aB _ a' w' h'.2) (h.2 i hi)⟩
theorem Nj{l:Oper}{v:Ra}(s:ops[i]?=some l)(C:∀(j:Nat) (o:Oper) k b,ops[j]?=some o->o.op≠.select k b)
  (K:∀c a w,Q (.panic c) (a.put l.dst v) w->Q (.panic c) a w)(O:i≠z)(M:∀d,ops[z]?=some d->∃e∈d.after,Region.binds md e=true/\e.on=i):∀(aB:Nat) (aA:Array Bool) (a:Act) (w:Q9),
   (∀j d,ops[j]?=some d->j≠i->aA.getD j true=false->(∀e∈d.after,Region.binds md e=true->e.on≠i)->l.apart ops d=true) ->
   i∈Region.ready md ops aA->YieldsIf P ops S l v a->S w ->
   UK P md ops Q S z aB (aA.setIfInBounds i true) (a.put l.dst v) w->UK P md ops Q S z (aB+1) aA a w:=by
 intro aB
 induction aB with
 | zero =>
  intro aA a w _ g q m H;refine⟨λh=>(by rw[h]at g;cases g),λj p=>?_⟩
  by_cases c:j=i
  .subst c;exact q.wpOp s m ⟨λ_=>m,H⟩
  have:=ready_mono p c
  rw[H.1]at this
  cases this
 | succ aB N =>
  intro aA a w y g q m H;refine⟨λh=>(by rw[h]at g;cases g),λj p=>?_⟩
  by_cases c:j=i
  .subst c;exact q.wpOp s m ⟨λ_=>m,H⟩
  have f:=H.2 j (ready_mono p c)
  obtain⟨A,d,n,E⟩:=mem_ready.1 p
  have B:∀e∈d.after,Region.binds md e=true->e.on≠i:=λe t r h=>by
   have f:=E e t r;have t:=(mem_ready.1 g).1;rw[h]at f;rcases FV i aA.size with h|h
   .simp[h]at t f;rw[t]at f;cases f
   simp[EF h]at f
  have F:j≠z:=λe=>by
   subst e;obtain⟨x,t,r,h⟩:=M d n;exact B x t r h
  have J:=wpOp_putIf n (y j d n c A B) (λk b=>C i l k b s) (λk b=>C j d k b n) K q (wpOp_mono (λu t h=>(⟨h.1 F,h.2⟩:S t/\_)) f)
  have D:∀k b,ops[k]?=some b->k≠i->(aA.setIfInBounds j true).getD k true=false ->
    (∀e∈b.after,Region.binds md e=true->e.on≠i)->l.apart ops b=true:=λk b L G x I=>by
   refine y k b L G ?_ I
   by_cases b:j=k
   .subst b;exact A
   rw[getD_set_ne true b]at x;exact x
  refine wpOp_mono (λu t b=>⟨λ_=>b.2.1,N (aA.setIfInBounds j true) u t D (ready_mono g (JC c)) b.1 b.2.1 ?_⟩) J;rw[Array.setIfInBounds_comm _ _ c];exact b.2.2
def rm(md:Region.Mode)(ops:Array Oper)(z i:Nat):Bool:=i != z && (match ops[z]? with|some o=>o.after.any λe=>Region.binds md e && e.on == i|none=>true)
theorem sS{d:Oper}{v:Ra}(g:ops[i]?=some d)
  (p:Region.noSelect ops=true)(m:Region.free md ops aA i=true)(o:(Region.ready md ops aA).contains i=true)(b:rm md ops z i=true)
  (j:∀c a w,Q (.panic c) (a.put d.dst v) w->Q (.panic c) a w)(q:YieldsIf P ops S d v a)(k:S w)
  (h:UK P md ops Q S z aB (aA.setIfInBounds i true) (a.put d.dst v) w):UK P md ops Q S z (aB+1) aA a w:=by
 unfold rm at b;rw[BF]at b;refine Nj g (Region.noSelect_spec p) j (by simpa using b.1) (λr n=>?_) aB aA a w (Region.free_spec g m) (by simpa using o) q k h;have f:=b.2;rw[n]at f;obtain⟨e,l,c⟩:=Array.any_eq_true'.1 f;rw[BF]at c;exact⟨e,l,c.1,by simpa using c.2⟩
def AllReadyT(P:Program)(md:Region.Mode)(ops:Array Oper)(Q:Exit->Act->Q9->Prop)(S:Q9->Prop)(z:Nat)(aB:Nat)(aA:Array Bool)(a:Act)(w:Q9)(d:List Nat):Prop :=∀i∈d,wpOp P ops Q i (λc b=>(i≠z->S b)/\UK P md ops Q S z aB (aA.setIfInBounds i true) c b) a w
theorem AllReadyT.nil:AllReadyT P md ops Q S z aB aA a w []:=λ_ h=>by cases h
theorem AllReadyT.cons{o:Oper}{e:List Nat}(k:ops[i]?=some o)
  (h:∀b:Act->Q9->Prop,Shut (∀a w,S w->(S w->UK P md ops Q S z aB (aA.setIfInBounds i true) a w)->b a w)->if Region.wanted o (yielded ops a.tmps)=true then Oper.wp P o a w b Q else b (a.put o.dst undef) w)
  (l:AllReadyT P md ops Q S z aB aA a w e):AllReadyT P md ops Q S z aB aA a w (i::e):=λj c=>by
 rcases DZ.1 c with rfl|c
 .exact wpOp_step k (λb f=>h b (λa w d g=>f a w ⟨λ_=>d,g d⟩))
 exact l j c
theorem AllReadyT.last{o:Oper}(e:ops[z]?=some o)
  (h:∀b:Act->Q9->Prop,Shut (∀a w,True->(True->UK P md ops Q S z aB (aA.setIfInBounds z true) a w)->b a w)->if Region.wanted o (yielded ops a.tmps)=true then Oper.wp P o a w b Q else b (a.put o.dst undef) w):AllReadyT P md ops Q S z aB aA a w [z]:=λj c=>by
 rw[DL]at c;subst c;exact wpOp_step e (λb c=>h b (λa w _ d=>c a w ⟨λk=>absurd rfl k,d trivial⟩))
theorem QZ{rs:List Nat}(b:Region.ready md ops aA=rs)(c:rs≠[])
  (h:AllReadyT P md ops Q S z aB aA a w rs):UK P md ops Q S z (aB+1) aA a w:=⟨λd=>absurd (b ▸ d) c,b ▸ h⟩
theorem VE(hr:Region.ready md ops aA=[])(h:Q .normal a w):∀aB,UK P md ops Q S z aB aA a w
 | 0=>⟨hr,h⟩
 | _+1=>⟨λ_=>h,by rw[hr];simp⟩
theorem WN{d:Nat}(z:Nat)(c:P.follows .mixedOrders=true)(b:S w.drew)
  (h:S w.drew->UK P .any ops Q S z ops.size (Array.replicate ops.size false) a w.drew):(Code.region d ops true).wp P Q a w :=wp_region_any c (Aw _ _ _ _ (h b))
end
end
section
open Tryz
open Go Go.RowKit
variable {a:Act}{aA:Array Bool}{ops:Array Oper}{Q:Exit->Act->Q9->Prop}{aB:Nat}{P:Program}{md:Region.Mode}{w:Q9}{S:Q9->Prop}
theorem ME{z:Nat}(i:Nat){b:Oper}(v:Ra)(g:ops[i]?=some b)(l:YieldsIf P ops S b v a)(e:S w)
  (h:UK P md ops Q S z aB (aA.setIfInBounds i true) (a.put b.dst v) w)(k:Region.noSelect ops=true:=by kernel_rfl)(f:Region.free md ops aA i=true:=by kernel_rfl)(j:(Region.ready md ops aA).contains i=true:=by kernel_rfl)(m:rm md ops z i=true:=by kernel_rfl)
  (d:∀c a w,Q (.panic c) (a.put b.dst v) w->Q (.panic c) a w:=by exactλ_ _ _ h=>h):UK P md ops Q S z (aB+1) aA a w:=sS g k f j m d l e h
theorem OK{z:Nat}(i:Nat){d:Oper}(v:Ra)(k:ops[i]?=some d)(g:S w)
  (h:UK P md ops Q S z aB (aA.setIfInBounds i true) (a.put d.dst v) w)(n:YieldsIf P ops S d v a:=by exact AT ⟨ρ,λw hw=>by(repeat (obtain⟨_,hw⟩:=hw));go_simp⟩)(m:Region.noSelect ops=true:=by kernel_rfl)(j:Region.free md ops aA i=true:=by kernel_rfl)(l:(Region.ready md ops aA).contains i=true:=by kernel_rfl)(o:rm md ops z i=true:=by kernel_rfl)
  (e:∀c a w,Q (.panic c) (a.put d.dst v) w->Q (.panic c) a w:=by exactλ_ _ _ h=>h):UK P md ops Q S z (aB+1) aA a w:=sS k m j l o e n g h
theorem OJ{z:Nat}(i:Nat){o:Oper}(c:ops[i]?=some o)
  (h:∀b:Act->Q9->Prop,Shut (∀a w,S w->(S w->UK P md ops Q S z aB (aA.setIfInBounds i true) a w)->b a w)->if Region.wanted o (yielded ops a.tmps)=true then Oper.wp P o a w b Q else b (a.put o.dst undef) w)
  (b:Region.ready md ops aA=[i]:=by kernel_rfl):UK P md ops Q S z (aB+1) aA a w:=QZ b j (AllReadyT.cons c h AllReadyT.nil)
end
section
open Tryz
abbrev Qt:Go.Conc.Locks.MuLink:={ lock:=139,unlock:=140,ilock:=202,iunlock:=203,lockSlow:=261,unlockSlow:=264,disable:=257,enable:=259,acquire:=260,relMerge:=262,cas32:=258,add32:=263,tMutex:=138,tIMutex:=136,tPMutex:=228,tPIMutex:=292,tPI32:=294,tUP:=108,tNoCopy:=133,tU32:=134 }
theorem yT:Go.Conc.Locks.MuLib prog Qt :=⟨func139,func140,func202,func203,func257,func259,func260,func262,func258,func263,underlying136,runUnderlying136,sizeOf136,isAgg136,zeroValue136,underlying138,runUnderlying138,sizeOf138,isAgg138,zeroValue138,underlying228,runUnderlying228,sizeOf228,isAgg228,zeroValue228,underlying292,runUnderlying292,sizeOf292,isAgg292,zeroValue292,underlying294,runUnderlying294,sizeOf294,isAgg294,zeroValue294,underlying108,runUnderlying108,sizeOf108,isAgg108,zeroValue108,underlying133,runUnderlying133,sizeOf133,isAgg133,zeroValue133,underlying21,runUnderlying21,sizeOf21,isAgg21,zeroValue21,h⟩
end
section
open Tryz
open Go.RowKit
variable {s:Q4}{Q:List Q4}{f i:Nat}
def TA(b:UInt8):List UInt8->List (List UInt8)
 | []=>[[]]
 | x::l=>if x=b then []::TA b l else (x::(TA b l).headD [])::(TA b l).tail
theorem ud(b:UInt8)(l:List UInt8):TA b l≠[]:=by
 cases l with
 | nil=>simp[TA]
 | cons x l=>unfold TA;split<;>simp
theorem uo{b:UInt8}:∀ {p:List UInt8},b ∉ p->TA b p=[p]
 | [],_=>rfl
 | x::l,h=>by
  rw[DZ,not_or]at h;unfold TA;rw[AF (λe=>h.1 e.symm),uo h.2];rfl
theorem uf{b:UInt8}:∀ {p:List UInt8} (q:List UInt8),b ∉ p->TA b (p++b::q)=p::TA b q
 | [],q,_=>by simp[TA]
 | x::l,q,h=>by
  rw[DZ,not_or]at h;rw[EX,TA,AF (λe=>h.1 e.symm),uf q h.2];rfl
theorem Of(b:UInt8)(l:List UInt8):(TA b l).length<=l.length+1:=by
 induction l with
 | nil=>simp[TA]
 | cons x l a =>
  unfold TA;have:=ud b l
  split
  .simp;omega
  simp only[BN,List.length_tail];omega
theorem Fa{b:UInt8}{l p:List UInt8}(h:p∈TA b l):p.length<=l.length:=by
 induction l generalizing p with
 | nil=>simp[TA]at h;subst h;simp
 | cons x l c =>
  unfold TA at h
  split at h
  .rcases DZ.1 h with rfl|h
   .simp
   have:=c h;simp;omega
  obtain⟨a,t,e⟩:=List.exists_cons_of_ne_nil (ud b l)
  rw[e]at h;rcases DZ.1 h with rfl|h
  .have:=c (p:=a) (by rw[e];simp);simpa using this
  have:=c (p:=p) (by rw[e];exact DK _ h);simp;omega
def MO(b:UInt8)(s:Q4):List Q4:=(TA b s.data.toList).map λl=>⟨l.toArray⟩
theorem VT{t:Q4}(h:s.data.toList=t.data.toList):s=t:=by
 cases s;cases t;congr;exact Array.toList_inj.1 h
def ee(s:Q4)(b:UInt8)(i f:Nat)(Q:List Q4):Prop:=f<=i/\i<=s.size/\MO b s=Q++(TA b (s.data.toList.drop f)).map (λl=>(⟨l.toArray⟩:Q4))/\b ∉ (s.data.toList.drop f).take (i-f)
theorem Db(s:Q4)(b:UInt8):ee s b 0 0 []:=⟨C,AL,by simp[MO],j⟩
theorem F9{b:UInt8}(h:ee s b i f Q)(e:i<s.size)(k:s[i]≠b):ee s b (i+1) f Q:=by
 obtain⟨l,m,a,c⟩:=h;refine⟨d,d,a,?_⟩;have g:i<s.data.toList.length:=e;rw[show i+1-f=(i-f)+1 by omega,List.take_add_one,BZ,not_or];refine⟨c,?_⟩;rw[FE,show f+(i-f)=i by omega,AO g];intro j;exact k (DL.1 j).symm
theorem Iy{l:List UInt8}(b:f<=i)(a:i<l.length):l.drop f=(l.drop f).take (i-f)++l[i]::l.drop (i+1):=by
 conv=>lhs;rw[<-FL (i-f) (l.drop f)]
 rw[GO,show f+(i-f)=i by omega,FW a]
theorem sB(s:Q4)(f i:Nat)(h:i<=s.size):s.extract f i=⟨((s.data.toList.drop f).take (i-f)).toArray⟩:=by
 apply VT
 rw[Lib.extract_data]
theorem Kx{b:UInt8}(h:ee s b i f Q)(k:i<s.size)(a:s[i]=b):ee s b (i+1) (i+1) (Q++[s.extract f i]):=by
 obtain⟨c,m,e,g⟩:=h;have l:i<s.data.toList.length:=k;have a:s.data.toList[i]=b:=a;refine⟨C,d,?_,j⟩;rw[e,Iy c l,a,uf _ g,sB s f i d,FY,BY];rfl
theorem Hn{b:UInt8}(h:ee s b s.size f Q):MO b s=Q++[s.extract f s.size]:=by
 obtain⟨d,e,c,a⟩:=h;have g:s.data.toList.length=s.size:=z;rw[AS (by rw[BS];omega)]at a;rw[c,uo a,sB s f s.size C,AS (by rw[BS];omega)];rfl
theorem nf(b:UInt8)(s:Q4):(MO b s).length<=s.size+1:=by
 unfold MO;rw[BP];exact Of b s.data.toList
theorem Gc{b:UInt8}(h:ee s b i f Q):Q.length<=s.size+1:=by
 have:=nf b s;rw[h.2.2.1,AK]at this;omega
theorem rn(b:UInt8)(s:Q4):0<(MO b s).length:=by
 unfold MO;rw[BP];exact List.length_pos_iff.2 (ud _ _)
theorem qz{b:UInt8}{t:Q4}(h:t∈MO b s):t.size<=s.size:=by
 obtain⟨l,a,rfl⟩:=DW.1 h;exact Fa a
def SM(c:UInt8):Bool:=decide (33<=c.toNat/\c.toNat<=126/\c.toNat≠37)
def NG(c:UInt8):Int:=if 48<=c.toNat/\c.toNat<=57 then (c.toNat:Int)-48 else if 97<=c.toNat/\c.toNat<=102 then (c.toNat:Int)-87 else -1
def mp(a b:UInt8):Option UInt8:=if 0<=NG a/\0<=NG b then some (UInt8.ofNat (16*(NG a).toNat+(NG b).toNat)) else none
def VX:Nat->List UInt8->Option (List UInt8)
 | _,[]=>some []
 | 0,_=>none
 | k+1,c::r =>
  if SM c=true then (VX k r).map (c::·)
  else if c.toNat=37/\2<=r.length then (mp (r.getD 0 0) (r.getD 1 0)).bind λx=>(VX k (r.drop 2)).map (x::·)
  else none
theorem oL:∀(k j:Nat) (l:List UInt8),l.length<=k->l.length<=j->VX k l=VX j l
 | k,j,[],_,_=>by cases k<;>cases j<;>rfl
 | 0,_,_::_,h,_=>by simp at h
 | _+1,0,_::_,_,h=>by simp at h
 | k+1,j+1,c::r,h1,h2=>by
  simp only[BN]at h1 h2;rw[VX,VX,oL k j r ω ω,oL k j (r.drop 2) (by rw[BS];omega) (by rw[BS];omega)]
def RG(l:List UInt8):Option (List UInt8):=VX l.length l
theorem In{c:UInt8}{r:List UInt8}(h:SM c=true):RG (c::r)=(RG r).map (c::·):=by rw[RG,BN,VX,G h];rfl
theorem Lf{c:UInt8}{r:List UInt8}(h:SM c=false)(a:c.toNat≠37):RG (c::r)=none:=by rw[RG,BN,VX,A (by simp[h]),A (λe=>a e.1)]
theorem yZ{c:UInt8}(h:c.toNat=37):SM c=false:=by simp[SM,h]
theorem Aq{c a b:UInt8}{d:List UInt8}(h:c.toNat=37):RG (c::a::b::d)=(mp a b).bind λx=>(RG d).map (x::·):=by
 rw[RG,BN,VX,A (by simp[yZ h]),G ⟨h,j⟩];show((mp a b).bind λx=>(VX (a::b::d).length d).map (x::·))=_;rw[oL (a::b::d).length d.length d q C];rfl
theorem Ke{c:UInt8}{r:List UInt8}(h:c.toNat=37)(a:r.length<2):RG (c::r)=none:=by
 rw[RG,BN,VX,A (by simp[yZ h]),A (λe=>d)]
def NN(s:Q4):Option Q4:=if s.data.toList=[45] then some ByteArray.empty else (RG s.data.toList).map λl=>⟨l.toArray⟩
def XT(s:Q4)(i:Nat)(D:List UInt8):Prop:=i<=s.size/\D.length<=i/\RG s.data.toList=(RG (s.data.toList.drop i)).map (D++·)
theorem zO(s:Q4):XT s 0 []:=⟨AL,C,by cases h:RG s.data.toList<;>simp[h]⟩
theorem xR{o:Option (List UInt8)}{D:List UInt8}{x:UInt8}:(o.map (x::·)).map (D++·)=o.map ((D++[x])++·):=by cases o<;>simp
theorem df(a:i<s.size):s.data.toList.drop i=s[i]::s.data.toList.drop (i+1):=FW (show i<s.data.toList.length from a)
theorem zW{D:List UInt8}(h:XT s i D)(b:i<s.size)(c:SM s[i]=true):XT s (i+1) (D++[s[i]]):=by
 obtain⟨e,g,a⟩:=h;exact⟨d,q,by rw[a,df b,In c,xR]⟩
theorem mU{D:List UInt8}(h:XT s i D)(b:i<s.size)(c:SM s[i]=false)(a:s[i].toNat≠37):RG s.data.toList=none:=by
 rw[h.2.2,df b,Lf c a];rfl
theorem t7{D:List UInt8}(h:XT s i D)(b:i<s.size)(a:s[i].toNat=37)(c:s.size<=i+2):RG s.data.toList=none:=by
 rw[h.2.2,df b,Ke a (by rw[BS];have:s.data.toList.length=s.size:=z;omega)];rfl
theorem vZ{D:List UInt8}(h:XT s i D)(g:i+2<s.size)(a:s[i].toNat=37)(c:0<=NG s[i+1])(e:0<=NG s[i+2]):XT s (i+3) (D++[UInt8.ofNat (16*(NG s[i+1]).toNat+(NG s[i+2]).toNat)]):=by
 obtain⟨j,k,b⟩:=h;refine⟨d,q,?_⟩;rw[b,df (show i<s.size by omega),df (show i+1<s.size by omega),df g,Aq a,mp,G ⟨c,e⟩];exact xR
theorem zx{D:List UInt8}(h:XT s i D)(b:i+2<s.size)(a:s[i].toNat=37)(c:¬(0<=NG s[i+1]/\0<=NG s[i+2])):RG s.data.toList=none:=by
 rw[h.2.2,df (show i<s.size by omega),df (show i+1<s.size by omega),df b,Aq a,mp,A c];rfl
theorem zL{D:List UInt8}(h:XT s s.size D):RG s.data.toList=some D:=by
 rw[h.2.2,EA (show s.data.toList.length<=s.size from C)];simp[RG,VX]
theorem tp(c:UInt8):-1<=NG c/\NG c<=15:=by
 unfold NG
 split
 .omega
 split<;>omega
def WH(n:Nat):UInt8:=if n<10 then UInt8.ofNat (48+n) else UInt8.ofNat (87+n)
def UP(l:List UInt8):List UInt8:=l.flatMap λc=>if SM c=true then [c] else [37,WH (c.toNat / 16),WH (c.toNat % 16)]
theorem uM(l:List UInt8)(c:UInt8):UP (l++[c])=UP l++(if SM c=true then [c] else [37,WH (c.toNat / 16),WH (c.toNat % 16)]):=by simp[UP]
theorem pS(l:List UInt8):(UP l).length<=3*l.length:=by
 induction l with
 | nil=>simp[UP]
 | cons c l a =>
  unfold UP at a⊢;rw[IB,AK];have:(if SM c=true then [c] else [37,WH (c.toNat / 16),WH (c.toNat % 16)]).length<=3:=by split<;>simp
  simp only[BN];omega
def shO(s:Q4):Q4:=if s.size=0 then ⟨#[45]⟩ else if s.data.toList=[45] then ⟨#[37,50,100]⟩ else ⟨(UP s.data.toList).toArray⟩
