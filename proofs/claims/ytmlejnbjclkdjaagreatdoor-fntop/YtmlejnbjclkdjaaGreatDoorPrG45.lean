import Derived.Test.YtmlejnbjclkdjaaGreatDoorPrAq
import Derived.Test.YtmlejnbjclkdjaaGreatDoorPrG44
import Derived.Deep.Cut
import Derived.Deep.CutRange
set_option maxHeartbeats 16000000
set_option maxRecDepth 8000
set_option linter.all false
namespace Go.Proofs.YtmlejnbjclkdjaaGreatDoor
section
open Tryz
open Go.RowKit
variable {a:Act}{aB:Array Oper}{Q:Exit->Act->Nb->Prop}{ws:List (Int×Y)}{ss:List Y}{aA:List Oper}{cs:List Nc}{B g hi lo n:Nat}{o op:Oper}{r:Option Nat}{P:Program}{a0 a1 a2 a3 a4 a5 a6 a7 a8 a9 v0 v1:Nc}{w w':Nb}{F:Nb->Prop}
@[reducible] def MH(a:M6)(n c:Nat):Nc:=.agg #[.slice a n c]
@[reducible] def LF(a:M6)(n c:Nat)(b:M6)(e d:Nat):Nc:=.agg #[.slice a n c,.slice b e d]
theorem SN:(prog.info? 9).map (λi=>(i.zero,i.size,i.bytes))=some (some (Mz ByteArray.empty),1,16):=κ
theorem UK:(prog.info? 133).map (λi=>(i.zero,i.size,i.bytes))=some (some (.agg #[.int .i64 0,Mz ByteArray.empty]),2,24):=κ
theorem UT{W c:Nb}(d:Below W.heap.size W c):(∀b o,b<W.heap.size->c.cell? ⟨b,o,none⟩=W.cell? ⟨b,o,none⟩)/\(∀b o,b<W.heap.size->c.frozen? ⟨b,o,none⟩=W.frozen? ⟨b,o,none⟩) :=⟨λb o h=>d.cell (p:=⟨b,o,none⟩) h,λb o h=>d.frozen (p:=⟨b,o,none⟩) h⟩
theorem WN(z:Nc)(d:z.cells=#[z])(n:Nat):(madeCells z.cells (n*1)).toList=List.replicate n z:=by
 unfold madeCells;rw[KM,Array.toList_map,Array.toList_range,KU];refine⟨σ,λb c=>?_⟩;obtain⟨i,_,rfl⟩:=DS.1 c;rw[d];have:i % (#[z]:Array Nc).size=0:=by simp[Nat.mod_one]
 rw[this];rfl
theorem Dsk.start(w:Nb)(d f e h:TypeId):Dsk w ((w.alloc (.cells #[.slice none 0 0,.slice none 0 0] d)).alloc (.cells #[.slice none 0 0,.slice none 0 0] f)) w.heap.size (w.heap.size+1) (w.heap.size+1+1) e h (.slice none 0 0) (.slice none 0 0) [] []:=by
 have i:Below w.heap.size w ((w.alloc (.cells #[.slice none 0 0,.slice none 0 0] d)).alloc (.cells #[.slice none 0 0,.slice none 0 0] f)):=(LO _ _).alloc σ _;have c:=(MT w #[.slice none 0 0,.slice none 0 0] d).alloc (.cells #[.slice none 0 0,.slice none 0 0] f);have b:=MT (w.alloc (.cells #[.slice none 0 0,.slice none 0 0] d)) #[.slice none 0 0,.slice none 0 0] f;simp only[BD]at b;exact⟨AA _,ω,ω,ω,ω,σ,i,c.y 0,c.y 1,c.A 0,c.A 1,b.y 0,b.y 1,b.A 0,b.A 1,DA _ _ _ _,DA _ _ _ _,.inl rfl⟩
theorem MK{e:TypeId}{z:Nc}{b aA:Nat}(h:(P.info? e).map (λi=>(i.zero,i.size,i.bytes))=some (some z,b,aA)):∃i,P.info? e=some i/\i.zero=some z/\i.size=b/\i.bytes=aA:=by
 obtain⟨i,hi,c⟩:=EZ.1 h;simp only[BV]at c;exact⟨i,hi,c⟩
theorem OF(b:TypeId)(x:Operand)(c:op.op=.load b x)(h:wpList P aB Q (op::aA) a w):wpList P aB Q (op::aA) a w:=h
theorem MW(b:TypeId)(x y:Operand)(c:op.op=.store b x y)(h:wpList P aB Q (op::aA) a w):wpList P aB Q (op::aA) a w:=h
structure Cx(w:Nb)(B:Nat)(v0 v1:Nc):Prop where
 lt:B<w.heap.size
 c0:w.cell? ⟨B,0,none⟩=some v0
 c1:w.cell? ⟨B,1,none⟩=some v1
theorem Cx.I(h:Cx w B v0 v1)(b:Below w.heap.size w w'):Cx w' B v0 v1 :=⟨AD h.lt b.size,(b.cell (p:=⟨_,0,none⟩) h.lt).j h.c0,(b.cell (p:=⟨_,1,none⟩) h.lt).j h.c1⟩
theorem Cx.J(h:Cx w B v0 v1)(b:w.grownBy w' r)(c:some B≠r):Cx w' B v0 v1 :=⟨AD h.lt b.size,(DH (a:=⟨B,0,none⟩) (b.block B h.lt c)).j h.c0,(DH (a:=⟨B,1,none⟩) (b.block B h.lt c)).j h.c1⟩
theorem Cx.drew(h:Cx w B v0 v1):Cx w.drew B v0 v1:=⟨h.lt,h.c0,h.c1⟩
theorem Cx.new(w:Nb)(v0 v1:Nc)(t:TypeId):Cx (w.alloc (.cells #[v0,v1] t)) w.heap.size v0 v1 :=⟨σ,by rw[EL _ _ _ _ rfl];rfl,by rw[EL _ _ _ _ rfl];rfl⟩
theorem LD(w:Nb)(o:Obj):Below w.heap.size w (w.alloc o):=LO _ _
theorem Below.then{a b c:Nb}(h:Below B a b)(d:B<=a.heap.size)(k:Below b.heap.size b c):Below B a c:=h.j (k.z (AK d h.size))
theorem LM(w:Nb)(A:Array Nc)(t:TypeId)(g:Nat)(b:g=w.heap.size):Row (w.alloc (.cells A t)) g A.toList:=by subst b;exact MT w A t
theorem XO(d x:Operand)(b:Array TypeId)(c:op.op=.call { callee:=.builtin .copy,args:=#[d,x],argTypes:=b })(h:wpList P aB Q (op::aA) a w):wpList P aB Q (op::aA) a w:=h
theorem QL{p:Array Oper}{m:List Oper}(u:o.guard=none)(d x:Operand)(l s:TypeId)
  (y:o.op=.call { callee:=.builtin .copy,args:=#[d,x],argTypes:=#[l,s] })(aB:TypeId)(E:P.underlying l=some (.slice aB))(H:∀w,(Go.sizeOf aB).run P w=.ok 1 w)
  (g n c:Nat)(A:a.eval d=.slice (Mw g 0) n c)(t:Y)(G:a.eval x=Mz t)(J:t.size=n)(cs:List Nc)(aA:Row w g cs)(I:cs.length=n)
  (h:∀b,Row b g ((LI t).map (Value.int .u8))->w.grownBy b (some g)->b.heap.size=w.heap.size->wpList P p Q m (a.put o.dst (goInt t.size)) b):wpList P p Q (o::m) a w:=by
 have q:∀j,j<t.size->(w.cell? ⟨g,0+j,none⟩).isSome=true:=λj f=>by
  rw[BG,aA.cell j _ (BQ ω)];rfl
 have C:∀j,j<t.size->w.frozen? ⟨g,0+j,none⟩=false:=λj f=>by rw[BG];exact aA.froz j ω
 have j:=run_copy_string (P:=P) w l s o.type aB g 0 n c t E H ω q C;have b:=sA w g 0 t q
 refine IW u λK z=>?_
 unfold Oper.wp;simp[execOp,y,resolve,invoke,builtin,A,G,j,Result.andThen];refine z _ _ (h _ ⟨by rw[b.size];exact aA.lt,λi v hv=>?_,λi hi=>?_⟩ ⟨b.os,b.tape,b.output,Nat.le_of_eq b.size.symm,λk _ D=>b.others k (λe=>D (by rw[e]))⟩ b.size)
 ·obtain⟨f,e⟩:=DJ.1 hv
  simp at f;have:=b.inside i (by simpa[NH] using f);rw[BG]at this;rw[this];simp at e;subst e;simp[List.getD,BQ f]
 rw[b.frozen];exact aA.froz i (by simp[NH]at hi;omega)
theorem Row.range(h:Row w g cs):w.rangeAt g 0 cs:=λj v hv=>by rw[BG];exact h.cell j v hv
theorem Row.there(h:Row w g cs)(c:n=cs.length):w.there g 0 n:=λj b=>by
 rw[BG,h.cell j _ (BQ ω)];exact⟨rfl,h.froz j ω⟩
def UZ:Array Nc:=Array.replicate 64 (.int .u8 0)
set_option maxRecDepth 4000 in
theorem TR(t:Y)(w:Nb)(c:t.size=64):Calls prog 86 #[Mz t] w λe w'=>e=M3 (.agg ((LI t).map (Value.int .u8)).toArray)/\Below w.heap.size w w':=by
 have b:(LI t).length=64:=by rw[NH,c]
 have aA:Hid ((prog.info? 142).map (·.size)=some ((LI t).map (Value.int .u8)).length):=by show _=_;rw[BU,b];kernel_rfl
 have d:((LI t).map (Value.int .u8)).toArray.size=64:=by simp[b]
 have h:=Z c;clear c;go_enter func86,ntmps86
 go_wp2_with (first|(with_reducible refine XO _ _ _ rfl ?_;refine QL rfl _ _ _ _ rfl 5 underlying22 (λ_=>κ) (w.heap.size+1) 64 64 rfl t rfl h.l _ (by exact LM _ _ _ _ σ) κ ?_;intro l i aB j;have e:=(((MT w _ _).alloc _).J aB σ);have f:=Z (((LO _ _).alloc σ _).j (NR aB τ (λg k=>by cases k;omega)));clear aB j)|(with_reducible refine OF 142 _ rfl ?_;refine AS rfl 142 _ rfl (w.heap.size+1) 0 rfl ((LI t).map (Value.int .u8)) _ i.range underlying142 rfl aA.l ?_)|(with_reducible refine MW 142 _ _ rfl ?_;refine BI rfl 142 _ _ rfl w.heap.size 0 ((LI t).map (Value.int .u8)).toArray rfl rfl (by rw[d];exact e.there κ) (by rw[d];kernel_rfl) (GH (WB (LI t))) ?_))
 refine AJ (v:=.agg ((LI t).map (Value.int .u8)).toArray) (wH (p:=2) results86 _ _ w.heap.size 0 rfl ((LI t).map (Value.int .u8)) _ (EG _ _ _ _ (by rw[BU,b];exact e.there κ)) underlying142 rfl aA.l) rfl ⟨rfl,?_⟩;exact Go.below_setCells (AA _) _ _ _ f.l
theorem LR{a b:Bool}(h:a=b):M3 (M0 a)=M3 (M0 b):=by rw[h]
def PL(n:Nat)(x:Int×Y):Bool:=decide (0<=x.1/\x.1<(n:Int)/\(x.2.size:Int)=64)
def LE(ss:List Y)(ws:List (Int×Y)):Bool:=decide (8<=ss.length/\ss.length<=200/\ws.length<=300) && ss.all (λs=>decide ((s.size:Int)=64)) && ws.all (PL ss.length)
theorem OV(h:¬(8<=ss.length/\ss.length<=200/\ws.length<=300)):LE ss ws=false:=by simp[LE,h]
theorem RH{s:Y}(b:s∈ss)(h:¬(s.size:Int)=64):LE ss ws=false:=by
 have:ss.all (λs=>decide ((s.size:Int)=64))=false:=GE.2 ⟨s,b,by simpa using h⟩;simp[LE,this]
theorem RJ{x:Int×Y}(b:x∈ws)(h:PL ss.length x=false):LE ss ws=false:=by
 have:ws.all (PL ss.length)=false:=GE.2 ⟨x,b,by simp[h]⟩;simp[LE,this]
theorem MQ(h:8<=ss.length/\ss.length<=200/\ws.length<=300)(b:∀s∈ss,(s.size:Int)=64)(c:∀x∈ws,PL ss.length x=true):LE ss ws=true:=by
 simp only[LE,AX,AT,EH];exact⟨⟨h,b⟩,c⟩
theorem LK(h:LE ss ws=true):(8<=ss.length/\ss.length<=200/\ws.length<=300)/\(∀s∈ss,(s.size:Int)=64)/\∀x∈ws,PL ss.length x=true:=by
 simp only[LE,AX,AT,EH]at h;exact⟨h.1.1,h.1.2,h.2⟩
theorem WV{x:Int}{s:Y}(b:0<=x)(c:x<(n:Int)):((s.size:Int) == 64)=PL n (x,s):=by
 rw[IY];simp[PL,b,c]
theorem UU(n:Nat)(x:Int)(s:Y)(w:Nb)(f:s.size<=1048576)(d:n<=1048576):Calls prog 109 #[.int .i64 (n:Int),.int .i64 x,Mz s] w λe w'=>e=M3 (M0 (PL n (x,s)))/\w'=w:=by
 by_cases b:0<=x
 ·by_cases c:x<(n:Int)
  ·go_enter func109,ntmps109
   go_wp2;go_ret;exact⟨LR (WV b c),rfl⟩
  go_enter func109,ntmps109
  go_wp2;go_ret;exact⟨LR (by simp[PL];omega),rfl⟩
 go_enter func109,ntmps109
 go_wp2;go_ret;exact⟨LR (by simp[PL];omega),rfl⟩
theorem YP(a:M6)(n c:Nat)(b:M6)(h d:Nat)(x:Int)(s:Y)(w:Nb)(j:s.size<=1048576)(i:n<=1048576):Calls prog 77 #[LF a n c b h d,.int .i64 x,Mz s] w λe w'=>e=M3 (M0 (PL n (x,s)))/\Below w.heap.size w w':=by
 by_cases e:0<=x
 ·by_cases f:x<(n:Int)
  ·go_enter func77,ntmps77
   go_wp2;go_ret;exact⟨LR (WV e f),LO _ _⟩
  go_enter func77,ntmps77
  go_wp2;go_ret;exact⟨LR (by simp[PL];omega),LO _ _⟩
 go_enter func77,ntmps77
 go_wp2;go_ret;exact⟨LR (by simp[PL];omega),LO _ _⟩
theorem QF(n:Int)(w:Nb):Calls prog 52 #[.int .i64 n] w λe w'=>e=M3 (M0 (decide (8<=n/\n<=200)))/\w'=w:=by
 by_cases c:8<=n
 ·by_cases b:n<=200
  ·go_enter func52,ntmps52
   go_wp2;go_ret;exact⟨LR (by simp[c,b]),rfl⟩
  go_enter func52,ntmps52
  go_wp2;go_ret;exact⟨LR (by simp[b]),rfl⟩
 go_enter func52,ntmps52
 go_wp2;go_ret;exact⟨LR τ,rfl⟩
theorem NF(a:M6)(ss:List Y)(c:Nat)(l:M6)(ws:List (Int×Y))(q:Nat)(w:Nb)(h:Strs w a ss)(H:Wrs w l ws)(U:ss.length<=1048576)(M:ws.length<=1048576)(W:∀s∈ss,s.size<=1048576)(G:∀x∈ws,x.2.size<=1048576):Calls prog 57 #[LF a ss.length c l ws.length q] w λe w'=>e=M3 (M0 (LE ss ws))/\Below w.heap.size w w':=by
 have m:∀b,Below w.heap.size w (w.alloc b):=λb=>LO _ _
 obtain⟨R,f⟩:∃R,Hid (R=LE ss ws):=⟨_,Z rfl⟩;rw[<-f.l]
 by_cases y:8<=(ss.length:Int)/\(ss.length:Int)<=200
 focus
  have v:decide (8<=(ss.length:Int)/\(ss.length:Int)<=200)=true:=AL y;obtain⟨N,O⟩:=y
  by_cases V:(ws.length:Int)<=300
  ·go_enter func57,ntmps57
   go_wp2_with (go_at_call 52;refine(QF _ _).z ?_;rw[v];rintro e w' ⟨rfl,rfl⟩);go_loop [4,21] (λ_ i=>∃k:Nat,k<=ss.length/\i=.int .i64 k/\Hid (∀s∈ss.take k,(s.size:Int)=64)) (λ_ i=>ss.length-(intOf i).toNat)
   case atStart =>
    exact⟨0,AM _,rfl,by show ∀s∈ss.take 0,_;simp⟩
   case round =>
    obtain⟨k,T,rfl,u⟩:=hrel
    by_cases p:k<ss.length
    ·obtain⟨b,o,s,rfl,I,j⟩:=(h.I (m (.cells #[.slice a ss.length c,.slice l ws.length q] 26))).at p
     have t:Hid (s∈ss):=by show _∈_;rw[j.l];simp[List.getD,p]
     by_cases d:((s.size:Int) != 64)=true
     ·go_wp2
      go_ret;exact⟨LR (by rw[f.l];exact(RH t.l (by simpa using d)).symm),m _⟩
     have A:((s.size:Int) != 64)=false:=by simpa using d
     have z:Hid ((s.size:Int)=64):=by show _=_;simpa using d
     clear d;go_wp2;go_round
     case rel =>
      exact⟨k+1,ω,ν,λx d=>by
            rw[AY p]at d;rcases BJ.1 d with d|d
            ·exact u.l x d
            simp at d;have e:=j.l;simp[List.getD,p]at e;rw[d,<-e];exact z.l⟩
     case measure =>
      simp[intOf];omega
    go_wp2
    have b:∀s∈ss,(s.size:Int)=64:=by have:=u.l;rwa [AQ ω]at this
    have D:=Z b;clear b u;go_loopw [6,32] (λ_ i wr=>∃k:Nat,k<=ws.length/\i=.int .i64 k/\Hid (∀x∈ws.take k,PL ss.length x=true)/\Below (w.heap.size+1) (w.alloc (.cells #[.slice a ss.length c,.slice l ws.length q] 26)) wr) (λ_ i _=>ws.length-(intOf i).toNat)
    case atStart =>
     exact⟨0,AM _,rfl,by show ∀s∈ws.take 0,_;simp,AB _ _⟩
    case round =>
     obtain⟨C,L,rfl,z,aA⟩:=hrel;have X:wr.cell? ⟨w.heap.size,0,none⟩=some (.slice a ss.length c):=(aA.cell (p:=⟨w.heap.size,0,none⟩) (by show w.heap.size<_;omega)).j γ;have q1:wr.cell? ⟨w.heap.size,1,none⟩=some (.slice l ws.length q):=(aA.cell (p:=⟨w.heap.size,1,none⟩) (by show w.heap.size<_;omega)).j γ;have i:Below w.heap.size w wr:=(m _).j (aA.z ω);have E:=Z aA;have u:=Z i
     by_cases aB:C<ws.length
     ·obtain⟨b,o,n,s,rfl,I,K,j⟩:=(H.I i).at aB
      have t:Hid ((n,s)∈ws):=by show _∈_;rw[j.l];simp[List.getD,aB]
      have A:s.size<=1048576:=G (n,s) t.l;have S:w.heap.size+1<=wr.heap.size:=by have:=aA.size;simpa using this
      have J:w.heap.size<wr.heap.size:=ω
      clear aA i
      cases hok:PL ss.length (n,s) with
      | false =>
       go_wp2_with (go_at_call 109;refine(UU ss.length n s _ A ω).z ?_;rw[hok];rintro e w' ⟨rfl,rfl⟩);go_ret;exact⟨LR (by rw[f.l];exact(RJ t.l hok).symm),u.l.alloc u.l.size _⟩
      | true =>
       go_wp2_with (go_at_call 109;refine(UU ss.length n s _ A ω).z ?_;rw[hok];rintro e w' ⟨rfl,rfl⟩);go_roundw
       case rel =>
        exact⟨C+1,ω,ν,λx d=>by
              rw[AY aB]at d;rcases BJ.1 d with d|d
              ·exact z.l x d
              simp at d;have e:=j.l;simp[List.getD,aB]at e;rw[d,<-e];exact hok,E.l.alloc ω _⟩
       case measure =>
        simp[intOf];omega
     clear aA i
     go_wp2;go_ret;refine⟨LR ?_,u.l⟩;rw[f.l];have b:=z.l;rw[AQ ω]at b;exact(MQ ω D.l b).symm
  focus
  rotate_left
 rotate_left
 focus
  have v:decide (8<=(ss.length:Int)/\(ss.length:Int)<=200)=false:=AI y
 rotate_left
 all_goals
  go_enter func57,ntmps57;go_wp2_with (go_at_call 52;refine(QF _ _).z ?_;rw[v];rintro e w' ⟨rfl,rfl⟩);go_ret;exact⟨LR (by rw[f.l];exact(OV ω).symm),m _⟩
theorem NG(a:M6)(ss:List Y)(c:Nat)(t:M6)(ws:List (Int×Y))(l:Nat)(w:Nb)(h:Strs w a ss)(N:Wrs w t ws)(hl:ss.length<=1048576)(U:ws.length<=1048576)(hs:∀s∈ss,s.size<=1048576)(K:∀x∈ws,x.2.size<=1048576):Calls prog 39 #[LF a ss.length c t ws.length l] w λe w'=>e=M3 (M0 (LE ss ws))/\Below w.heap.size w w':=by
 have j:∀b,Below w.heap.size w (w.alloc b):=λb=>LO _ _
 obtain⟨R,f⟩:∃R,Hid (R=LE ss ws):=⟨_,Z rfl⟩;rw[<-f.l]
 by_cases V:8<=(ss.length:Int)
 ·by_cases W:(ss.length:Int)<=200
  ·by_cases hp:(ws.length:Int)<=300
   ·go_enter func39,ntmps39
    go_wp2;go_loop [3] (λi=>∃k:Nat,k<=ss.length/\i=.int .i64 k/\Hid (∀s∈ss.take k,(s.size:Int)=64)) (λi=>ss.length-(intOf i).toNat)
    case atStart=>exact⟨0,AM _,rfl,by show ∀s∈ss.take 0,_;simp⟩
    case round =>
     obtain⟨k,X,rfl,m⟩:=hrel
     by_cases v:k<ss.length
     ·obtain⟨b,o,s,rfl,y,q⟩:=(h.I (j (.cells #[.slice a ss.length c,.slice t ws.length l] 26))).at v
      have z:Hid (s∈ss):=by show _∈_;rw[q.l];simp[List.getD,v]
      by_cases d:((s.size:Int) != 64)=true
      ·go_wp2
       go_ret;exact⟨LR (by rw[f.l];exact(RH z.l (by simpa using d)).symm),j _⟩
      have u:((s.size:Int) != 64)=false:=by simpa using d
      have p:Hid ((s.size:Int)=64):=by show _=_;simpa using d
      clear d;go_wp2;go_round
      case rel=>exact⟨k+1,ω,ν,λx d=>by
             rw[AY v]at d;rcases BJ.1 d with d|d
             ·exact m.l x d
             simp at d;have e:=q.l;simp[List.getD,v]at e;rw[d,<-e];exact p.l⟩
      case measure=>simp[intOf];omega
     go_wp2
     have b:∀s∈ss,(s.size:Int)=64:=by have:=m.l;rwa [AQ ω]at this
     have I:=Z b;clear b m;go_loopw [4] (λi wr=>∃k:Nat,k<=ws.length/\i=.int .i64 k/\Hid (∀x∈ws.take k,PL ss.length x=true)/\Below (w.heap.size+1) (w.alloc (.cells #[.slice a ss.length c,.slice t ws.length l] 26)) wr) (λi _=>ws.length-(intOf i).toNat)
     case atStart=>exact⟨0,AM _,rfl,by show ∀s∈ws.take 0,_;simp,AB _ _⟩
     case round =>
      obtain⟨m,T,rfl,D,aA⟩:=hrel;have G:wr.cell? ⟨w.heap.size,0,none⟩=some (.slice a ss.length c):=(aA.cell (p:=⟨w.heap.size,0,none⟩) (by show w.heap.size<_;omega)).j γ;have H:wr.cell? ⟨w.heap.size,1,none⟩=some (.slice t ws.length l):=(aA.cell (p:=⟨w.heap.size,1,none⟩) (by show w.heap.size<_;omega)).j γ;have u:Below w.heap.size w wr:=(j _).j (aA.z ω);have J:=Z aA;have A:=Z u
      by_cases aB:m<ws.length
      ·obtain⟨b,o,n,s,rfl,y,d,q⟩:=(N.I u).at aB
       have z:Hid ((n,s)∈ws):=by show _∈_;rw[q.l];simp[List.getD,aB]
       have L:s.size<=1048576:=K (n,s) z.l;have M:w.heap.size+1<=wr.heap.size:=by have:=aA.size;simpa using this
       have C:w.heap.size<wr.heap.size:=ω
       have E:b<wr.heap.size:=by have:=DM wr _ y;simpa using this
       have S:(m:Int)<(ws.length:Int):=ω
       have O:(0:Int)<=(m:Int):=ω
       have p:=Z (AH G (AH H (AH y d)));go_wp2_with fail;clear aA u G H y d
       go_region_held3 (λw'=>w'.cell? ⟨w.heap.size,0,none⟩=some (.slice a ss.length c)/\w'.cell? ⟨w.heap.size,1,none⟩=some (.slice (Mw b o) ws.length l)/\w'.cell? ⟨b,o+m*2,none⟩=some (.int .i64 n)/\w'.cell? ⟨b,o+m*2+1,none⟩=some (Mz s))
        (first|assumption|exact p.l|exact⟨(i.cell (p:=⟨_,_,none⟩) C).j p.l.1,(i.cell (p:=⟨_,_,none⟩) C).j p.l.2.1,(i.cell (p:=⟨b,_,none⟩) E).j p.l.2.2.1,(i.cell (p:=⟨b,_,none⟩) E).j p.l.2.2.2⟩)
        (first|(go_at_call 77;refine(YP a ss.length c (Mw b o) ws.length l n s _ L ω).z ?_;rintro e d ⟨rfl,i⟩))
       cases hok:PL ss.length (n,s) with
       | false =>
        go_wp2;go_ret;exact⟨LR (by rw[f.l];exact(RJ z.l hok).symm),A.l.drew.j (i.z A.l.size)⟩
       | true =>
        go_wp2;go_roundw
        case rel=>exact⟨m+1,ω,ν,λx d=>by
               rw[AY aB]at d;rcases BJ.1 d with d|d
               ·exact D.l x d
               simp at d;have e:=q.l;simp[List.getD,aB]at e;rw[d,<-e];exact hok,J.l.drew.j (i.z M)⟩
        case measure=>simp[intOf];omega
      clear aA u
      go_wp2;go_ret;refine⟨LR ?_,A.l⟩;rw[f.l];have b:=D.l;rw[AQ ω]at b;exact(MQ ω I.l b).symm
   go_enter func39,ntmps39
   go_wp2;go_ret;exact⟨LR (by rw[f.l];exact(OV ω).symm),j _⟩
  go_enter func39,ntmps39
  go_wp2;go_ret;exact⟨LR (by rw[f.l];exact(OV ω).symm),j _⟩
 go_enter func39,ntmps39
 go_wp2;go_ret;exact⟨LR (by rw[f.l];exact(OV ω).symm),j _⟩
structure Dep(w:Nb)(lo hi:Nat)(F:Nb->Prop):Prop where
 q:F w
 top:hi<=w.heap.size
 keep:∀w':Nb,(∀b,lo<=b->b<hi->w'.heap[b]?=w.heap[b]?)->hi<=w'.heap.size->F w'
theorem Dep.I(h:Dep w lo hi F)(c:Below w.heap.size w w'):Dep w' lo hi F :=⟨h.keep w' (λb _ d=>c.block b (AD d h.top)) (AK h.top c.size),AK h.top c.size,λj d f=>h.keep j (λb i e=>(d b i e).j (c.block b (AD e h.top))) f⟩
theorem Dep.J(h:Dep w lo hi F)(d:w.grownBy w' r)(j:∀g,r=some g->g<lo\/hi<=g):Dep w' lo hi F:=by
 have aA:∀b,lo<=b->b<hi->w'.heap[b]?=w.heap[b]?:=λb f c=>d.block b (AD c h.top) (λe=>by have:=j b e.symm;omega)
 exact⟨h.keep w' aA (AK h.top d.size),AK h.top d.size,λk c i=>h.keep k (λb e f=>(c b e f).j (aA b e f)) i⟩
theorem Dep.and{G:Nb->Prop}(h:Dep w lo hi F)(k:Dep w lo hi G):Dep w lo hi (λw=>F w/\G w):=⟨⟨h.q,k.q⟩,h.top,λw' b c=>⟨h.keep w' b c,k.keep w' b c⟩⟩
theorem Dep.wide{aB aA:Nat}(h:Dep w lo hi F)(f:aB<=lo)(i:hi<=aA)(d:aA<=w.heap.size):Dep w aB aA F:=⟨h.q,d,λw' e j=>h.keep w' (λb a c=>e b ω ω) ω⟩
theorem MG(h:Row w g cs)(e:w'.heap[g]?=w.heap[g]?)(b:g<w'.heap.size):Row w' g cs :=⟨b,λi v hv=>by rw[<-h.cell i v hv];simp[World.cell?,e],λi hi=>by rw[<-h.froz i hi];simp[World.frozen?,e]⟩
theorem OU(h:Row w g cs)(b:lo<=g)(c:g<hi)(d:hi<=w.heap.size):Dep w lo hi (λw=>Row w g cs):=⟨h,d,λw' e f=>MG h (e g b c) ω⟩
theorem LS{a:M6}(h:OwnS w a cs)(e:cs≠[]->n≠0)(d:∀g,blk a n=some g->lo<=g):Dep w lo w.heap.size (λw=>OwnS w a cs) :=⟨h,AA _,λw' f i=>by
  by_cases b:cs=[]
  ·exact .inl b
  obtain⟨g,rfl,c⟩:=h.resolve_left b
  exact .inr ⟨g,rfl,MG c (f g (d g (NT _ _ _ (e b))) c.lt) (AD c.lt i)⟩⟩
theorem Dep.cut{a:M6}(h:Dep w lo w.heap.size (λw=>OwnS w a cs))(c:∀g,a=Mw g 0->cs≠[]->g<hi)(d:hi<=w.heap.size)(e:∀g,a=Mw g 0->cs≠[]->lo<=g):Dep w lo hi (λw=>OwnS w a cs) :=⟨h.q,d,λw' i j=>by
  by_cases b:cs=[]
  ·exact .inl b
  obtain⟨g,rfl,f⟩:=h.q.resolve_left b
  exact .inr ⟨g,rfl,MG f (i g (e g rfl b) (c g rfl b)) (AD (c g rfl b) j)⟩⟩
theorem QJ{k:Nat}(h:blk (Mw g 0) n=some k):k=g:=by
 unfold blk at h
 split at h
 ·cases h
 simp at h;exact h.symm
theorem Dep.low{N:Nat}(h:Dep w lo hi F)(c:Below N w w')(k:hi<=N):Dep w' lo hi F :=⟨h.keep w' (λb _ d=>c.block b ω) (AK h.top c.size),AK h.top c.size,λj d e=>h.keep j (λb f i=>(d b f i).j (c.block b ω)) e⟩
theorem XQ(w:Nb)(A:Array Nc)(t:TypeId):Dep (w.alloc (.cells A t)) w.heap.size (w.heap.size+1) (λW=>Row W w.heap.size A.toList):=OU (MT w A t) (AA _) ω σ
theorem LY{v:Nb}{A:Array Nc}{t:TypeId}(e:w.alloc (.cells A t)=v):Below w.heap.size w v/\v.heap.size=w.heap.size+1/\Dep v w.heap.size (w.heap.size+1) (λW=>Row W w.heap.size A.toList):=by
 subst e;exact⟨LO _ _,σ,OU (MT w A t) (AA _) ω σ⟩
theorem c10(h:Row w g [a0,a1,a2,a3,a4,a5,a6,a7,a8,a9]):w.cell? ⟨g,0,none⟩=some a0/\w.cell? ⟨g,1,none⟩=some a1/\w.cell? ⟨g,2,none⟩=some a2/\w.cell? ⟨g,3,none⟩=some a3/\w.cell? ⟨g,4,none⟩=some a4/\w.cell? ⟨g,5,none⟩=some a5/\w.cell? ⟨g,6,none⟩=some a6/\w.cell? ⟨g,7,none⟩=some a7/\w.cell? ⟨g,8,none⟩=some a8/\w.cell? ⟨g,9,none⟩=some a9/\g<w.heap.size :=⟨h.y 0,h.y 1,h.y 2,h.y 3,h.y 4,h.y 5,h.y 6,h.y 7,h.y 8,h.y 9,h.lt⟩
theorem c12{aA aB:Nc}(h:Row w g [a0,a1,a2,a3,a4,a5,a6,a7,a8,a9,aA,aB]):w.cell? ⟨g,0,none⟩=some a0/\w.cell? ⟨g,1,none⟩=some a1/\w.cell? ⟨g,2,none⟩=some a2/\w.cell? ⟨g,3,none⟩=some a3/\w.cell? ⟨g,4,none⟩=some a4/\w.cell? ⟨g,5,none⟩=some a5/\w.cell? ⟨g,6,none⟩=some a6/\w.cell? ⟨g,7,none⟩=some a7/\w.cell? ⟨g,8,none⟩=some a8/\w.cell? ⟨g,9,none⟩=some a9/\w.cell? ⟨g,10,none⟩=some aA/\w.cell? ⟨g,11,none⟩=some aB/\g<w.heap.size :=⟨h.y 0,h.y 1,h.y 2,h.y 3,h.y 4,h.y 5,h.y 6,h.y 7,h.y 8,h.y 9,h.y 10,h.y 11,h.lt⟩
theorem c16{aA aB b c d e:Nc}(h:Row w g [a0,a1,a2,a3,a4,a5,a6,a7,a8,a9,aA,aB,b,c,d,e]):w.cell? ⟨g,0,none⟩=some a0/\w.cell? ⟨g,1,none⟩=some a1/\w.cell? ⟨g,2,none⟩=some a2/\w.cell? ⟨g,3,none⟩=some a3/\w.cell? ⟨g,4,none⟩=some a4/\w.cell? ⟨g,5,none⟩=some a5/\w.cell? ⟨g,6,none⟩=some a6/\w.cell? ⟨g,7,none⟩=some a7/\w.cell? ⟨g,8,none⟩=some a8/\w.cell? ⟨g,9,none⟩=some a9/\w.cell? ⟨g,10,none⟩=some aA/\w.cell? ⟨g,11,none⟩=some aB/\w.cell? ⟨g,12,none⟩=some b/\w.cell? ⟨g,13,none⟩=some c/\w.cell? ⟨g,14,none⟩=some d/\w.cell? ⟨g,15,none⟩=some e/\g<w.heap.size :=⟨h.y 0,h.y 1,h.y 2,h.y 3,h.y 4,h.y 5,h.y 6,h.y 7,h.y 8,h.y 9,h.y 10,h.y 11,h.y 12,h.y 13,h.y 14,h.y 15,h.lt⟩
section
structure DepF(w:Nb)(F:Nat->Prop)(P:Nb->Prop):Prop where
 q:P w
 keep:∀w',Below 0 w w'->(∀b,F b->b<w.heap.size->w'.heap[b]?=w.heap[b]?)->P w'
section
variable {w w':Nb} {F G:Nat->Prop} {P Q:Nb->Prop}
theorem DepF.step(h:DepF w F P)(c:Below 0 w w')(e:∀b,F b->b<w.heap.size->w'.heap[b]?=w.heap[b]?):DepF w' F P :=⟨h.keep w' c e,λk i j=>h.keep k (c.j (i.z (AM _))) (λb d f=>(j b d (AD f c.size)).j (e b d f))⟩
theorem DepF.I(h:DepF w F P)(c:Below w.heap.size w w'):DepF w' F P:=h.step (c.z (AM _)) (λb _ d=>c.block b d)
theorem DepF.J(h:DepF w F P)(c:w.grownBy w' r)(i:∀g,r=some g->¬F g):DepF w' F P :=h.step (NR c (AM _) (λ_ _=>AM _)) (λb d f=>c.block b f (λe=>i b e.symm d))
theorem DepF.z(h:DepF w F P)(hF:∀b,b<w.heap.size->F b->G b):DepF w G P:=⟨h.q,λw' d e=>h.keep w' d (λb f c=>e b (hF b c f) c)⟩
theorem DepF.map(h:DepF w F P)(f:∀W,P W->Q W):DepF w F Q:=⟨f _ h.q,λw' b c=>f _ (h.keep w' b c)⟩
theorem DepF.and(h:DepF w F P)(k:DepF w F Q):DepF w F (λW=>P W/\Q W):=⟨⟨h.q,k.q⟩,λw' b c=>⟨h.keep w' b c,k.keep w' b c⟩⟩
theorem RG(h:P w)(f:∀w',Below w.heap.size w w'->P w'):DepF w (λb=>b<w.heap.size) P :=⟨h,λw' c e=>f w' ⟨c.os,c.tape,c.output,c.size,λb d=>e b d d⟩⟩
theorem NE(h:Dep w lo hi P)(hF:∀b,lo<=b->b<hi->F b):DepF w F P :=⟨h.q,λw' d e=>h.keep w' (λb f c=>e b (hF b f c) (AD c h.top)) (AK h.top d.size)⟩
theorem LQ(h:∀W,P W):DepF w F P:=⟨h _,λw' _ _=>h _⟩
end
theorem LG(w:Nb)(b o:Nat)(c:List Nc):w.grownBy (w.setCells b o c) (some b) :=⟨(YG b c o w).1,(YG b c o w).2.1,(YG b c o w).2.2,Nat.le_of_eq (VW b c o w).symm,λi hi d=>jg b c o w i (λe=>d (CX some e))⟩
theorem Row.sets(h:Row w g cs)(b:List Nc)(d:b.length=cs.length):Row (w.setCells g 0 b) g b:=by
 have c:w.there g 0 b.length:=h.there d;have e:=EG w g 0 b c;have aA:=World.there_setCells c g 0 b;refine⟨by rw[VW];exact h.lt,λi v hv=>?_,λi hi=>?_⟩
 ·have:=e i v hv;rwa [BG]at this
 have:=(aA i hi).2;rwa [BG]at this
theorem MS{b:Array Oper}(c:op.guard=none)(s:TypeId)(x:Operand)(f:Nat)(e:op.op=.fieldAddr s x f)(v:Nc)(aB:(Instr.fieldAt s (a.eval x) f).run P w=.ok v w)(h:wpList P b Q aA (a.put op.dst v) w):wpList P b Q (op::aA) a w:=by
 refine IW c λK d=>?_
 unfold Oper.wp execOp;simp only[e,aB,IF,JK,IP];exact d _ _ h
section
variable {w:Nb} {g:Nat} {pre cs post:List Nc}
theorem Row.rangeMid(h:Row w g (pre++cs++post)):w.rangeAt g pre.length cs:=λj v hv=>by
 have b:j<cs.length:=(DJ.1 hv).1;exact h.cell (pre.length+j) v (by rw[BT,DG ω,BC ω,<-hv];congr 1;omega)
theorem Row.thereMid(h:Row w g (pre++cs++post))(c:n=cs.length):w.there g pre.length n:=λj b=>by
 subst c;exact⟨by rw[h.rangeMid j cs[j] (BQ b)];rfl,h.froz (pre.length+j) τ⟩
theorem Row.setsMid(h:Row w g (pre++cs++post))(b:List Nc)(d:b.length=cs.length):Row (w.setCells g pre.length b) g (pre++b++post):=by
 have e:w.there g pre.length b.length:=h.thereMid d;refine⟨by rw[VW];exact h.lt,λi v hv=>?_,λi hi=>by rw[FC];exact h.froz i (by simp at hi⊢;omega)⟩
 by_cases c:i<pre.length
 ·rw[EC g b _ w ⟨g,i,none⟩ (λ_ _=>.inl c)]
  refine h.cell i v ?_;rw[BT,BC c]at hv⊢;exact hv
 by_cases f:i<pre.length+b.length
 ·have:=EG w g pre.length b e (i-pre.length) v (by rw[BT,DG ω,BC ω]at hv;exact hv)
  rwa [show pre.length+(i-pre.length)=i by omega]at this
 rw[EC g b _ w ⟨g,i,none⟩ (λ_ _=>.inr (by show pre.length+b.length<=i;omega))]
 refine h.cell i v ?_;rw[BT,DG ω,DG ω]at hv⊢;rw[<-d];exact hv
end
theorem LZ{v:Nb}{FF:Nat->Prop}(h:Row v g cs)(d:FF g):DepF v FF (λW=>Row W g cs) :=⟨h,λw' b c=>MG h (c g d h.lt) (AD h.lt b.size)⟩
theorem LV{e:Func}{R:Ending->Nb->Prop}(k:Nat)(c:TypeId)(j:e.results=#[.cell k c])(b:Nat)(l:a.tmps.getD k undef=Mv b 0)(cs:List Nc)(d:TypeDesc)(h:Row w b cs)(m:P.underlying c=some d)(aA:d.isRow=true)(hi:(P.info? c).map (·.size)=some cs.length)(i:a.defers=[])(f:R (M3 (.agg cs.toArray)) w):bodyPost P e R .ret a w:=by
 refine AJ (v:=.agg cs.toArray) ?_ i f;have aB:a.tmps[k]?.getD undef=Mv b 0:=by simpa using l
 simp[results,j,aB,asAddr,JA w b 0 c cs d h.range m aA hi]
theorem OL{e:Func}{R:Ending->Nb->Prop}(k t:Nat)(c:TypeId)(l:e.results=#[.cell k c,.tmp t])(b:Nat)(m:a.tmps.getD k undef=Mv b 0)(u:Nc)(p:a.tmps.getD t undef=u)(cs:List Nc)(d:TypeDesc)(i:Row w b cs)(q:P.underlying c=some d)(aA:d.isRow=true)(hi:(P.info? c).map (·.size)=some cs.length)(j:a.defers=[])(h:R (M3 (.tuple #[.agg cs.toArray,u])) w):bodyPost P e R .ret a w:=by
 refine AJ (v:=.tuple #[.agg cs.toArray,u]) ?_ j h;have aB:a.tmps[k]?.getD undef=Mv b 0:=by simpa using m
 have f:a.tmps[t]?.getD undef=u:=by simpa using p
 simp[results,l,aB,f,asAddr,JA w b 0 c cs d i.range q aA hi]
theorem LJ(c:TypeId)(x:Operand)(h:op.op=.load c x)(b o:Nat)(j:a.eval x=Mv b o)(cs:List Nc)(d:TypeDesc)(e:w.rangeAt b o cs)(i:P.underlying c=some d)(f:d.isRow=true)(hi:(P.info? c).map (·.size)=some cs.length):(execOp a.eval op).run P w=.ok (.value (.agg cs.toArray)) w:=by
 unfold execOp;simp only[h,j,Instr.loadAt,Instr.sureAddr,IF,JK,IP,JA w b o c cs d e i f hi]
theorem OM(b:op.guard=none)(v:Nc)(w':Nb)(d:(execOp a.eval op).run P w=.ok (.value v) w')(h:wpList P aB Q aA (a.put op.dst v) w'):wpList P aB Q (op::aA) a w:=by
 refine IW b λK c=>?_
 unfold Oper.wp;simp only[d];exact c _ _ h
theorem LU(b:op.guard=none)(v:Nc)(d:(execOp a.eval op).run P w=.ok (.value v) w)(h:wpList P aB Q aA (a.put op.dst v) w):wpList P aB Q (op::aA) a w:=by
 refine IW b λK c=>?_
 unfold Oper.wp;simp only[d];exact c _ _ h
theorem LH{K:Act->Nb->Prop}{E:Prop}(d:o.guard=none)(c:TypeId)(x y:Operand)(f:o.op=.store c x y)(b k:Nat)(aA:Array Nc)(l:a.eval x=Mv b k)(m:a.eval y=.agg aA)(i:w.there b k aA.size)(hi:(P.info? c).map (·.size)=some aA.size)(e:aA.all (·.oneCell')=true)
  (h:K (a.put o.dst undef) (w.setCells b k aA.toList)):if Region.wanted o (yielded aB a.tmps)=true then Oper.wp P o a w K Q else E:=by
 have j:Region.wanted o (yielded aB a.tmps)=true:=by simp[Region.wanted,d]
 rw[AE j];exact wp_store_mid c x y f b k aA l m i hi e h
theorem MY{aA:Array Oper}{K:Act->Nb->Prop}{E:Prop}(aB:o.guard=none)(c:TypeId)(x:Operand)(i:o.op=.load c x)(b k:Nat)(m:a.eval x=Mv b k)(cs:List Nc)(d:TypeDesc)(e:w.rangeAt b k cs)(j:P.underlying c=some d)(f:d.isRow=true)(hi:(P.info? c).map (·.size)=some cs.length)
  (h:K (a.put o.dst (.agg cs.toArray)) w):if Region.wanted o (yielded aA a.tmps)=true then Oper.wp P o a w K Q else E:=by
 have l:Region.wanted o (yielded aA a.tmps)=true:=by simp[Region.wanted,aB]
 rw[AE l];exact wp_load_mid c x i b k m cs d e j f hi h
end
theorem VA(a b:M6)(ss:List Y)(c f:Nat)(w:Nb)(h:Strs w a ss)(j:Strs w b ss)(x:ss.length<=1048576):Calls prog 38 #[.slice a ss.length c,.slice b ss.length f] w λe w'=>e=M3 (M0 true)/\Below w.heap.size w w':=by
 go_enter func38,ntmps38;go_wp2;go_loopw [5] (λi wr=>∃k:Nat,k<=ss.length/\i=.int .i64 k/\Below w.heap.size w wr) (λi _=>ss.length-(intOf i).toNat)
 case atStart=>exact⟨0,AM _,rfl,AB _ _⟩
 case round =>
  obtain⟨k,v,rfl,aA⟩:=hrel
  by_cases e:k<ss.length
  ·obtain⟨q,y,s,rfl,u,d⟩:=(h.I aA).at e
   obtain⟨t,z,i,rfl,l,aB⟩:=(j.I aA).at e;obtain rfl:s=i:=d.l.j aB.l.symm;have p:(k:Int)<(ss.length:Int):=ω
   have m:(0:Int)<=(k:Int):=ω
   clear d aB;go_wp2_with fail;go_quiet (fail);go_wp2;go_roundw
   case rel=>exact⟨k+1,ω,ν,below_drewN aA _⟩
   case measure=>simp[intOf];omega
  go_wp2
  go_ret;exact⟨rfl,aA⟩
theorem am(a b:M6)(ss:List Y)(c d:Nat)(A D:M6)(ws:List (Int×Y))(v x:Nat)(w:Nb)(E:Strs w a ss)(G:Strs w b ss)(M:Wrs w A ws)(N:Wrs w D ws)(O:ss.length<=1048576)(V:ws.length<=1048576):Calls prog 35 #[LF a ss.length c A ws.length v,LF b ss.length d D ws.length x] w λe w'=>e=M3 (M0 true)/\Below w.heap.size w w':=by
 unfold LF;go_enter func35,ntmps35;go_wp2_with fail;generalize aB:w.alloc _=v1;obtain⟨f,k,l⟩:=LY aB;clear aB;have h:Below w.heap.size w v1:=f;clear f;generalize j:v1.alloc _=T;obtain⟨f,q,i⟩:=LY j;clear j;rw[k]at i;replace h:=h.j (f.z h.size);have m:=(l.I f).q;have p:=i.q;clear f l i q k;refine(VA a b ss c d T (E.I h) (G.I h) O).z ?_;rintro e H ⟨rfl,f⟩;replace h:=h.j (f.z h.size);replace m:=m.I f;replace p:=p.I f;clear f E G;have t:=m.y 1;have ql:=m.lt;have u1:=p.y 1;have ul:=p.lt;go_wp2_with fail;clear t u1;go_loopw [5] (λi wr=>∃k:Nat,k<=ws.length/\i=.int .i64 (k:Int)/\Below H.heap.size H wr) (λi _=>ws.length-(intOf i).toNat)
 case atStart=>exact⟨0,AM _,rfl,AB _ _⟩
 case round =>
  obtain⟨k,W,rfl,aA⟩:=hrel;have u:=h.j (aA.z h.size);have t:=(m.I aA).y 1;have X:=(m.I aA).lt;have u1:=(p.I aA).y 1;have u2:=(p.I aA).lt
  by_cases C:k<ws.length
  ·obtain⟨f,j,q,s,rfl,I,J,y⟩:=(M.I u).at C
   obtain⟨i,l,R,S,rfl,K,L,z⟩:=(N.I u).at C;have e:=y.l.j z.l.symm;obtain rfl:q=R:=CX Prod.fst e;obtain rfl:s=S:=CX Prod.snd e;clear e y z;have z:(k:Int)<(ws.length:Int):=ω
   have U:(0:Int)<=(k:Int):=ω
   have y:Hid (wr.cell? ⟨w.heap.size,1,none⟩=some (.slice (Mw f j) ws.length v)/\wr.cell? ⟨w.heap.size+1,1,none⟩=some (.slice (Mw i l) ws.length x)/\wr.cell? ⟨f,j+k*2,none⟩=some (.int .i64 q)/\wr.cell? ⟨f,j+k*2+1,none⟩=some (Mz s)/\wr.cell? ⟨i,l+k*2,none⟩=some (.int .i64 q)/\wr.cell? ⟨i,l+k*2+1,none⟩=some (Mz s)):=⟨t,u1,I,J,K,L⟩;go_upto_region 6 with fail;clear t u1 I J K L
   go_region_held3 (λw'=>w'.cell? ⟨w.heap.size,1,none⟩=some (.slice (Mw f j) ws.length v)/\w'.cell? ⟨w.heap.size+1,1,none⟩=some (.slice (Mw i l) ws.length x)/\w'.cell? ⟨f,j+k*2,none⟩=some (.int .i64 q)/\w'.cell? ⟨f,j+k*2+1,none⟩=some (Mz s)/\w'.cell? ⟨i,l+k*2,none⟩=some (.int .i64 q)/\w'.cell? ⟨i,l+k*2+1,none⟩=some (Mz s))
    (first|assumption|exact y.l)
    (fail)
   go_wp2;go_roundw
   case rel=>exact⟨k+1,ω,ν,aA.drew⟩
   case measure=>simp[intOf];omega
  have z:¬(k:Int)<(ws.length:Int):=ω
  go_wp2;go_ret;exact⟨rfl,u⟩
def Pst(w:Nb)(a:M6)(P:List (List (Y×Y))):Prop :=P=[]\/∃b o,a=Mw b o/\b<w.heap.size/\∀i,i<P.length->∃p c,w.cell? ⟨b,o+i,none⟩=some (.slice p (P.getD i []).length c)/\Prs w p (P.getD i [])
theorem Pst.I{a:M6}{P:List (List (Y×Y))}(h:Pst w a P)(d:Below w.heap.size w w'):Pst w' a P:=by
 rcases h with h|⟨b,o,f,e,j⟩
 ·exact .inl h
 refine .inr ⟨b,o,f,AD e d.size,λi hi=>?_⟩
 obtain⟨p,c,k,l⟩:=j i hi;exact⟨p,c,(d.cell (p:=⟨b,o+i,none⟩) e).j k,l.I d⟩
theorem Pst.at{a:M6}{P:List (List (Y×Y))}(h:Pst w a P){k:Nat}(d:k<P.length):∃b o p c,a=Mw b o/\b<w.heap.size/\w.cell? ⟨b,o+k,none⟩=some (.slice p (P.getD k []).length c)/\Hid (Prs w p (P.getD k [])):=by
 rcases h with h|⟨b,o,e,f,i⟩
 ·subst h;simp at d
 obtain⟨p,c,j,l⟩:=i k d
 exact⟨b,o,p,c,e,f,j,Z l⟩
theorem ZV:(prog.info? 5).map (λi=>(i.zero,i.size,i.bytes))=some (some (.int .u8 0),1,1):=κ
def MI:Y:=strOfNums (List.replicate 64 0)
theorem YF(w:Nb):Calls prog 55 #[] w λe w'=>e=M3 (Mz MI)/\Below w.heap.size w w':=by
 go_enter func55,ntmps55;go_wp2_with (at_make;refine xm rfl _ _ 22 rfl 5 _ 1 1 underlying22 ZV 64 rfl rfl ω ω ?_;intro c aA aB e;rw[WN _ rfl]at aA;have d:=FO (P:=prog) c 22 5 underlying22 underlying5 w.heap.size 0 64 64 (List.replicate 64 0) rfl (λi hi=>by rw[BG];have b:=aA.cell i (.int .u8 0) (by rw[EM,AE hi]);rw[b,AZ,EM,AE hi];rfl) 9 underlying9;clear aA);go_ret;exact⟨rfl,aB⟩
theorem gz(n:Nat)(w:Nb)(N:8<=n)(O:n<=200):Calls prog 20 #[.int .i64 (n:Int)] w λe w'=>∃g c,e=M3 (LF (Mw g 0) n c none 0 0)/\w.heap.size<=g/\Row w' g ((List.replicate n MI).map Value.string)/\Below w.heap.size w w':=by
 have K:(8:Int)<=(n:Int):=ω
 have L:(n:Int)<=200:=ω
 obtain⟨A,b,c,d,f⟩:=MK SN;have h:=Z (AH b (AH c (AH d f)));clear b c d f;go_enter func20,ntmps20;go_wp2;go_loopw [4] (λi wr=>∃(k:Nat) (v:Nc),k<=n/\i=.int .i64 k/\Dsk w wr w.heap.size (w.heap.size+1) (w.heap.size+1+1) 9 133 v (.slice none 0 0) (List.replicate k MI) []) (λi _=>n-(intOf i).toNat)
 case atStart=>exact⟨0,_,AM _,rfl,Dsk.start _ _ _ _ _⟩
 case round =>
  obtain⟨k,v,R,rfl,b⟩:=hrel
  by_cases M:k<n
  ·have d:=Z b
   have C:=b.d0;have D:=b.fd0;clear b;go_wp2_with fail
   go_region_law (first|(refine step_append_lies _ ρ _ _ _ ρ (w.heap.size+1+1) 9 A (Mz ByteArray.empty) 1 16 underlying23 h.l.1 h.l.2.1 h.l.2.2.1 h.l.2.2.2 rfl ω v (List.replicate k MI).length ((List.replicate k MI).map Value.string) ρ t.l ⟨i.heap.size,0,none⟩ 1 1 [Mz MI] ρ rfl (World.news_of_block (AU i _)) (by intro u p;simp at p;subst p;rfl) ω (by rw[DI];unfold maxLen;omega) (by rw[DI];omega) ξ (i.heap.size+1) σ ?_;intro g c S j aA m H;obtain⟨E,G⟩:=l.l.J aA;have z:=Z j;have y:=Z aA;have x:=Z m;clear j aA m)|(refine LW ρ 55 #[] γ (YF _) ?_;rintro e i ⟨rfl,f⟩;refine⟨_,rfl,?_⟩;have q:=(d.l.drew.I f).d0;have s:=(d.l.drew.I f).fd0;have I:=(d.l.drew.I f).sz;have J:w.heap.size+1<i.heap.size:=ω;have t:=Z ((d.l.drew.I f).own.alloc (.cells #[Mz MI] 9));have l:=Z ((d.l.drew.I f).alloc (.cells #[Mz MI] 9))))
   all_goals
    have aB:=l.l.push z.l y.l x.l σ;rw[DI,show List.replicate k MI++[MI]=List.replicate (k+1) MI by rw[KX]]at aB;have j:=Z aB;clear aB;go_wp2;go_roundw
    case rel=>exact⟨k+1,_,ω,ν,j.l⟩
    case measure=>simp[intOf];omega
  have j:k=n:=ω
  subst j;have d:=NU b.own;rw[DI]at d
  obtain⟨g,c,rfl,l,m,f⟩:∃g c,v=.slice (Mw g 0) k c/\w.heap.size+1+1<=g/\g<wr.heap.size/\Row wr g ((List.replicate k MI).map Value.string):=by
   rcases d with i|i
   ·omega
   exact i
  clear d;have d:=Z b.bel;have i:=Z f;clear f;have C:=b.d0;have D:=b.d1;have q:=b.r0;have s:=b.r1;have E:=b.fr0;have G:=b.fr1;clear b;go_wp2;refine AJ (v:=LF (Mw g 0) k c none 0 0) (by simp[results,results20,go_sem,q,s]) rfl ⟨g,c,rfl,ω,?_,?_⟩
  ·exact(i.l.other _ (by show w.heap.size≠g;omega) _).other _ (by show w.heap.size≠g;omega) _
  exact(d.l.setCell (AA _) _).setCell (AA _) _
end
section
open Tryz
abbrev ia(m:Nat):List Nc:=List.replicate m (.slice none 0 0)
end
end Go.Proofs.YtmlejnbjclkdjaaGreatDoor
namespace Go.Proofs.YtmlejnbjclkdjaaGreatDoor.nw
open _root_.Go.Proofs.Tryz
open Go.RowKit
variable {w:Nb}
theorem new_s_no(n:Int)(w:Nb)(h:¬(8<=n/\n<=200)):Calls prog 20 #[.int .i64 n] w λe a=>e=M3 (LF none 0 0 none 0 0)/\Below w.heap.size w a:=by
 by_cases b:8<=n
 ·have a:200<n:=ω
  go_enter func20,ntmps20;go_wp2;exact AJ (v:=LF none 0 0 none 0 0) (by simp[results,results20,go_sem]) rfl ⟨rfl,LD _ _⟩
 go_enter func20,ntmps20
 go_wp2;exact AJ (v:=LF none 0 0 none 0 0) (by simp[results,results20,go_sem]) rfl ⟨rfl,LD _ _⟩
theorem f16{g:Nat}{a b c d e f i j k l m n o p q r:Nc}(h:Row w g [a,b,c,d,e,f,i,j,k,l,m,n,o,p,q,r]):w.frozen? ⟨g,0,none⟩=false/\w.frozen? ⟨g,1,none⟩=false/\w.frozen? ⟨g,2,none⟩=false/\w.frozen? ⟨g,3,none⟩=false/\w.frozen? ⟨g,4,none⟩=false/\w.frozen? ⟨g,5,none⟩=false/\w.frozen? ⟨g,6,none⟩=false/\w.frozen? ⟨g,7,none⟩=false/\w.frozen? ⟨g,8,none⟩=false/\w.frozen? ⟨g,9,none⟩=false/\w.frozen? ⟨g,10,none⟩=false/\w.frozen? ⟨g,11,none⟩=false/\w.frozen? ⟨g,12,none⟩=false/\w.frozen? ⟨g,13,none⟩=false/\w.frozen? ⟨g,14,none⟩=false/\w.frozen? ⟨g,15,none⟩=false :=⟨h.A 0,h.A 1,h.A 2,h.A 3,h.A 4,h.A 5,h.A 6,h.A 7,h.A 8,h.A 9,h.A 10,h.A 11,h.A 12,h.A 13,h.A 14,h.A 15⟩
def newSS(n:Int):List Y:=if 8<=n/\n<=200 then List.replicate n.toNat MI else []
theorem new_s_any(n:Int)(w:Nb):Calls prog 20 #[.int .i64 n] w λe b=>∃a c d f,e=M3 (LF a (newSS n).length c d 0 f)/\OwnS b a ((newSS n).map Value.string)/\(∀g,blk a (newSS n).length=some g->w.heap.size<=g)/\Below w.heap.size w b:=by
 by_cases h:8<=n/\n<=200
 ·obtain⟨m,rfl⟩:∃m:Nat,n=(m:Int):=⟨n.toNat,ω⟩
  have d:newSS (m:Int)=List.replicate m MI:=by simp[newSS,h]
  rw[d];refine(gz m w ω ω).z ?_;rintro e b ⟨g,c,rfl,j,k,f⟩
  exact⟨_,c,none,0,by rw[DI],.inr ⟨g,rfl,k⟩,λi a=>by rw[DI,NT g 0 m ω]at a;cases a;exact j,f⟩
 have d:newSS n=[]:=by simp[newSS,h]
 rw[d];refine(new_s_no n w h).z ?_;rintro e b ⟨rfl,f⟩;exact⟨none,0,none,0,rfl,.inl rfl,(λi a=>by cases a),f⟩
def worldV(f:Int)(a:M6)(n c:Nat)(b:M6)(d:Nat)(p:M6)(m e:Nat):Nc:=.agg #[.int .i64 f,.slice a n c,.slice b 0 d,M0 false,.int .i64 0,.int .i64 0,.int .i64 0,.int .i64 0,.int .i64 0,.int .i64 0,.int .i64 0,.int .i64 0,.int .i64 0,.slice none 0 0,.slice p m e,.slice none 0 0]
def NwPost(w d:Nb)(e:Ending)(j:Int)(b:List Y)(m:Nat):Prop:=∃a c f h p i,e=M3 (worldV j a b.length c f h p m i)/\OwnS d a (b.map Value.string)/\OwnS d p (ia m)/\(∀g,blk a b.length=some g->w.heap.size<=g/\∀k,blk p m=some k->g≠k)/\(∀g,blk p m=some g->w.heap.size<=g)/\Below w.heap.size w d
theorem OwnS.setw{a:M6}{b:List Nc}(h:OwnS w a b)(p:Addr)(d:∀g,a=Mw g 0->b≠[]->p.block≠g)(v:Nc):OwnS (w.setCell p v) a b:=by
 by_cases c:b=[]
 ·exact .inl c
 obtain⟨g,rfl,e⟩:=h.resolve_left c
 exact .inr ⟨g,rfl,e.other p (d g rfl c) v⟩
theorem row_atw{A:Array Nc}{t:TypeId}{g:Nat}(a:w.heap.size=g):Row (w.alloc (.cells A t)) g A.toList:=by subst a;exact MT w A t
theorem nw_s_yes(n d:Int)(w:Nb)(q:8<=n/\n<=200)(P:1<=d/\d<=8):Calls prog 5 #[.int .i64 n,.int .i64 d] w λe a=>NwPost w a e d (newSS n) 1:=by
 have N:decide (1<=d/\d<=8)=true:=AL P;have hd:decide (8<=n/\n<=200)=true:=AL q;obtain⟨m,h⟩:∃m:Nat,(newSS n).length=m:=⟨_,rfl⟩;have Q:m≠0:=by rw[<-h];unfold newSS;rw[AE q];simp;omega
 have cH:¬(m:Int)=0:=ω
 have f:=Z h;go_enter func5,ntmps5
 go_wp2_with (first|(go_at_call 20;refine(new_s_any n _).z ?_;rintro e r ⟨a,c,i,p,rfl,k,g,b⟩;rw[h]at g⊢;have l:=Z k;have j:=Z g;have J:=Z (((AB w.heap.size w).alloc (AA _) _).j (b.z σ));have R:=(MT w _ _).I b;obtain⟨z,A,B,C,D,E,F,G,H,I,s,t,u,v,x,y,L⟩:=c16 R;obtain⟨bJ,bQ,bR,bT,bU,bV,bW,bY,bZ,b7,S,T,U,V,W,X⟩:=f16 R;clear R;clear b k g)|(go_at_call 21;refine(RO _ _).z ?_;rw[N];rintro e K ⟨rfl,o⟩;rw[o];clear o K))
 have M:=l.l.lt m (λb=>ig (by rw[f.l];exact b))
 have K:∀g,a=Mw g 0->(newSS n).map Value.string≠[]->w.heap.size<g:=λg b k=>by
  have:=j.l g (by subst b;exact NT _ _ _ Q);simp at this;omega
 refine AJ (v:=worldV d a m c i p (Mw (r.heap.size+1) 0) 1 1) (by simp[results,results5,go_sem,worldV,L,z,A,B,C,D,E,F,G,H,I,s,t,u,v,x,y]) rfl ⟨a,c,i,p,_,1,by rw[f.l],?_,?_,?_,?_,?_⟩
 ·refine OwnS.I ?_ ((AB _ _).alloc (AA _) _);refine OwnS.I ?_ ((AB _ _).alloc (AA _) _)
  iterate 16(refine OwnS.setw ?_ _ (λg b k=>by have:=K g b k;show w.heap.size≠g;omega) _)
  exact l.l
 ·exact .inr ⟨r.heap.size+1,rfl,row_atw σ⟩
 ·intro g b
  rw[f.l]at b;have O:=j.l g b;have R:=M g b;simp at O
  exact⟨ω,λk o=>by rw[NT _ _ _ ω]at o;cases o;omega⟩
 ·intro g b
  rw[NT _ _ _ ω]at b;cases b;omega
 refine Below.alloc ?_ τ _;refine Below.alloc ?_ τ _
 iterate 16(refine II ?_ (by show w.heap.size<=w.heap.size;omega) _)
 exact J.l
end Go.Proofs.YtmlejnbjclkdjaaGreatDoor.nw
