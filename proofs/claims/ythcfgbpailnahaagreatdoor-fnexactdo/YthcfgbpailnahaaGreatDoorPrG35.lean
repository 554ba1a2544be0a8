import Derived.Test.YthcfgbpailnahaaGreatDoorPrG27
set_option maxHeartbeats 16000000
set_option maxRecDepth 8000
set_option linter.all false
namespace Go.Proofs.YthcfgbpailnahaaGreatDoor
open Tryz
open Go.RowKit
def QS(r:ByteArray):Value:=match pc r with|none=>.tuple #[.string ⟨#[]⟩,.string ⟨#[]⟩,.bool false]|some (k,m)=>.tuple #[.string k,.string m,.bool true]
def VR(r:ByteArray)(h:0<r.size):(r[0]'h).toNat=b0 r:=by
 unfold b0;have hl:0<r.data.toList.length:=h;rw[BB,AM hl];rfl
def YK(r:ByteArray)(w:World)(hs:r.size<=1048576):Calls prog 230 #[.string r] w λe w'=>e=.returned (QS r)/\Below w.heap.size w w':=by
 by_cases h0:0<r.size
 ·have hg:=VR r h0
  obtain⟨b,hb⟩:∃b,b=b0 r:=⟨_,rfl⟩;obtain⟨e,he⟩:∃e,e=1+b:=⟨_,rfl⟩;have aF:b<=255:=by rw[hb];exact ec r
  rw[<-hb]at hg;have h1:(1:Int)<=(r.size:Int):=by omega
  have aB:r.toList.isEmpty=false:=by rw[TH];exact AI (by omega)
  have hE:(1:Int)+(b:Int)=(e:Int):=by omega
  have aC:(0:Int)<=(e:Int):=by omega
  have aD:(1:Int)<=(e:Int):=by omega
  have aE:IntKind.i64.wrap (e:Int)=(e:Int):=by simp[IntKind.wrap,IntKind.bits,IntKind.signed];omega
  by_cases h2:1+b<=r.size
  ·have HV:Hid (QS r=.tuple #[.string (r.extract 1 e),.string (r.extract e r.size),.bool true]):=by
    show _=_;unfold QS pc;rw[<-hb,AK ⟨by omega,h2⟩,<-he]
   have aA:(e:Int)<=(r.size:Int):=by omega
   clear hb h2 he;go_enter func230,ntmps230;go_wp2;go_quiet (fail);go_wp2;go_ret3;exact⟨by rw[HV.o];rfl,below_drewN (AB _ _) _⟩
  have HV:Hid (QS r=.tuple #[.string ⟨#[]⟩,.string ⟨#[]⟩,.bool false]):=by
   show _=_;unfold QS pc;rw[<-hb,AE (by omega)]
  have aA:(r.size:Int)<(e:Int):=by omega
  clear hb h2 he;go_enter func230,ntmps230;go_wp2;go_ret3;exact⟨by rw[HV.o];rfl,AB _ _⟩
 have HV:Hid (QS r=.tuple #[.string ⟨#[]⟩,.string ⟨#[]⟩,.bool false]):=by
  show _=_;unfold QS pc;rw[AE (by omega)]
 have hz:(r.size:Int)<1:=by omega
 have aB:r.toList.isEmpty=true:=by rw[TH];exact AO (by omega)
 go_enter func230,ntmps230;go_wp2;go_ret3;exact⟨by rw[HV.o];rfl,AB _ _⟩
def XY(r:ByteArray)(w:World)(hs:r.size<=1048576):Calls prog 234 #[.string r] w λe w'=>e=.returned (QS r)/\Below w.heap.size w w':=by
 by_cases h0:0<r.size
 ·have hg:=VR r h0
  obtain⟨b,hb⟩:∃b,b=b0 r:=⟨_,rfl⟩;obtain⟨e,he⟩:∃e,e=1+b:=⟨_,rfl⟩;have aF:b<=255:=by rw[hb];exact ec r
  rw[<-hb]at hg;have h1:(1:Int)<=(r.size:Int):=by omega
  have aB:r.toList.isEmpty=false:=by rw[TH];exact AI (by omega)
  have hE:(1:Int)+(b:Int)=(e:Int):=by omega
  have aC:(0:Int)<=(e:Int):=by omega
  have aD:(1:Int)<=(e:Int):=by omega
  have aE:IntKind.i64.wrap (e:Int)=(e:Int):=by simp[IntKind.wrap,IntKind.bits,IntKind.signed];omega
  by_cases h2:1+b<=r.size
  ·have HV:Hid (QS r=.tuple #[.string (r.extract 1 e),.string (r.extract e r.size),.bool true]):=by
    show _=_;unfold QS pc;rw[<-hb,AK ⟨by omega,h2⟩,<-he]
   have aA:(e:Int)<=(r.size:Int):=by omega
   clear hb h2 he;go_enter func234,ntmps234;go_wp2;go_quiet (fail);go_wp2;go_ret3;exact⟨by rw[HV.o];rfl,below_drewN (AB _ _) _⟩
  have HV:Hid (QS r=.tuple #[.string ⟨#[]⟩,.string ⟨#[]⟩,.bool false]):=by
   show _=_;unfold QS pc;rw[<-hb,AE (by omega)]
  have aA:(r.size:Int)<(e:Int):=by omega
  clear hb h2 he;go_enter func234,ntmps234;go_wp2;go_ret3;exact⟨by rw[HV.o];rfl,AB _ _⟩
 have HV:Hid (QS r=.tuple #[.string ⟨#[]⟩,.string ⟨#[]⟩,.bool false]):=by
  show _=_;unfold QS pc;rw[AE (by omega)]
 have hz:(r.size:Int)<1:=by omega
 have aB:r.toList.isEmpty=true:=by rw[TH];exact AO (by omega)
 go_enter func234,ntmps234;go_wp2;go_ret3;exact⟨by rw[HV.o];rfl,AB _ _⟩
def VD{w w':World}{o:Obj}(h:Below (w.alloc o).heap.size (w.alloc o) w'):Below w.heap.size w w':=(LG _ _).j (h.i (by simp))
def ZU(r:ByteArray):Option (Ch×ByteArray):=if 1<b0 r then none else QB r
def wu(o:Option (Ch×ByteArray))(e:Ending):Prop:=match o with
 | none=>∃k v g b,e=.returned (.tuple #[.agg #[.string k,.string v,.bool g],.string b,.bool false])
 | some (c,r')=>e=.returned (.tuple #[.agg #[.string c.1,.string c.2.1,.bool c.2.2],.string r',.bool true])
def ai{r:ByteArray}(h:pc r=none):QS r=.tuple #[.string ⟨#[]⟩,.string ⟨#[]⟩,.bool false]:=by unfold QS;rw[h]
def ZP{r k m:ByteArray}(h:pc r=some (k,m)):QS r=.tuple #[.string k,.string m,.bool true]:=by unfold QS;rw[h]
def Ax(r:ByteArray)(w:World)(hs:r.size<=1048576)(h0:0<r.size)(hb:b0 r=0)(k m:ByteArray)(hp:pc (r.extract 1 r.size)=some (k,m))(aK:m.size<=1048576)(hq:pc m=none):Calls prog 213 #[.string r] w λe w'=>(∃k v g b,e=.returned (.tuple #[.agg #[.string k,.string v,.bool g],.string b,.bool false]))/\Below w.heap.size w w':=by
 have hg:=VR r h0;rw[hb]at hg;have HP:=LE (ZP hp);have HQ:=LE (ai hq);have aL:(r.extract 1 r.size).size<=1048576:=by simp only[AW];omega
 have aF:m.size<=1048576:=aK;clear hp hb hq;go_enter func213,ntmps213
 go_wp2_with (first|(have _g:=aG;go_at_call 234;refine(XY _ _ aF).i ?_;rw[HQ.o];rintro e w3 ⟨rfl,aB⟩;have aE:=aB.size;simp only[AU,AV]at aE;have d0:w3.cell? ⟨w.heap.size,0,none⟩=some (.string k):=LH aB (by go_simp);have aM:w3.frozen? ⟨w.heap.size,0,none⟩=false:=LM aB (by go_simp);have d1:w3.cell? ⟨w.heap.size,1,none⟩=some (.string ⟨#[]⟩):=LH aB (by go_simp);have aN:w3.frozen? ⟨w.heap.size,1,none⟩=false:=LM aB (by go_simp);have d2:w3.cell? ⟨w.heap.size,2,none⟩=some (.bool false):=LH aB (by go_simp);have aO:w3.frozen? ⟨w.heap.size,2,none⟩=false:=LM aB (by go_simp);have aC:=LE ((aG.o.setCell (p:=⟨w.heap.size,0,none⟩) (AA _) (.string k)).j (aB.i (by simp<;>omega)));clear aB c0 c1 c2 aH aI aJ)|(go_at_call 234;refine(XY _ _ aL).i ?_;rw[HP.o];rintro e w2 ⟨rfl,aA⟩;have aD:=aA.size;simp only[AU,AV]at aD;have c0:w2.cell? ⟨w.heap.size,0,none⟩=some (.string ⟨#[]⟩):=LH aA (by go_simp);have aH:w2.frozen? ⟨w.heap.size,0,none⟩=false:=LM aA (by go_simp);have c1:w2.cell? ⟨w.heap.size,1,none⟩=some (.string ⟨#[]⟩):=LH aA (by go_simp);have aI:w2.frozen? ⟨w.heap.size,1,none⟩=false:=LM aA (by go_simp);have c2:w2.cell? ⟨w.heap.size,2,none⟩=some (.bool false):=LH aA (by go_simp);have aJ:w2.frozen? ⟨w.heap.size,2,none⟩=false:=LM aA (by go_simp);have aG:=LE (VD aA);clear aA))
 refine AJ (v:=.tuple #[.agg #[.string k,.string ⟨#[]⟩,.bool false],.string ⟨#[]⟩,.bool false]) (by simp[results,results213,go_sem,d0,d1,d2]) rfl ⟨⟨_,_,_,_,rfl⟩,?_⟩
 (first|exact(((aC.o.setCell (AA _) _).setCell (AA _) _).setCell (AA _) _)|exact((((aC.o.setCell (AA _) _).setCell (AA _) _).setCell (AA _) _).setCell (AA _) _)|exact(((((aC.o.setCell (AA _) _).setCell (AA _) _).setCell (AA _) _).setCell (AA _) _).setCell (AA _) _)|exact((((((aC.o.setCell (AA _) _).setCell (AA _) _).setCell (AA _) _).setCell (AA _) _).setCell (AA _) _).setCell (AA _) _)|exact(((((((aC.o.setCell (AA _) _).setCell (AA _) _).setCell (AA _) _).setCell (AA _) _).setCell (AA _) _).setCell (AA _) _).setCell (AA _) _))
