import Derived.Test.YthcfgbpailnahaaGreatDoorPrG35
set_option maxHeartbeats 16000000
namespace Go.Proofs.YthcfgbpailnahaaGreatDoor
open Tryz
open Go.RowKit
set_option maxRecDepth 4000
set_option linter.all false
def xU(r:ByteArray)(w:World)(hs:r.size<=1048576)(h0:0<r.size)(hb:b0 r=1)(k m:ByteArray)(hp:pc (r.extract 1 r.size)=some (k,m)):Calls prog 213 #[.string r] w λe w'=>e=.returned (.tuple #[.agg #[.string k,.string ⟨#[]⟩,.bool true],.string m,.bool true])/\Below w.heap.size w w':=by
 have hg:=VR r h0;rw[hb]at hg;have HP:=LE (ZP hp);have aD:(r.extract 1 r.size).size<=1048576:=by simp only[AW];omega
 clear hp hb;go_enter func213,ntmps213;go_wp2_with (go_at_call 234;refine(XY _ _ aD).i ?_;rw[HP.o];rintro e w2 ⟨rfl,aA⟩;have aC:=aA.size;simp only[AU,AV]at aC;have c0:w2.cell? ⟨w.heap.size,0,none⟩=some (.string ⟨#[]⟩):=LH aA (by go_simp);have aE:w2.frozen? ⟨w.heap.size,0,none⟩=false:=LM aA (by go_simp);have c1:w2.cell? ⟨w.heap.size,1,none⟩=some (.string ⟨#[]⟩):=LH aA (by go_simp);have aF:w2.frozen? ⟨w.heap.size,1,none⟩=false:=LM aA (by go_simp);have c2:w2.cell? ⟨w.heap.size,2,none⟩=some (.bool true):=LH aA (by go_simp);have aG:w2.frozen? ⟨w.heap.size,2,none⟩=false:=LM aA (by go_simp);have aB:=LE (VD aA);clear aA);refine AJ (v:=.tuple #[.agg #[.string k,.string ⟨#[]⟩,.bool true],.string m,.bool true]) (by simp[results,results213,go_sem,c0,c1,c2]) rfl ⟨rfl,?_⟩
 (first|exact(((aB.o.setCell (AA _) _).setCell (AA _) _).setCell (AA _) _)|exact((((aB.o.setCell (AA _) _).setCell (AA _) _).setCell (AA _) _).setCell (AA _) _)|exact(((((aB.o.setCell (AA _) _).setCell (AA _) _).setCell (AA _) _).setCell (AA _) _).setCell (AA _) _)|exact((((((aB.o.setCell (AA _) _).setCell (AA _) _).setCell (AA _) _).setCell (AA _) _).setCell (AA _) _).setCell (AA _) _)|exact(((((((aB.o.setCell (AA _) _).setCell (AA _) _).setCell (AA _) _).setCell (AA _) _).setCell (AA _) _).setCell (AA _) _).setCell (AA _) _))
def Aa(r:ByteArray)(w:World)(hs:r.size<=1048576)(h0:0<r.size)(hb:1<b0 r):Calls prog 213 #[.string r] w λe w'=>(∃k v g b,e=.returned (.tuple #[.agg #[.string k,.string v,.bool g],.string b,.bool false]))/\Below w.heap.size w w':=by
 have hg:=VR r h0;obtain⟨b,aA⟩:∃b,b=b0 r:=⟨_,rfl⟩;rw[<-aA]at hg hb;have aB:((b:Int) != 0)=true:=by simp;omega
 have aC:((b:Int) != 1)=true:=by simp;omega
 clear aA;go_enter func213,ntmps213;go_wp2;refine AJ (v:=.tuple #[.agg #[.string ⟨#[]⟩,.string ⟨#[]⟩,.bool false],.string ⟨#[]⟩,.bool false]) (by simp[results,results213,go_sem]) rfl ⟨⟨_,_,_,_,rfl⟩,?_⟩;exact LG _ _
