import Derived.Test.YtcoegjnjjdndjaaGreatDoorPrG39
namespace Go.Proofs.YtcoegjnjjdndjaaGreatDoor
open Go.RowKit
set_option maxRecDepth 4000
set_option linter.unusedVariables false
set_option linter.unusedSimpArgs false
set_option maxHeartbeats 1000000 in
theorem change_sn (r:ByteArray) (w:World) (hs:r.size<=1048576) (h0:0<r.size) (hb:b0 r=0) (hp:pc (r.extract 1 r.size)=none):Calls Tryz.prog 139 #[.string r] w fun e w'=>(∃ k v g b,e=.returned (.tuple #[.agg #[.string k,.string v,.bool g],.string b,.bool false]))/\Below w.heap.size w w':=by
 have hg:=get0 r h0
 rw [hb] at hg
 have HP:=hid (pcV_none hp)
 have hsz:(r.extract 1 r.size).size<=1048576:=by simp only [ByteArray.size_extract];omega
 clear hp hb
 go_enter Tryz.func139,Tryz.ntmps139
 go_wp2_with (go_at_call 155;refine (sized_take_i _ _ hsz).mono ?_;rw [HP.out];rintro e w2 ⟨rfl,hb2⟩;have hsw2:=hb2.size;simp only [World.size_alloc,World.size_setCell] at hsw2;have c0:w2.cell? ⟨w.heap.size,0,none⟩=some (.string ⟨#[]⟩):=(hb2.cell (p:=⟨w.heap.size,0,none⟩) (by simp<;>omega)).trans (by go_simp);have cf0:w2.frozen? ⟨w.heap.size,0,none⟩=false:=(hb2.frozen (p:=⟨w.heap.size,0,none⟩) (by simp<;>omega)).trans (by go_simp);have c1:w2.cell? ⟨w.heap.size,1,none⟩=some (.string ⟨#[]⟩):=(hb2.cell (p:=⟨w.heap.size,1,none⟩) (by simp<;>omega)).trans (by go_simp);have cf1:w2.frozen? ⟨w.heap.size,1,none⟩=false:=(hb2.frozen (p:=⟨w.heap.size,1,none⟩) (by simp<;>omega)).trans (by go_simp);have c2:w2.cell? ⟨w.heap.size,2,none⟩=some (.bool false):=(hb2.cell (p:=⟨w.heap.size,2,none⟩) (by simp<;>omega)).trans (by go_simp);have cf2:w2.frozen? ⟨w.heap.size,2,none⟩=false:=(hb2.frozen (p:=⟨w.heap.size,2,none⟩) (by simp<;>omega)).trans (by go_simp);have HB2:=hid (bs0 hb2);clear hb2)
 refine bodyPost_ret (v:=.tuple #[.agg #[.string ⟨#[]⟩,.string ⟨#[]⟩,.bool false],.string ⟨#[]⟩,.bool false]) (by simp [results,Tryz.results139,go_sem,c0,c1,c2]) rfl ⟨⟨_,_,_,_,rfl⟩,?_⟩
 (first | exact (((HB2.out.setCell (Nat.le_refl _) _).setCell (Nat.le_refl _) _).setCell (Nat.le_refl _) _) | exact ((((HB2.out.setCell (Nat.le_refl _) _).setCell (Nat.le_refl _) _).setCell (Nat.le_refl _) _).setCell (Nat.le_refl _) _) | exact (((((HB2.out.setCell (Nat.le_refl _) _).setCell (Nat.le_refl _) _).setCell (Nat.le_refl _) _).setCell (Nat.le_refl _) _).setCell (Nat.le_refl _) _) | exact ((((((HB2.out.setCell (Nat.le_refl _) _).setCell (Nat.le_refl _) _).setCell (Nat.le_refl _) _).setCell (Nat.le_refl _) _).setCell (Nat.le_refl _) _).setCell (Nat.le_refl _) _) | exact (((((((HB2.out.setCell (Nat.le_refl _) _).setCell (Nat.le_refl _) _).setCell (Nat.le_refl _) _).setCell (Nat.le_refl _) _).setCell (Nat.le_refl _) _).setCell (Nat.le_refl _) _).setCell (Nat.le_refl _) _))
end Go.Proofs.YtcoegjnjjdndjaaGreatDoor
