import Derived.Test.YtnhcaifopaeohaaGreatDoorM05
import Derived.Test.YtnhcaifopaeohaaGreatDoorM06
import Derived.Deep.RegionWith
import Derived.Deep.LoopGhost
import Derived.Deep.DeepCutAuto
import Derived.Test.YtnhcaifopaeohaaGreatDoorM08
import Derived.BigQuiet
import Derived.Test.YtnhcaifopaeohaaGreatDoorM12
import Derived.Test.YtnhcaifopaeohaaGreatDoorM15
import Derived.Laws.Tables
namespace Go.Proofs.YtnhcaifopaeohaaGreatDoor
open Go.RowKit
set_option linter.all false
def twoL (n:Int):List Int:=[n % 256,n / 256 % 256]
def fourL (n:Int):List Int:=[n % 256,n / 256 % 256,n / 65536 % 256,n / 16777216 % 256]
theorem placeM_bd (s:ByteArray):∀ (l:List ByteArray),-1<=placeM s l/\placeM s l<l.length
 | []=>by simp [placeM]
 | x::l=>by
  have:=placeM_bd s l
  rw [placeM,List.length_cons]
  split
  ·omega
  ·split
   ·omega
   ·omega
theorem Blk.apart {w:World} {a b:Nat} {cs ds:Array Value} {t u:TypeId} (h:Blk w a cs t) (k:Blk w b ds u) (ht:t≠u):a≠b:=by
 rintro rfl
 have e:(some (Obj.cells cs t (0,0)))=some (Obj.cells ds u (0,0)):=(show w.heap[a]?=_ from h).symm.trans k
 injection e with e
 injection e with e1 e2 e3
 exact ht e2


theorem Blk.rowPut {w:World} {g:Nat} {cs ds:Array Value} {t:TypeId} (h:Blk w g cs t):Blk (w.setRow g ds) g ds t:=setRow_heap w g cs ds t (0,0) h
theorem Mods.rowPut {S:Nat->Prop} {w w':World} {g:Nat} {ds:Array Value} (h:Mods S w w') (hg:S g\/w.heap.size<=g):Mods S w (w'.setRow g ds) :=
 ⟨h.os,h.tape,h.output,by have:=h.size;rw [size_setRow];exact this,fun k hk hs=>by
  rw [setRow_other _ _ _ _ (by rintro rfl;rcases hg with hg | hg;exact hs hg;omega)];exact h.block k hk hs⟩


end Go.Proofs.YtnhcaifopaeohaaGreatDoor
