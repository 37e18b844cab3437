import Derived.Test.YthnphhgpfedeeaaGreatDoorCF08
import Derived.Test.YthnphhgpfedeeaaGreatDoorCF12
namespace Go.Proofs.YthnphhgpfedeeaaGreatDoor
open Go.RowKit
set_option linter.all false
def ko(n:Int):List Int:=[n%256,n/256%256]
def gG(n:Int):List Int:=[n%256,n/256%256,n/65536%256,n/16777216%256]
theorem ak.apart{w:tW}{a b:Nat}{cs ds:tAV}{t u:TypeId}(h:ak w a cs t)(k:ak w b ds u)(ht:t≠u):a≠b:=by rintro rfl;have e:(some (Obj.cells cs t (0,0)))=some (Obj.cells ds u (0,0)):=(show w.heap[a]?=_ from h).symm.trans k;injection e with e;injection e with e1 e2 e3;exact ht e2

theorem ak.fM{w:tW}{g:Nat}{cs ds:tAV}{t:TypeId}(h:ak w g cs t):ak (w.setRow g ds) g ds t:=setRow_heap w g cs ds t (0,0) h
theorem aa.fM{S:Nat->Prop}{w w':tW}{g:Nat}{ds:tAV}(h:aa S w w')(hg:S g\/w.heap.size<=g):aa S w (w'.setRow g ds) :=
 ⟨h.os,h.tape,h.output,by have:=h.size;rw[size_setRow];exact this,λk hk hs=>by rw[setRow_other _ _ _ _ (by rintro rfl;rcases hg with hg|hg;exact hs hg;omega)];exact h.block k hk hs⟩
