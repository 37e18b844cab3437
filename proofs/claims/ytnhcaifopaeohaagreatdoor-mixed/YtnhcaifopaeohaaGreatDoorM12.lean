import Derived.Test.YtnhcaifopaeohaaGreatDoorM06
import Derived.Deep.RegionWith
import Derived.Test.YtnhcaifopaeohaaGreatDoorM05
import Derived.BigQuiet
import Derived.Deep.LoopGhost
import Derived.Deep.DeepCutAuto
import Derived.Deep.OwnRows
namespace Go.Proofs.YtnhcaifopaeohaaGreatDoor
open Go.RowKit
set_option linter.all false
theorem info_int:(Tryz.prog.info? 3).map (fun i=>(i.zero,i.size,i.bytes))=some (some (.int .i64 0),1,8):=by kernel_rfl
theorem news_cells (w:World) (cs:Array Value) (t:TypeId) (b:Nat) (hb:b=w.heap.size):∀ j u,cs.toList[j]?=some u->(w.alloc (.cells cs t)).cell? ((⟨b,0,none⟩:Addr).add j)=some u:=by
 intro j u h;subst hb
 have hadd:(⟨w.heap.size,0,none⟩:Addr).add j=⟨w.heap.size,j,none⟩:=by unfold Addr.add;split<;>simp_all
 rw [hadd,(Blk.new w cs t).cell j];simpa using h
theorem int_one (x:Int):∀ u∈[Value.int .i64 x],u.oneCell'=true:=by
 intro u hu;simp at hu;subst hu;rfl
theorem info_str:(Tryz.prog.info? 9).map (fun i=>(i.zero,i.size,i.bytes))=some (some (.string ByteArray.empty),1,16):=by kernel_rfl
def ltB (a b:ByteArray):Bool:=Op.bytesLess a.toList b.toList
theorem Sl.setAt {w:World} {e:TypeId} {size:Nat} {g n cap:Nat} {xs:List Value} (h:Sl w e size (.slice (some ⟨g,0,none⟩) n cap) n xs) (j:Nat) (u:Value) (_hj:j<n*size) :
  Sl (w.setCell ⟨g,j,none⟩ u) e size (.slice (some ⟨g,0,none⟩) n cap) n (xs.set j u):=by
 refine ⟨by rw [List.length_set];exact h.1,?_⟩
 rcases h.2 with ⟨h',_⟩ | ⟨g',cap',cur,h',h0,hg,hn,hm,hs,ht⟩
 ·cases h'
 ·cases h'
  refine .inr ⟨g,cap,cur.setIfInBounds j u,rfl,h0,Blk.set (t:=e) hg j u,hn,hm,by simpa using hs,?_⟩
  rw [Array.toList_setIfInBounds,<- ht,List.take_set]


structure SlB (size:Nat) (cs:Array Value) (cap n:Nat) (xs:List Value):Prop where
 nc:n<=cap
 cm:cap<=maxLen
 sz:cs.size=cap*size
 tk:cs.toList.take (n*size)=xs
 ln:xs.length=n*size
theorem SlB.sl {size:Nat} {cs:Array Value} {cap n:Nat} {xs:List Value} (h:SlB size cs cap n xs) {w:World} {g:Nat} {e:TypeId} (hb:Blk w g cs e):Sl w e size (.slice (some ⟨g,0,none⟩) n cap) n xs :=
 ⟨h.ln,.inr ⟨g,cap,cs,rfl,Nat.zero_le _,hb,h.nc,h.cm,h.sz,h.tk⟩⟩
theorem Sl.blk {w:World} {e:TypeId} {size g n cap:Nat} {xs:List Value} (h:Sl w e size (.slice (some ⟨g,0,none⟩) n cap) n xs):∃ cs,Blk w g cs e/\SlB size cs cap n xs:=by
 rcases h.2 with ⟨h',_⟩ | ⟨g',cap',cur,h',_,hg,hn,hm,hs,ht⟩
 ·cases h'
 ·cases h'
  exact ⟨cur,hg,hn,hm,hs,ht,h.1⟩
theorem SlB.get {size:Nat} {cs:Array Value} {cap n:Nat} {xs:List Value} (h:SlB size cs cap n xs) (j:Nat) (hj:j<n*size):cs[j]?=xs[j]?:=by
 rw [<- h.tk,List.getElem?_take,if_pos hj];simp
def boolA (l:List Bool):Array Value:=(l.map Value.bool).toArray
def strA (l:List ByteArray):Array Value:=(l.map Value.string).toArray
theorem info_bool:(Tryz.prog.info? 4).map (fun i=>(i.zero,i.size,i.bytes))=some (some (.bool false),1,1):=by kernel_rfl
theorem made_bool (n:Nat):madeCells #[.bool false] n=boolA (List.replicate n false):=by
 apply Array.ext_getElem?
 intro i
 by_cases h:i<n
 ·simp [madeCells,boolA,h,Nat.mod_one]
 ·simp [madeCells,boolA,h]
theorem made_str (n:Nat):madeCells #[.string ByteArray.empty] n=strA (List.replicate n ByteArray.empty):=by
 apply Array.ext_getElem?
 intro i
 by_cases h:i<n
 ·simp [madeCells,strA,h,Nat.mod_one]
 ·simp [madeCells,strA,h]
theorem boolA_set (l:List Bool) (k:Nat) (b:Bool):(boolA l).setIfInBounds k (.bool b)=boolA (l.set k b):=by
 simp [boolA,List.map_set]
theorem strA_set (l:List ByteArray) (k:Nat) (b:ByteArray):(strA l).setIfInBounds k (.string b)=strA (l.set k b):=by
 simp [strA,List.map_set]
end Go.Proofs.YtnhcaifopaeohaaGreatDoor
