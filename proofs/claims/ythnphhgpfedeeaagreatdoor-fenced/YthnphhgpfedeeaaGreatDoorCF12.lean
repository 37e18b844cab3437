import Derived.Test.YthnphhgpfedeeaaGreatDoorCF06
import Derived.Deep.DeepCutAuto
import Derived.Deep.OwnRows
namespace Go.Proofs.YthnphhgpfedeeaaGreatDoor
open Go.RowKit Tryz
set_option linter.all false
theorem Sb:(prog.info? 3).map (λi=>(i.zero,i.size,i.bytes))=some (some (.int .i64 0),1,8):=by kernel_rfl
theorem aV(w:tW)(cs:tAV)(t:TypeId)(b:Nat)(hb:b=w.heap.size):∀j u,cs.toList[j]?=some u->(w.alloc (.cells cs t)).cell? ((⟨b,0,none⟩:Addr).add j)=some u:=by
 intro j u h;subst hb;have hadd:(⟨w.heap.size,0,none⟩:Addr).add j=⟨w.heap.size,j,none⟩:=by unfold Addr.add;split<;>simp_all
 rw[hadd,(ak.new w cs t).cell j];simpa using h
theorem Wy(x:Int):∀u∈[Value.int .i64 x],u.oneCell'=true:=by intro u hu;simp at hu;subst hu;rfl
theorem Sc:(prog.info? 9).map (λi=>(i.zero,i.size,i.bytes))=some (some (.string ByteArray.empty),1,16):=by kernel_rfl
def ji(a b:tBA):Bool:=Op.bytesLess a.toList b.toList
theorem Sl.setAt{w:tW}{e:TypeId}{size:Nat}{g n cap:Nat}{xs:List Value}(h:Sl w e size (.slice (some ⟨g,0,none⟩) n cap) n xs)(j:Nat)(u:Value)(_hj:j<n*size):Sl (w.setCell ⟨g,j,none⟩ u) e size (.slice (some ⟨g,0,none⟩) n cap) n (xs.set j u):=by
 refine⟨by rw[List.length_set];exact h.1,?_⟩;rcases h.2 with⟨h',_⟩ |⟨g',cap',cur,h',h0,hg,hn,hm,hs,ht⟩
 ·cases h'
 ·cases h';refine .inr ⟨g,cap,cur.setIfInBounds j u,rfl,h0,ak.set (t:=e) hg j u,hn,hm,by simpa using hs,?_⟩;rw[Array.toList_setIfInBounds,<-ht,List.take_set]


structure VR(size:Nat)(cs:tAV)(cap n:Nat)(xs:List Value):Prop where
 nc:n<=cap
 cm:cap<=maxLen
 sz:cs.size=cap*size
 tk:cs.toList.take (n*size)=xs
 ln:xs.length=n*size
theorem VR.sl{size:Nat}{cs:tAV}{cap n:Nat}{xs:List Value}(h:VR size cs cap n xs){w:tW}{g:Nat}{e:TypeId}(hb:ak w g cs e):Sl w e size (.slice (some ⟨g,0,none⟩) n cap) n xs :=
 ⟨h.ln,.inr ⟨g,cap,cs,rfl,Nat.zero_le _,hb,h.nc,h.cm,h.sz,h.tk⟩⟩
theorem Sl.blk{w:tW}{e:TypeId}{size g n cap:Nat}{xs:List Value}(h:Sl w e size (.slice (some ⟨g,0,none⟩) n cap) n xs):∃cs,ak w g cs e/\VR size cs cap n xs:=by
 rcases h.2 with⟨h',_⟩ |⟨g',cap',cur,h',_,hg,hn,hm,hs,ht⟩
 ·cases h'
 ·cases h';exact⟨cur,hg,hn,hm,hs,ht,h.1⟩
theorem VR.get{size:Nat}{cs:tAV}{cap n:Nat}{xs:List Value}(h:VR size cs cap n xs)(j:Nat)(hj:j<n*size):cs[j]?=xs[j]?:=by rw[<-h.tk,List.getElem?_take,iP9 hj];simp
def lV(l:List Bool):tAV:=(l.map Value.bool).toArray
theorem Dc:(prog.info? 4).map (λi=>(i.zero,i.size,i.bytes))=some (some (.bool false),1,1):=by kernel_rfl
theorem NQ(n:Nat):madeCells #[.bool false] n=lV (List.replicate n false):=by
 apply Array.ext_getElem?;intro i;by_cases h:i<n
 ·simp[madeCells,lV,h,Nat.mod_one]
 ·simp[madeCells,lV,h]
theorem NR(l:List Bool)(k:Nat)(b:Bool):(lV l).setIfInBounds k (.bool b)=lV (l.set k b):=by simp[lV,List.map_set]
