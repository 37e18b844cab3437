import Derived.Test.YtnhcaifopaeohaaGreatDoorM45
import Derived.Test.YtnhcaifopaeohaaGreatDoorM05
import Derived.Test.YtnhcaifopaeohaaGreatDoorM22
import Derived.Laws.StructEq
namespace Go.Proofs.YtnhcaifopaeohaaGreatDoor
open Go.RowKit
set_option linter.all false
def inL (s:ByteArray) (l:List ByteArray):Bool:=l.any (fun x=>decide (x=s))
theorem inL_iff (s:ByteArray) (l:List ByteArray):inL s l=true ↔ s∈l:=by
 unfold inL;rw [List.any_eq_true]
 constructor
 ·rintro ⟨x,hx,e⟩
  have:x=s:=by simpa using e
  exact this ▸ hx
 ·exact fun h=>⟨s,h,by simp⟩
def dupIn (seen:List ByteArray):List ByteArray->Bool
 | []=>false
 | s::l=>if inL s seen then true else dupIn (s::seen) l
def twiceP (i:Nat) (seen:List ByteArray):List (List ByteArray)->Int
 | []=>-1
 | p::l=>if dupIn seen p then i else twiceP (i+1) (p.reverse++seen) l
theorem dupIn_drop (seen l:List ByteArray) (i:Nat) (h:i<l.length):dupIn seen (l.drop i)=if inL l[i] seen then true else dupIn (l[i]::seen) (l.drop (i+1)):=by
 rw [List.drop_eq_getElem_cons h,dupIn]
theorem twiceP_drop (seen:List ByteArray) (l:List (List ByteArray)) (k:Nat) (h:k<l.length):twiceP k seen (l.drop k)=if dupIn seen l[k] then (k:Int) else twiceP (k+1) (l[k].reverse++seen) (l.drop (k+1)):=by
 rw [List.drop_eq_getElem_cons h,twiceP]
theorem rev_take {α:Type} (l:List α) (i:Nat) (h:i<l.length) (r:List α):(l.take (i+1)).reverse++r=l[i]::((l.take i).reverse++r):=by
 rw [List.take_add_one,List.reverse_append]
 simp [h]
def SeenAt (w:World) (b:Nat) (seen:List ByteArray):Prop:=∃ f,MapOf w b f/\∀ s,(f s).isSome=true ↔ s∈seen
theorem SeenAt.quiet {w w':World} {b:Nat} {seen:List ByteArray} (h:SeenAt w b seen) (m:Mods Nil' w w'):SeenAt w' b seen:=by
 obtain ⟨f,h1,h2⟩:=h
 exact ⟨f,h1.mods m id,h2⟩
theorem SeenAt.lookup {w:World} {b:Nat} {seen:List ByteArray} (h:SeenAt w b seen) (s:ByteArray):∃ v,(Instr.lookup 61 (.map (some b)) (.string s) true).run Tryz.prog w=.ok (.tuple #[v,.bool (inL s seen)]) w:=by
 obtain ⟨f,h1,h2⟩:=h
 have e:(f s).isSome=inL s seen:=by
  rw [Bool.eq_iff_iff,h2 s,inL_iff]
 have:=h1.lookup (P:=Tryz.prog) (t:=61) Tryz.underlying61 Tryz.underlying9 (Tryz.zeroValue3 w) s
 rw [e] at this
 exact ⟨_,this⟩
theorem SeenAt.update {w:World} {b:Nat} {seen:List ByteArray} (h:SeenAt w b seen) (s:ByteArray) (u:Value):∃ w',(Instr.mapUpdate 61 (.map (some b)) (.string s) u).run Tryz.prog w=.ok () w'/\SeenAt w' b (s::seen)/\Mods (fun k=>k=b) w w':=by
 obtain ⟨f,h1,h2⟩:=h
 obtain ⟨w',hr,hm,md⟩:=h1.update (P:=Tryz.prog) (t:=61) Tryz.underlying61 Tryz.underlying9 s u
 refine ⟨w',hr,⟨_,hm,fun s'=>?_⟩,md⟩
 by_cases c:s'=s
 ·simp [c]
 ·simp [c,h2 s']
set_option maxRecDepth 100000 in
set_option maxHeartbeats 2000000 in
theorem twice_any (w0 w:World) (bs:List Nat) (v:Value) (ps:List PartD) (hP:Parts w0 bs v ps w) (hpl:ps.length<=1000) (hfl:∀ p∈ps,p.fs.length<=1000) (r:Int) (hr:r=twiceP 0 [] (ps.map (fun p=>p.fs.map (fun f=>T f.name)))) :
  Calls Tryz.prog 50 #[v] w fun e w'=>e=.returned (.int .i64 r)/\Mods Nil' w w':=by
 obtain ⟨o,c,hvv,_⟩:=hP.sl.view;subst hvv;have HP:=hid hP;have HFL:=hid hfl
 have HS0:Hid (SeenAt (w.alloc (.map #[] 0)) w.heap.size []):=⟨_,MapOf.new w,fun s=>by simp⟩
 have HM0:Hid (Mods Nil' w (w.alloc (.map #[] 0))):=(Mods.refl _ _).alloc _
 have HR:=hid hr;clear hP hfl hr
 have hmm:=@run_makeMap Tryz.prog
 go_enter Tryz.func50,Tryz.ntmps50
 go_wp2_with fail;clear hmm;generalize w.alloc (.map #[] 0)=wB at *
 obtain ⟨B,hB⟩:∃ B,B=w.heap.size:=⟨_,rfl⟩
 have HB:Hid (w.heap.size<=B):=by rw [hB];exact Nat.le_refl _
 rw [<- hB] at HS0
 try rw [<- hB]
 clear hB
 go_loopg [13] ps.length (fun g iv wx=>∃ (k:Nat) (seen:List ByteArray),iv=.int .i64 k/\Mods Nil' w wx/\SeenAt wx B seen/\r=twiceP k seen ((ps.map (fun p=>p.fs.map (fun f=>T f.name))).drop k)/\k<=ps.length/\g=ps.length - k)
 case atStart=>exact ⟨0,[],rfl,HM0.out,HS0.out,HR.out,Nat.zero_le _,rfl⟩
 case round =>
  obtain ⟨k,seen,rfl,hmd,hse,hmi,hk,rfl⟩:=hrel;have HMD:=hid hmd;have HSE:=hid hse;have HMI:=hid hmi;clear hmd hmi hse HS0 HM0
  by_cases hkl:k<ps.length
  ·obtain ⟨gP,rfl,c0,c1'⟩:=(HP.out.quiet HMD.out).at k hkl
   have HMS:Hid (r=if dupIn seen (ps[k].fs.map (fun f=>T f.name)) then (k:Int) else twiceP (k+1) ((ps[k].fs.map (fun f=>T f.name)).reverse++seen) ((ps.map (fun p=>p.fs.map (fun f=>T f.name))).drop (k+1))):=by
    rw [Hid,HMI.out,twiceP_drop seen _ k (by simpa using hkl),List.getElem_map]
   have HPA:Hid (∀ w',Mods Nil' wr w'->PartAt w' bs ps[k]):=fun w' m=>(HP.out.quiet (HMD.out.trans m)).each _ (List.getElem_mem hkl)
   have hfk:=HFL.out ps[k] (List.getElem_mem hkl)
   obtain ⟨a1,a2,ha,_⟩:=(HPA.out wr (Mods.refl _ _)).maps.view
   obtain ⟨b1,b2,hb,_⟩:=(HPA.out wr (Mods.refl _ _)).fns.sl.view
   rw [ha] at c0;rw [hb] at c1'
   have HPF:Hid (∀ w',Mods Nil' w w'->Fns w' ps[k].lo bs (.slice b1 ps[k].fs.length b2) ps[k].fs ps[k].vs):=fun w' m=>by rw [<- hb];exact ((HP.out.quiet m).each _ (List.getElem_mem hkl)).fns
   clear HPA ha hb HMI;generalize ps[k].fs=fs at *;generalize ps[k].vs=vs at *;generalize ps[k].lo=lo at *;generalize ps[k].ms.length=msl at *
   obtain ⟨names,hnm⟩:∃ names,names=fs.map (fun f=>T f.name):=⟨_,rfl⟩
   have HNM:=hid hnm
   have HNL:Hid (names.length=fs.length):=by rw [Hid,hnm,List.length_map]
   rw [<- hnm] at HMS;clear hnm;go_wp2_with fail
   have HMr:Hid (Mods Nil' w (wr.alloc (.cells #[.slice a1 msl a2,.slice b1 fs.length b2] 37))):=HMD.out.alloc _
   have HSr:Hid (SeenAt (wr.alloc (.cells #[.slice a1 msl a2,.slice b1 fs.length b2] 37)) B seen):=HSE.out.quiet ((Mods.refl _ _).alloc _)
   generalize wr.alloc (.cells #[.slice a1 msl a2,.slice b1 fs.length b2] 37)=w1 at *;generalize wr.heap.size=H1 at *;clear c0 c1' HSE HMD
   go_loopg [21] fs.length (fun g iv wx=>∃ i:Nat,iv=.int .i64 i/\Mods Nil' w wx/\SeenAt wx B ((names.take i).reverse++seen)/\dupIn seen names=dupIn ((names.take i).reverse++seen) (names.drop i)/\i<=fs.length/\g=fs.length - i)
   case atStart=>exact ⟨0,rfl,HMr.out,HSr.out,rfl,Nat.zero_le _,rfl⟩
   case round =>
    obtain ⟨i,rfl,hmd,hse,hdu,hi,rfl⟩:=hrel;have HM2:=hid hmd;have HSE:=hid hse;have HDU:=hid hdu;clear hmd hse hdu HMr HSr
    by_cases hil:i<fs.length
    ·have hFr:=HPF.out wr HM2.out
     have hiv:i<vs.length:=by rw [hFr.len];exact hil
     obtain ⟨gF,rfl,c0,c1'⟩:=hFr.atF i hil hiv
     obtain ⟨oC,cC,hvc,_⟩:=(hFr.cd i hil hiv).view
     rw [hvc] at c1'
     have hin:i<names.length:=by rw [HNL.out];exact hil
     have HNi:Hid (names[i]=T fs[i].name):=by
      have:∀ (l:List ByteArray) (h:i<l.length),l=fs.map (fun f=>T f.name)->l[i]=T fs[i].name:=fun l h e=>by subst e;rw [List.getElem_map]
      exact this names hin HNM.out
     have HD2:Hid (dupIn seen names=if inL (T fs[i].name) ((names.take i).reverse++seen) then true else dupIn ((names.take (i+1)).reverse++seen) (names.drop (i+1))):=by
      rw [Hid,HDU.out,dupIn_drop _ _ i hin,HNi.out,rev_take names i hin seen,HNi.out]
     have HS2:Hid (T fs[i].name::((names.take i).reverse++seen)=(names.take (i+1)).reverse++seen):=by
      rw [Hid,rev_take names i hin seen,HNi.out]
     clear hFr hvc HNi;generalize T fs[i].name=nm at *;generalize fs[i].code.length=cl at *
     have HM3:Hid (Mods Nil' wr (wr.alloc (.cells #[.string nm,.slice oC cl cC] 55))):=(Mods.refl _ _).alloc _
     have hF7:(wr.alloc (.cells #[.string nm,.slice oC cl cC] 55)).cell? ⟨wr.heap.size,0,none⟩=some (.string nm):=(Blk.new wr #[.string nm,.slice oC cl cC] 55).cell 0
     obtain ⟨lv,hlk⟩:=(HSE.out.quiet HM3.out).lookup nm
     by_cases hin2:inL nm ((names.take i).reverse++seen)=true
     ·rw [hin2] at hlk
      have HRES:Hid (r=k):=by
       rw [Hid,HMS.out,HD2.out,if_pos hin2];rfl
      have HMF:Hid (Mods Nil' w (wr.alloc (.cells #[.string nm,.slice oC cl cC] 55))):=HM2.out.trans HM3.out
      clear hin2;go_wp2_with fail;go_ret
      exact ⟨ret_i64 HRES.out.symm,HMF.out⟩
     ·rw [Bool.not_eq_true] at hin2;rw [hin2] at hlk
      obtain ⟨w5,hup,hs5,m5⟩:=(HSE.out.quiet HM3.out).update nm (.int .i64 k)
      have HM5:Hid (Mods Nil' w w5):=(HM2.out.trans HM3.out).step m5 (fun b hb e=>by have:=HB.out;omega)
      have HS5:Hid (SeenAt w5 B ((names.take (i+1)).reverse++seen)):=by rw [Hid,<- HS2.out];exact hs5
      have HD5:Hid (dupIn seen names=dupIn ((names.take (i+1)).reverse++seen) (names.drop (i+1))):=by
       rw [Hid,HD2.out,if_neg (by rw [hin2];decide)]
      clear hin2 hs5 m5;go_wp2_with fail
      go_roundg (fs.length - (i+1))
      case measure=>omega
      case rel=>exact ⟨i+1,by go_num,HM5.out,HS5.out,HD5.out,by omega,rfl⟩
    ·obtain rfl:i=fs.length:=by omega
     have HE:Hid (dupIn seen names=false):=by
      have:=HDU.out
      rw [<- HNL.out,List.drop_length] at this;exact this
     have HS5:Hid (SeenAt wr B (names.reverse++seen)):=by
      have:=HSE.out
      rw [<- HNL.out,List.take_length] at this;exact this
     have HMN:Hid (r=twiceP (k+1) (names.reverse++seen) ((ps.map (fun p=>p.fs.map (fun f=>T f.name))).drop (k+1))):=by
      rw [Hid,HMS.out,if_neg (by rw [HE.out];decide)]
     go_wp2_with fail
     go_roundg (ps.length - (k+1))
     case measure=>omega
     case rel=>exact ⟨k+1,_,by go_num,HM2.out,HS5.out,HMN.out,by omega,rfl⟩
  ·obtain rfl:k=ps.length:=by omega
   have HEN:Hid (r=-1):=by
    rw [Hid,HMI.out,List.drop_eq_nil_of_le (by simp)];rfl
   go_wp2_with fail;go_ret
   exact ⟨by rw [HEN.out];rfl,HMD.out⟩
def sameM (a b:PMap):Bool:=decide (a.name=b.name)&&(decide (a.key=b.key)&&(decide (a.value=b.value)&&decide (a.entries=b.entries)))
def aggM (m:PMap):Value:=.agg #[.string (T m.name),.int .u8 m.key,.int .u8 m.value,.int .u8 m.entries]
theorem T_list (a b:List UInt8):((T a).toList==(T b).toList)=decide (a=b):=by
 by_cases h:a=b
 ·subst h;simp
 ·rw [str_ne (fun e=>h (T_inj e)),decide_eq_false h]
theorem nat_beq (a b:Nat):((a:Int)==(b:Int))=decide (a=b):=by
 by_cases h:a=b
 ·subst h;simp
 ·have:¬ (a:Int)=b:=by omega
  simp [h,this]
theorem part_0 (w:World) (a b c d:Value):(part 9 #[a,b,c,d] 0).run Tryz.prog w=.ok a w:=by
 unfold part
 simp [Tryz.isAgg9,Result.andThen]
theorem part_1 (w:World) (a b c d:Value):(part 5 #[a,b,c,d] 1).run Tryz.prog w=.ok b w:=by
 unfold part
 simp [Tryz.isAgg5,Result.andThen]
theorem part_2 (w:World) (a b c d:Value):(part 5 #[a,b,c,d] 2).run Tryz.prog w=.ok c w:=by
 unfold part
 simp [Tryz.isAgg5,Result.andThen]
theorem part_3 (w:World) (a b c d:Value):(part 5 #[a,b,c,d] 3).run Tryz.prog w=.ok d w:=by
 unfold part
 simp [Tryz.isAgg5,Result.andThen]
theorem equalM (w:World) (a b:PMap):(Op.equalIn 10000 47 (aggM a) (aggM b)).run Tryz.prog w=.ok (sameM a b) w:=by
 unfold aggM
 rw [run_equalIn_agg w 9999 47 _ _ (by kernel_rfl) (by kernel_rfl)]
 have hf : (Tryz.prog.fieldsOf 47).toList.map (fun f => (f.name, f.type, f.offset)) = [("Name", 9, 0), ("Key", 5, 1), ("Value", 5, 2), ("Entries", 5, 3)] := by kernel_rfl
 generalize (Tryz.prog.fieldsOf 47).toList=l at hf
 rcases l with _ | ⟨f1,_ | ⟨f2,_ | ⟨f3,_ | ⟨f4,_ | ⟨f5,l⟩⟩⟩⟩⟩<;>simp only [List.map_cons,List.map_nil,List.cons.injEq,Prod.mk.injEq,and_true,reduceCtorEq,and_false] at hf
 obtain ⟨⟨n1,t1,o1⟩,⟨n2,t2,o2⟩,⟨n3,t3,o3⟩,⟨n4,t4,o4⟩⟩:=hf
 have d1 : ("Name" ≠ "_") = True := by decide
 have d2 : ("Key" ≠ "_") = True := by decide
 have d3 : ("Value" ≠ "_") = True := by decide
 have d4 : ("Entries" ≠ "_") = True := by decide
 unfold sameM
 simp only [Op.eqFields,n1,n2,n3,n4,t1,t2,t3,t4,o1,o2,o3,o4,d1,d2,d3,d4,if_true,Sem.run_bind,part_0,Result.andThen_ok,run_equalIn_string w 9998 9 _ _ Tryz.underlying9,T_list]
 by_cases h1:a.name=b.name<;>by_cases h2:a.key=b.key<;>by_cases h3:a.value=b.value<;>by_cases h4:a.entries=b.entries<;>simp [h1,h2,h3,h4,part_1,part_2,part_3,run_equalIn_int w 9998 5 .u8 .u8 _ _ Tryz.underlying5,Result.andThen,nat_beq]
theorem eqlM (w:World) (a b:PMap):(binOp .eql 47 (aggM a) (aggM b)).run Tryz.prog w=.ok (.bool (sameM a b)) w:=by
 have:=equalM w a b
 unfold aggM at *
 rw [run_eql_struct,this];rfl
theorem neqM (w:World) (a b:PMap):(binOp .neq 47 (aggM a) (aggM b)).run Tryz.prog w=.ok (.bool (!sameM a b)) w:=by
 have:=equalM w a b
 unfold aggM at *
 rw [run_neq_struct,this];rfl
def clash (seen:List PMap) (m:PMap):Bool:=((seen.find? (fun a=>decide (T a.name=T m.name))).map (fun a=>!sameM a m)).getD false
def othIn (seen:List PMap):List PMap->Bool
 | []=>false
 | m::l=>if clash seen m then true else othIn (m::seen) l
def otherP (i:Nat) (seen:List PMap):List (List PMap)->Int
 | []=>-1
 | p::l=>if othIn seen p then i else otherP (i+1) (p.reverse++seen) l
theorem othIn_drop (seen l:List PMap) (i:Nat) (h:i<l.length):othIn seen (l.drop i)=if clash seen l[i] then true else othIn (l[i]::seen) (l.drop (i+1)):=by
 rw [List.drop_eq_getElem_cons h,othIn]
theorem otherP_drop (seen:List PMap) (l:List (List PMap)) (k:Nat) (h:k<l.length):otherP k seen (l.drop k)=if othIn seen l[k] then (k:Int) else otherP (k+1) (l[k].reverse++seen) (l.drop (k+1)):=by
 rw [List.drop_eq_getElem_cons h,otherP]
def MapsAt (w:World) (b:Nat) (seen:List PMap):Prop:=MapOf w b (fun s=>(seen.find? (fun a=>decide (T a.name=s))).map aggM)
theorem MapsAt.quiet {w w':World} {b:Nat} {seen:List PMap} (h:MapsAt w b seen) (m:Mods Nil' w w'):MapsAt w' b seen:=MapOf.mods h m id
theorem MapsAt.lookup {w:World} {b:Nat} {seen:List PMap} (h:MapsAt w b seen) (s:ByteArray) :
  (Instr.lookup 182 (.map (some b)) (.string s) true).run Tryz.prog w=.ok (.tuple #[((seen.find? (fun a=>decide (T a.name=s))).map aggM).getD (.agg #[.string E0,.int .u8 0,.int .u8 0,.int .u8 0]),.bool ((seen.find? (fun a=>decide (T a.name=s))).map aggM).isSome]) w :=
 MapOf.lookup (P:=Tryz.prog) (t:=182) h Tryz.underlying182 Tryz.underlying9 (Tryz.zeroValue47 w) s
theorem MapsAt.update {w:World} {b:Nat} {seen:List PMap} (h:MapsAt w b seen) (m:PMap):∃ w',(Instr.mapUpdate 182 (.map (some b)) (.string (T m.name)) (aggM m)).run Tryz.prog w=.ok () w'/\MapsAt w' b (m::seen)/\Mods (fun k=>k=b) w w':=by
 obtain ⟨w',hr,hm,md⟩:=MapOf.update (P:=Tryz.prog) (t:=182) h Tryz.underlying182 Tryz.underlying9 (T m.name) (aggM m)
 refine ⟨w',hr,?_,md⟩
 unfold MapsAt
 have e:(fun s=>((m::seen).find? (fun a=>decide (T a.name=s))).map aggM)=(fun s'=>if s'=T m.name then some (aggM m) else (seen.find? (fun a=>decide (T a.name=s'))).map aggM):=by
  funext s
  rw [List.find?_cons]
  by_cases c:T m.name=s
  ·subst c;simp
  ·have c':¬ s=T m.name:=fun e=>c e.symm
   rw [if_neg c',decide_eq_false c]
 rw [e];exact hm
theorem Parts.atM {w:World} {bs:List Nat} {p:PartD} (h:PartAt w bs p) {o:Option Addr} {c:Nat} (hv:p.vM=.slice o p.ms.length c) (k:Nat) (hk:k<p.ms.length) :
  ∃ g,o=some ⟨g,0,none⟩/\w.cell? ⟨g,k*4,none⟩=some (.string (T p.ms[k].name))/\w.cell? ⟨g,k*4+1,none⟩=some (.int .u8 p.ms[k].key)/\w.cell? ⟨g,k*4+2,none⟩=some (.int .u8 p.ms[k].value)/\w.cell? ⟨g,k*4+3,none⟩=some (.int .u8 p.ms[k].entries):=by
 obtain ⟨o',cap',hv',h2⟩:=h.maps.view;rw [hv] at hv'
 cases hv'
 obtain ⟨g,cs,rfl,hb,ht,_⟩:=h2 (by omega)
 have key:∀ c,c<4->w.cell? ⟨g,k*4+c,none⟩=(PMap.cells p.ms[k])[c]?:=fun c hc=>by
  rw [take_cell hb ht (k*4+c) (by omega)]
  exact flat_get PMap.cells 4 (fun _=>rfl) p.ms k c hk hc
 exact ⟨g,rfl,key 0 (by omega),key 1 (by omega),key 2 (by omega),key 3 (by omega)⟩
set_option maxRecDepth 100000 in
set_option maxHeartbeats 2000000 in
theorem lother_any (w0 w:World) (bs:List Nat) (v:Value) (ps:List PartD) (hP:Parts w0 bs v ps w) (hpl:ps.length<=1000) (hfl:∀ p∈ps,p.ms.length<=1000) (r:Int) (hr:r=otherP 0 [] (ps.map (·.ms))) :
  Calls Tryz.prog 51 #[v] w fun e w'=>e=.returned (.int .i64 r)/\Mods Nil' w w':=by
 obtain ⟨o,c,hvv,_⟩:=hP.sl.view;subst hvv;have HP:=hid hP;have HFL:=hid hfl
 have HS0:Hid (MapsAt (w.alloc (.map #[] 0)) w.heap.size []):=MapOf.new w
 have HM0:Hid (Mods Nil' w (w.alloc (.map #[] 0))):=(Mods.refl _ _).alloc _
 have HR:=hid hr;clear hP hfl hr
 have hmm:=@run_makeMap Tryz.prog
 go_enter Tryz.func51,Tryz.ntmps51
 go_wp2_with fail;clear hmm;generalize w.alloc (.map #[] 0)=wB at *
 obtain ⟨B,hB⟩:∃ B,B=w.heap.size:=⟨_,rfl⟩
 have HB:Hid (w.heap.size<=B):=by rw [hB];exact Nat.le_refl _
 rw [<- hB] at HS0
 try rw [<- hB]
 clear hB
 go_loopg [13] ps.length (fun g iv wx=>∃ (k:Nat) (seen:List PMap),iv=.int .i64 k/\Mods Nil' w wx/\MapsAt wx B seen/\r=otherP k seen ((ps.map (·.ms)).drop k)/\k<=ps.length/\g=ps.length - k)
 case atStart=>exact ⟨0,[],rfl,HM0.out,HS0.out,HR.out,Nat.zero_le _,rfl⟩
 case round =>
  obtain ⟨k,seen,rfl,hmd,hse,hmi,hk,rfl⟩:=hrel;have HMD:=hid hmd;have HSE:=hid hse;have HMI:=hid hmi;clear hmd hmi hse HS0 HM0
  by_cases hkl:k<ps.length
  ·obtain ⟨gP,rfl,c0,c1'⟩:=(HP.out.quiet HMD.out).at k hkl
   have HMS:Hid (r=if othIn seen ps[k].ms then (k:Int) else otherP (k+1) (ps[k].ms.reverse++seen) ((ps.map (·.ms)).drop (k+1))):=by
    rw [Hid,HMI.out,otherP_drop seen _ k (by simpa using hkl),List.getElem_map]
   have HPA:Hid (∀ w',Mods Nil' wr w'->PartAt w' bs ps[k]):=fun w' m=>(HP.out.quiet (HMD.out.trans m)).each _ (List.getElem_mem hkl)
   have hfk:=HFL.out ps[k] (List.getElem_mem hkl)
   obtain ⟨a1,a2,ha,_⟩:=(HPA.out wr (Mods.refl _ _)).maps.view
   obtain ⟨b1,b2,hb,_⟩:=(HPA.out wr (Mods.refl _ _)).fns.sl.view
   rw [ha] at c0;rw [hb] at c1'
   have HPF:Hid (∀ w',Mods Nil' w w'->∀ i (_:i<ps[k].ms.length),∃ g,a1=some ⟨g,0,none⟩/\w'.cell? ⟨g,i*4,none⟩=some (.string (T ps[k].ms[i].name))/\w'.cell? ⟨g,i*4+1,none⟩=some (.int .u8 ps[k].ms[i].key)/\w'.cell? ⟨g,i*4+2,none⟩=some (.int .u8 ps[k].ms[i].value)/\w'.cell? ⟨g,i*4+3,none⟩=some (.int .u8 ps[k].ms[i].entries)) :=
    fun w' m i hi=>Parts.atM ((HP.out.quiet m).each _ (List.getElem_mem hkl)) ha i hi
   clear HPA ha hb HMI;generalize ps[k].ms=ms at *;generalize ps[k].fs.length=fsl at *;go_wp2_with fail
   have HMr:Hid (Mods Nil' w (wr.alloc (.cells #[.slice a1 ms.length a2,.slice b1 fsl b2] 37))):=HMD.out.alloc _
   have HSr:Hid (MapsAt (wr.alloc (.cells #[.slice a1 ms.length a2,.slice b1 fsl b2] 37)) B seen):=HSE.out.quiet ((Mods.refl _ _).alloc _)
   generalize wr.alloc (.cells #[.slice a1 ms.length a2,.slice b1 fsl b2] 37)=w1 at *;generalize wr.heap.size=H1 at *;clear c0 c1' HSE HMD
   go_loopg [21] ms.length (fun g iv wx=>∃ i:Nat,iv=.int .i64 i/\Mods Nil' w wx/\MapsAt wx B ((ms.take i).reverse++seen)/\othIn seen ms=othIn ((ms.take i).reverse++seen) (ms.drop i)/\i<=ms.length/\g=ms.length - i)
   case atStart=>exact ⟨0,rfl,HMr.out,HSr.out,rfl,Nat.zero_le _,rfl⟩
   case round =>
    obtain ⟨i,rfl,hmd,hse,hdu,hi,rfl⟩:=hrel;have HM2:=hid hmd;have HSE:=hid hse;have HDU:=hid hdu;clear hmd hse hdu HMr HSr
    by_cases hil:i<ms.length
    ·obtain ⟨gM,rfl,c0,c1,c2,c3⟩:=HPF.out wr HM2.out i hil
     have HD2:Hid (othIn seen ms=if clash ((ms.take i).reverse++seen) ms[i] then true else othIn ((ms.take (i+1)).reverse++seen) (ms.drop (i+1))):=by
      rw [Hid,HDU.out,othIn_drop _ _ i hil,rev_take ms i hil seen]
     have HS2:Hid (ms[i]::((ms.take i).reverse++seen)=(ms.take (i+1)).reverse++seen):=by
      rw [Hid,rev_take ms i hil seen]
     have HM3:Hid (Mods Nil' wr (wr.alloc (.cells #[.string (T ms[i].name),.int .u8 ms[i].key,.int .u8 ms[i].value,.int .u8 ms[i].entries] 47))):=(Mods.refl _ _).alloc _
     have hlk:=(HSE.out.quiet HM3.out).lookup (T ms[i].name)
     have HCL:Hid (clash ((ms.take i).reverse++seen) ms[i]=((((ms.take i).reverse++seen).find? (fun a=>decide (T a.name=T ms[i].name))).map (fun a=>!sameM a ms[i])).getD false):=rfl
     have HUP:Hid (∀ w',Mods Nil' wr w'->∃ w5,(Instr.mapUpdate 182 (.map (some B)) (.string (T ms[i].name)) (.agg #[.string (T ms[i].name),.int .u8 ms[i].key,.int .u8 ms[i].value,.int .u8 ms[i].entries])).run Tryz.prog w'=.ok () w5/\MapsAt w5 B ((ms.take (i+1)).reverse++seen)/\Mods (fun k=>k=B) w' w5):=fun w' m=>by
      rw [<- HS2.out];exact (HSE.out.quiet m).update ms[i]
     have HNE:Hid (∀ (a:PMap) (w':World),(binOp .neq 47 (.agg #[.string (T a.name),.int .u8 a.key,.int .u8 a.value,.int .u8 a.entries]) (.agg #[.string (T ms[i].name),.int .u8 ms[i].key,.int .u8 ms[i].value,.int .u8 ms[i].entries])).run Tryz.prog w'=.ok (.bool (!sameM a ms[i])) w'):=fun a w'=>neqM w' a ms[i]
     clear HS2
     generalize ((ms.take i).reverse++seen).find? (fun a=>decide (T a.name=T ms[i].name))=fd at *
     generalize T ms[i].name=nm at *;generalize ms[i].key=ky at *;generalize ms[i].value=vl at *;generalize ms[i].entries=en at *
     have HMn:Hid (Mods Nil' w (wr.alloc (.cells #[.string nm,.int .u8 ky,.int .u8 vl,.int .u8 en] 47))):=HM2.out.trans HM3.out
     cases fd with
     | none =>
      simp only [Option.map_none,Option.getD_none,Option.isSome_none] at hlk HCL
      have HM4:Hid (Mods Nil' wr ((wr.alloc (.cells #[.string nm,.int .u8 ky,.int .u8 vl,.int .u8 en] 47)).alloc (.cells #[.string E0,.int .u8 0,.int .u8 0,.int .u8 0] 47))):=HM3.out.alloc _
      obtain ⟨w5,hup,hs5,m5⟩:=HUP.out _ HM4.out
      have HM5:Hid (Mods Nil' w w5):=(HM2.out.trans HM4.out).step m5 (fun b hb e=>by have:=HB.out;omega)
      have HS5:=hid hs5
      have HD5:Hid (othIn seen ms=othIn ((ms.take (i+1)).reverse++seen) (ms.drop (i+1))):=by
       rw [Hid,HD2.out,if_neg (by rw [HCL.out];decide)]
      clear hs5 m5;go_wp2_with fail
      go_roundg (ms.length - (i+1))
      case measure=>omega
      case rel=>exact ⟨i+1,by go_num,HM5.out,HS5.out,HD5.out,by omega,rfl⟩
     | some a =>
      simp only [Option.map_some,Option.getD_some,Option.isSome_some,aggM] at hlk HCL
      have hne:=HNE.out a
      clear HNE;generalize sameM a ms[i]=q at *;generalize T a.name=nm2 at *;generalize a.key=ky2 at *;generalize a.value=vl2 at *;generalize a.entries=en2 at *
      have HM4:Hid (Mods Nil' wr ((wr.alloc (.cells #[.string nm,.int .u8 ky,.int .u8 vl,.int .u8 en] 47)).alloc (.cells #[.string nm2,.int .u8 ky2,.int .u8 vl2,.int .u8 en2] 47))):=HM3.out.alloc _
      cases q with
      | false =>
       have HRES:Hid (r=k):=by
        rw [Hid,HMS.out,HD2.out,if_pos (by rw [HCL.out];rfl)]<;>rfl
       have HMF:Hid (Mods Nil' w ((wr.alloc (.cells #[.string nm,.int .u8 ky,.int .u8 vl,.int .u8 en] 47)).alloc (.cells #[.string nm2,.int .u8 ky2,.int .u8 vl2,.int .u8 en2] 47))):=HM2.out.trans HM4.out
       go_wp2_with fail;go_ret
       exact ⟨ret_i64 HRES.out.symm,HMF.out⟩
      | true =>
       obtain ⟨w5,hup,hs5,m5⟩:=HUP.out _ HM4.out
       have HM5:Hid (Mods Nil' w w5):=(HM2.out.trans HM4.out).step m5 (fun b hb e=>by have:=HB.out;omega)
       have HS5:=hid hs5
       have HD5:Hid (othIn seen ms=othIn ((ms.take (i+1)).reverse++seen) (ms.drop (i+1))):=by
        rw [Hid,HD2.out,if_neg (by rw [HCL.out];decide)]
       clear hs5 m5;go_wp2_with fail
       go_roundg (ms.length - (i+1))
       case measure=>omega
       case rel=>exact ⟨i+1,by go_num,HM5.out,HS5.out,HD5.out,by omega,rfl⟩
    ·obtain rfl:i=ms.length:=by omega
     have HE:Hid (othIn seen ms=false):=by
      have:=HDU.out
      rw [List.drop_length] at this;exact this
     have HS5:Hid (MapsAt wr B (ms.reverse++seen)):=by
      have:=HSE.out
      rw [List.take_length] at this;exact this
     have HMN:Hid (r=otherP (k+1) (ms.reverse++seen) ((ps.map (·.ms)).drop (k+1))):=by
      rw [Hid,HMS.out,if_neg (by rw [HE.out];decide)]
     go_wp2_with fail
     go_roundg (ps.length - (k+1))
     case measure=>omega
     case rel=>exact ⟨k+1,_,by go_num,HM2.out,HS5.out,HMN.out,by omega,rfl⟩
  ·obtain rfl:k=ps.length:=by omega
   have HEN:Hid (r=-1):=by
    rw [Hid,HMI.out,List.drop_eq_nil_of_le (by simp)];rfl
   go_wp2_with fail;go_ret
   exact ⟨by rw [HEN.out];rfl,HMD.out⟩
end Go.Proofs.YtnhcaifopaeohaaGreatDoor
