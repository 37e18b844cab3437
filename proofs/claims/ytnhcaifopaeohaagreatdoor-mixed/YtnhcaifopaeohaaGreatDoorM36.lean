import Derived.Test.YtnhcaifopaeohaaGreatDoorM32
import Derived.Test.YtnhcaifopaeohaaGreatDoorM14
import Derived.Test.YtnhcaifopaeohaaGreatDoorM15
namespace Go.Proofs.YtnhcaifopaeohaaGreatDoor
open Go.RowKit
set_option linter.all false
theorem table_short:∀ o∈tableS,o.word.length<=20/\o.parts.length<=8:=by decide +kernel
theorem op_mem (x:PI) (h:x.k<88):x.o∈tableS:=by
 have hkt:x.k<tableS.length:=by rw [tableS_len];exact h
 have e2:x.o=tableS[x.k]:=by simp [PI.o,hkt]
 rw [e2];exact List.getElem_mem hkt
theorem write_len (o:OpS) (ho:o∈tableS) (x:PIns) (hx:x.Fit):(o.write x).length<=3000:=by
 obtain ⟨h1,h2⟩:=table_short o ho
 have h:∀ l:List PK,(l.flatMap (PK.write x)).length<=310*l.length:=by
  intro l
  induction l with
  | nil=>simp
  | cons p l ih=>have:=pwrite_len x hx p;simp only [List.flatMap_cons,List.length_append,List.length_cons];omega
 unfold OpS.write
 split
 ·split
  ·have:=hx.m
   have e:(BL x.name).length=x.name.size:=by simp [BL]
   simp only [List.length_append,List.length_cons,List.length_nil]
   omega
  ·have:(helpW[(x.num - 1).toNat]?.getD []).length<=3:=by
    generalize (x.num - 1).toNat=i
    match i with
    | 0 | 1 | 2 | 3=>decide
    | i+4=>simp [helpW]
   simp only [List.length_append,List.length_cons,List.length_nil]
   omega
 ·have:=h o.parts
  have h3:(if o.parts=[] then ([]:List UInt8) else [32]).length<=1:=by split<;>simp
  simp only [List.length_append]
  omega
theorem labsP_le:∀ (l:List Bool) (n:Nat),n+l.length<=1000000->∀ e∈labsP l n,e.length<=22
 | [],_,_,e,h=>by cases h
 | true::l,n,hn,e,h=>by
  rw [labsP] at h
  rcases List.mem_cons.1 h with rfl | h
  ·have:=itoa_len (n:Int) (by omega) (by omega)
   simp only [List.length_cons];omega
  ·exact labsP_le l (n+1) (by simp only [List.length_cons] at hn;omega) e h
 | false::l,n,hn,e,h=>by
  rw [labsP] at h
  rcases List.mem_cons.1 h with rfl | h
  ·simp
  ·exact labsP_le l n (by simp only [List.length_cons] at hn;omega) e h
theorem right_label (x:PIns) (nm:ByteArray) (p:PK):PK.right { x with label:=nm } p=PK.right x p:=rfl
theorem needs_label (o:OpS) (x:PIns) (nm:ByteArray):o.needs { x with label:=nm }=o.needs x:=by
 unfold OpS.needs
 have:(PK.right { x with label:=nm })=PK.right x:=funext (right_label x nm)
 rw [this]
 rfl
theorem write_op (o:OpS) (x:PIns) (op:Value):o.write { x with op:=op }=o.write x:=by
 have:PK.write { x with op:=op }=PK.write x:=funext (fun _=>rfl)
 unfold OpS.write;rw [this]
theorem sumS_lt (l:List PI) (hl:∀ x∈l,PIok x) (k:Nat) (h:k<l.length):sumS l k<slotsP l:=by
 have h1:=sumS_step l k h
 have h2:=(hl l[k] (List.getElem_mem h)).slots
 have h3:sumS l (k+1)<=sumS l l.length:=by
  unfold sumS;rw [List.take_length,<- List.take_append_drop (k+1) l,List.map_append,List.sum_append]
  simp
 rw [slotsP_sum]
 omega
def insC (b:Nat) (x:PI) (lab:ByteArray):Array Value:=#[.pointer (some ⟨b,0,none⟩),.int .u8 x.d,.int .u8 x.s,.int .i16 x.jump,.int .i32 x.num,.int .i32 x.high,.string lab,.string (T x.name)]
theorem wr_any (w w':World) (b:Nat) (x:PI) (hx:PIok x) (hn:x.o.needs (x.ins [])=true) (hm:x.name.length<=300) (lab:List UInt8) (hlab:lab.length<=100) (hA:OpAt w b x.o) (m:Mods Nil' w w') (hE:Env w') :
  ∃ k7 c7,w'.cell? ⟨b,7,none⟩=some (.func (.func k7) #[] c7)/\Ent k7/\(∀ w2,Mods Nil' w' w2->Calls Tryz.prog k7 (#[.agg (insC b x (T lab))]++c7) w2 fun e w''=>e=.returned (.string (T (x.o.write { x.ins [] with label:=T lab })))/\Mods Nil' w2 w''):=by
 obtain ⟨o1,n1,c1,f6,c6,k7,c7,k8,c8,f9,c9,h1,h2⟩:=hA.ex
 refine ⟨k7,c7,(h1.mods m id).cell 7,h2.e7,fun w2 m2=>?_⟩
 have hF:PIns.Fit ⟨.pointer (some ⟨b,0,none⟩),x.d,x.s,x.jump,x.num,x.high,T lab,T x.name⟩ :=
  ⟨hx.d,hx.s,hx.j.1,hx.j.2,hx.n.1,hx.n.2,hx.h.1,hx.h.2,by show (T lab).size<=100;rw [T_size];exact hlab,by show (T x.name).size<=300;rw [T_size];exact hm⟩
 have hN:x.o.needs ⟨.pointer (some ⟨b,0,none⟩),x.d,x.s,x.jump,x.num,x.high,T lab,T x.name⟩=true:=by
  have e1:=needs_op x.o ⟨(x.ins []).op,x.d,x.s,x.jump,x.num,x.high,T lab,T x.name⟩ (.pointer (some ⟨b,0,none⟩))
  have e2:=needs_label x.o (x.ins []) (T lab)
  exact e1.trans (e2.trans hn)
 have hW:x.o.write ⟨.pointer (some ⟨b,0,none⟩),x.d,x.s,x.jump,x.num,x.high,T lab,T x.name⟩=x.o.write { x.ins [] with label:=T lab }:=write_op x.o { x.ins [] with label:=T lab } (.pointer (some ⟨b,0,none⟩))
 rw [<- hW]
 exact h2.wr w2 _ ((m.trans m2).kp) (hE.mods m2) hF hN
theorem BAbove.md {w0 w:World} {ob:Nat} {l:List UInt8} (h:BAbove w0 w0.heap.size ob l w):Mods Nil' w0 w:=Mods.of_below h.be
structure KeepW (cb:Nat) (cs:Array Value) (b:Nat) (fv:Value) where
 w:World
 c:Blk w cb cs 84
 f:w.cell? ⟨b,7,none⟩=some fv
theorem builder_other {T e:TypeId} {B b g:Nat} {bs:List Value} {w w':World} {cs:Array Value} {t:TypeId} (h:Lib.IsBuilderF T e B b bs w) (hg:Blk w g cs t) (h1:t≠T) (h2:t≠e) (m:Mods (Only g) w w'):Lib.IsBuilderF T e B b bs w':=by
 have key:∀ p,Lib.BuilderAtF T e B b p bs w->Lib.BuilderAtF T e B b p bs w':=by
  rintro p ⟨k1,v,k2,k3,k4⟩
  have nb:¬ Only g b:=fun e'=>by
   unfold Blk at hg
   rw [<- show b=g from e',k2] at hg
   cases hg
   exact h1 rfl
  refine ⟨k1,v,(m.block b (Array.getElem?_eq_some_iff.1 k2).1 nb).trans k2,⟨k3.1,?_⟩,k4⟩
  rcases k3.2 with hn | ⟨g',cap,cur,fz,hv,hb,hg',rest⟩
  ·exact .inl hn
  ·have ng:¬ Only g g':=fun e'=>by
    unfold Blk at hg
    rw [<- show g'=g from e',hg'] at hg
    cases hg
    exact h2 rfl
   exact .inr ⟨g',cap,cur,fz,hv,hb,(m.block g' (Array.getElem?_eq_some_iff.1 hg').1 ng).trans hg',rest⟩
 rcases h with h | h
 ·exact .inl (key _ h)
 ·exact .inr (key _ h)
theorem BAbove.set {w wr:World} {B b g:Nat} {l:List UInt8} {cs:Array Value} (h:BAbove w B b l wr) (hg:Blk wr g cs 84) (hB:B<=g) (i:Nat) (u:Value):BAbove w B b l (wr.setCell ⟨g,i,none⟩ u):=by
 have m:Mods (Only g) wr (wr.setCell ⟨g,i,none⟩ u):=(Mods.refl _ _).setb i u
 exact ⟨builder_other h.bu hg (by decide) (by decide) m,⟨m.os.trans h.be.os,m.tape.trans h.be.tape,m.output.trans h.be.output,Nat.le_trans h.be.size m.size,fun k hk=>(m.block k (Nat.lt_of_lt_of_le hk h.si) (fun e=>by have:k=g:=e;omega)).trans (h.be.block k hk)⟩,Nat.le_trans h.si m.size⟩
set_option maxRecDepth 100000 in
set_option maxHeartbeats 2000000 in
theorem wcode_any (w0:World) (hE:Env w0) (tv:Value) (bs:List Nat) (hO:OpsIn 0 w0 tv bs tableS) (code:List PI) (hok:∀ x∈code,PIok x) (hnd:∀ x∈code,x.o.needs (x.ins [])=true/\x.name.length<=300) (hl:code.length<=300) (vC:Value) (hC:Sl w0 84 8 vC code.length (codeC bs code)) (hJ:JOk (slotsP code) 0 code) (nm:ByteArray) (ob:Nat) (l:List UInt8) (w:World) (hb:BAbove w0 w0.heap.size ob l w) (hll:l.length<=1000000000) :
  Calls Tryz.prog 18 #[.pointer (some ⟨ob,0,none⟩),.agg #[.string nm,vC]] w fun e w'=>e=.returned (.tuple #[])/\BAbove w0 w0.heap.size ob (l++codeTP (labsP (ledP 0 code (List.replicate (slotsP code) false)) 0) 0 code) w'/\(codeTP (labsP (ledP 0 code (List.replicate (slotsP code) false)) 0) 0 code).length<=1200000:=by
 obtain ⟨oC,cC,rfl,_⟩:=hC.view
 have HO:Hid (OpsIn 0 w0 tv bs tableS):=hO
 have HC:Hid (Sl w0 84 8 (.slice oC code.length cC) code.length (codeC bs code)):=hC
 have HOk:Hid (∀ x∈code,PIok x):=hok
 have HNd:Hid (∀ x∈code,x.o.needs (x.ins [])=true/\x.name.length<=300):=hnd
 have HJ:Hid (JOk (slotsP code) 0 code):=hJ
 have HE:Hid (Env w0):=hE
 have hN:slotsP code<=600:=by rw [slotsP_sum];have:=sumS_le code hok code.length;omega
 have HLt:Hid (∀ k,k<code.length->sumS code k<slotsP code):=fun k hk=>sumS_lt code hok k hk
 have HSl:Hid (∀ w',Mods Nil' w0 w'->Calls Tryz.prog 39 #[.agg #[.string nm,.slice oC code.length cC]] w' fun e w''=>∃ g,e=.returned (.slice (some ⟨g,0,none⟩) (slotsP code) (slotsP code))/\w'.heap.size<=g/\Blk w'' g (strA ((labsP (ledP 0 code (List.replicate (slotsP code) false)) 0).map T)) 9/\Mods Nil' w' w''):=fun w' m=>labels_any w' (HE.out.mods m) tv bs (HO.out.mods m) code HOk.out (by omega) _ (HC.out.mods m (fun _ _=>id)) nm HJ.out
 have hlabs:(labsP (ledP 0 code (List.replicate (slotsP code) false)) 0).length=slotsP code:=by rw [labsP_len,ledP_len];simp
 have hlab22:=labsP_le (ledP 0 code (List.replicate (slotsP code) false)) 0 (by rw [ledP_len];simp;omega)
 generalize labsP (ledP 0 code (List.replicate (slotsP code) false)) 0=labs at *
 have HLabs:Hid (labs.length=slotsP code):=hlabs
 have HL22:Hid (∀ e∈labs,e.length<=22):=hlab22
 have HB:Hid (BAbove w0 w0.heap.size ob l w):=hb
 clear hO hC hok hnd hJ hE hlabs hlab22 hb;generalize slotsP code=N at *
 have HBm:Hid (BAbove w0 w0.heap.size ob l (w.alloc (.cells #[.string nm,.slice oC code.length cC] 55))):=HB.out.mods ((Mods.refl _ _).alloc _)
 have hob:ob<w.heap.size:=HB.out.lt
 go_enter Tryz.func18,Tryz.ntmps18
 go_wp2_with fail
 refine (HSl.out _ HBm.out.md).mono ?_
 rintro e w1 ⟨gL,rfl,hgL,hBL,m1⟩
 have HB1:Hid (BAbove w0 w0.heap.size ob l w1):=HBm.out.mods m1
 have hbx:Blk w1 w.heap.size #[.string nm,.slice oC code.length cC] 55:=(Blk.new w _ _).mods m1 id
 have x1:w1.cell? ⟨w.heap.size,1,none⟩=some (.slice oC code.length cC):=hbx.cell 1
 have HL1:Hid (Blk w1 gL (strA (labs.map T)) 9):=hBL
 have hgo:gL≠ob:=by simp at hgL;omega
 clear hBL m1 hbx HBm HB HSl;go_wp2_with fail
 go_loopw [5,13] (fun sv i wl=>∃ (k:Nat) (done:List UInt8),k<=code.length/\i=.int .i64 k/\sv=.int .i64 (sumS code k)/\done.length<=k*4000/\BAbove w0 w0.heap.size ob (l++done) wl/\done++codeTP labs (sumS code k) (code.drop k)=codeTP labs 0 code/\Blk wl gL (strA (labs.map T)) 9/\JOk N (sumS code k) (code.drop k)) (fun _ i _=>code.length - (intOf i).toNat)
 case atStart=>exact ⟨0,[],Nat.zero_le _,rfl,rfl,Nat.zero_le _,by rw [List.append_nil];exact HB1.out,rfl,HL1.out,HJ.out⟩
 case round =>
  obtain ⟨k,done,hk,rfl,rfl,hdl,hBk,htx,hBL,hJk⟩:=hrel
  have HBk:Hid (BAbove w0 w0.heap.size ob (l++done) wr):=hBk
  have HTx:Hid (done++codeTP labs (sumS code k) (code.drop k)=codeTP labs 0 code):=htx
  have HBL:Hid (Blk wr gL (strA (labs.map T)) 9):=hBL
  have HJk:Hid (JOk N (sumS code k) (code.drop k)):=hJk
  clear hBk htx hBL hJk HB1 HL1 x1
  by_cases hlt:k<code.length
  ·have hdr:code.drop k=code[k]::code.drop (k+1):=List.drop_eq_getElem_cons hlt
   rw [hdr] at HTx HJk
   have HSt:Hid (sumS code (k+1)=sumS code k+code[k].o.slots):=sumS_step code k hlt
   have hsk:=HLt.out k hlt
   obtain ⟨g,rfl,hg,q0,q1,q2,q3,q4,q5,q6,q7⟩:=code_at (HC.out.mods HBk.out.md (fun _ _=>id)) rfl rfl k hlt
   have hmem:=List.getElem_mem hlt
   generalize code[k]=x at *
   have HXo:Hid (PIok x):=HOk.out x hmem
   have HXn:Hid (x.o.needs (x.ins [])=true/\x.name.length<=300):=HNd.out x hmem
   have hsl:=HXo.out.slots
   have hj:=HXo.out.j
   have HJ1:Hid (x.o.jumps=true->0<=x.target (sumS code k)/\(x.target (sumS code k)).toNat<N):=HJk.out.1
   have HJ2:Hid (JOk N (sumS code k+x.o.slots) (code.drop (k+1))):=HJk.out.2
   have HAny:Hid (∀ w',Mods Nil' w0 w'->OpAt w' (bs[x.k]?.getD 0) x.o):=fun w' m=>tab_at (HO.out.mods m) x HXo.out.k
   generalize bs[x.k]?.getD 0=b at *;generalize sumS code k=sk at *
   have HTx2:Hid (done++((if labs[sk]?.getD []≠[] then labs[sk]?.getD []++[58,10] else [])++[32,32]++x.o.write { x.ins [] with label:=T (x.lab labs sk) }++[10]++codeTP labs (sk+x.o.slots) (code.drop (k+1)))=codeTP labs 0 code):=HTx.out
   clear HTx HJk hdr hmem
   have hskl:sk<labs.length:=by rw [HLabs.out];exact hsk
   have hlb:labs[sk]?.getD []=labs[sk]:=by simp [hskl]
   have hl22:=HL22.out labs[sk] (List.getElem_mem hskl)
   rw [hlb] at HTx2
   have HCpB:Hid (BAbove w0 w0.heap.size ob (l++done) (wr.alloc (.cells #[.pointer (some ⟨b,0,none⟩),.int .u8 x.d,.int .u8 x.s,.int .i16 x.jump,.int .i32 x.num,.int .i32 x.high,.string ByteArray.empty,.string (T x.name)] 84))):=HBk.out.mods ((Mods.refl _ _).alloc _)
   have HCpL:Hid (Blk (wr.alloc (.cells #[.pointer (some ⟨b,0,none⟩),.int .u8 x.d,.int .u8 x.s,.int .i16 x.jump,.int .i32 x.num,.int .i32 x.high,.string ByteArray.empty,.string (T x.name)] 84)) gL (strA (labs.map T)) 9):=HBL.out.alloc _
   have HCpC:Hid (Blk (wr.alloc (.cells #[.pointer (some ⟨b,0,none⟩),.int .u8 x.d,.int .u8 x.s,.int .i16 x.jump,.int .i32 x.num,.int .i32 x.high,.string ByteArray.empty,.string (T x.name)] 84)) wr.heap.size #[.pointer (some ⟨b,0,none⟩),.int .u8 x.d,.int .u8 x.s,.int .i16 x.jump,.int .i32 x.num,.int .i32 x.high,.string ByteArray.empty,.string (T x.name)] 84):=Blk.new _ _ _
   have hBO:w0.heap.size<=wr.heap.size:=HBk.out.md.size
   have hcb:wr.heap.size≠ob:=by have:=HBk.out.lt;omega
   have hcL:wr.heap.size≠gL:=by have:=HBL.out.lt;omega
   have cL:(wr.alloc (.cells #[.pointer (some ⟨b,0,none⟩),.int .u8 x.d,.int .u8 x.s,.int .i16 x.jump,.int .i32 x.num,.int .i32 x.high,.string ByteArray.empty,.string (T x.name)] 84)).cell? ⟨gL,sk,none⟩=some (.string (T labs[sk])):=by rw [HCpL.out.cell];simp [strA,hskl]
   clear hlb;generalize labs[sk]=lb at *
   obtain ⟨wO,hwO⟩:∃ wO,wO=wr:=⟨_,rfl⟩
   subst hwO;go_upto_if 21 with fail
   go_cut [22] (fun _ wx=>BAbove w0 w0.heap.size ob (l++(done++(if lb≠[] then lb++[58,10] else []))) wx/\Blk wx gL (strA (labs.map T)) 9/\Blk wx wO.heap.size #[.pointer (some ⟨b,0,none⟩),.int .u8 x.d,.int .u8 x.s,.int .i16 x.jump,.int .i32 x.num,.int .i32 x.high,.string ByteArray.empty,.string (T x.name)] 84)
   case first =>
    by_cases hlb:lb=[]
    ·subst hlb
     have hT3:(!(T ([]:List UInt8)).toList.isEmpty)=false:=by simp [T]
     rw [hT3];clear hT3;go_wp2_with fail;go_meet
     refine ⟨?_,HCpL.out,HCpC.out⟩
     have:=HCpB.out
     simpa using this
    ·have hT3:(!(T lb).toList.isEmpty)=true:=by simpa [T] using hlb
     rw [hT3];clear hT3
     have hsz:¬ 9223372036854775807<(T lb).size+2:=by rw [T_size];omega
     have HW:Hid (Calls Tryz.prog 16 #[.pointer (some ⟨ob,0,none⟩),.string (T lb++⟨#[58,10]⟩)] (wO.alloc (.cells #[.pointer (some ⟨b,0,none⟩),.int .u8 x.d,.int .u8 x.s,.int .i16 x.jump,.int .i32 x.num,.int .i32 x.high,.string ByteArray.empty,.string (T x.name)] 84)) fun e w'=>e=.returned (.tuple #[.int .i64 (T lb++⟨#[58,10]⟩).size,.nilIface])/\BAbove w0 w0.heap.size ob (l++done++BL (T lb++⟨#[58,10]⟩)) w'/\Lib.OthersKept 5 (some ob) (wO.alloc (.cells #[.pointer (some ⟨b,0,none⟩),.int .u8 x.d,.int .u8 x.s,.int .i16 x.jump,.int .i32 x.num,.int .i32 x.high,.string ByteArray.empty,.string (T x.name)] 84)) w'):=HCpB.out.write _ (by
      have:(T lb++⟨#[58,10]⟩).size=lb.length+2:=by rw [ByteArray.size_append,T_size];rfl
      rw [this,List.length_append];omega)
     have HBLe:Hid (BL (T lb++⟨#[58,10]⟩)=lb++[58,10]):=by simp [Hid,BL,T]
     go_wp2_with fail;refine HW.out.mono ?_;rintro e w3 ⟨rfl,hB3,hk3⟩;rw [HBLe.out] at hB3
     have HB3:Hid (BAbove w0 w0.heap.size ob (l++(done++(lb++[58,10]))) w3):=by rw [Hid,<- List.append_assoc l];exact hB3
     have HL3:Hid (Blk w3 gL (strA (labs.map T)) 9):=kept_blk hk3 HCpL.out hgo (by decide)
     have HC3:Hid (Blk w3 wO.heap.size #[.pointer (some ⟨b,0,none⟩),.int .u8 x.d,.int .u8 x.s,.int .i16 x.jump,.int .i32 x.num,.int .i32 x.high,.string ByteArray.empty,.string (T x.name)] 84):=kept_blk hk3 HCpC.out hcb (by decide)
     clear hB3 hk3;go_wp2_with fail;go_meet
     exact ⟨by rw [if_pos hlb];exact HB3.out,HL3.out,HC3.out⟩
   case rest =>
   obtain ⟨hB2,hL2,hC2⟩:=hcut
   generalize hdn:done++(if lb≠[] then lb++[58,10] else [])=done2 at *
   have hd2l:done2.length<=k*4000+24:=by
    rw [<- hdn,List.length_append]
    split
    ·simp only [List.length_append,List.length_cons,List.length_nil];omega
    ·simp only [List.length_nil];omega
   have HTx3:Hid (done2++([32,32]++x.o.write { x.ins [] with label:=T (x.lab labs sk) }++[10]++codeTP labs (sk+x.o.slots) (code.drop (k+1)))=codeTP labs 0 code):=by
    rw [Hid,<- HTx2.out,<- hdn]
    simp only [List.append_assoc]
   have HB2:Hid (BAbove w0 w0.heap.size ob (l++done2) wc):=hB2
   have HL2:Hid (Blk wc gL (strA (labs.map T)) 9):=hL2
   have HC2:Hid (Blk wc wO.heap.size #[.pointer (some ⟨b,0,none⟩),.int .u8 x.d,.int .u8 x.s,.int .i16 x.jump,.int .i32 x.num,.int .i32 x.high,.string ByteArray.empty,.string (T x.name)] 84):=hC2
   clear hB2 hL2 hC2 HTx2 hdn HCpB HCpL HCpC HBk HBL cL q0 q1 q2 q3 q4 q5 q6 q7
   have i0:wc.cell? ⟨wO.heap.size,0,none⟩=some (.pointer (some ⟨b,0,none⟩)):=HC2.out.cell 0
   have HA2:Hid (OpAt wc b x.o):=HAny.out wc HB2.out.md
   obtain ⟨y2,y3,_,_⟩:=HA2.out.cells
   obtain ⟨wD,hwD⟩:∃ wD,wD=wc:=⟨_,rfl⟩
   subst hwD;go_upto_if 33 with fail
   go_cut [34] (fun _ wx=>BAbove w0 w0.heap.size ob (l++done2) wx/\Blk wx gL (strA (labs.map T)) 9/\Blk wx wO.heap.size #[.pointer (some ⟨b,0,none⟩),.int .u8 x.d,.int .u8 x.s,.int .i16 x.jump,.int .i32 x.num,.int .i32 x.high,.string (T (x.lab labs sk)),.string (T x.name)] 84)
   case first =>
    have hxl:x.lab labs sk=if x.o.jumps then labs[(x.target sk).toNat]?.getD [] else []:=rfl
    have HXl:Hid (x.lab labs sk=if x.o.jumps then labs[(x.target sk).toNat]?.getD [] else []):=hxl
    clear hxl
    cases hjs:x.o.jumps with
    | false =>
     rw [hjs] at y3 HXl
     have HXl2:Hid (x.lab labs sk=[]):=by rw [Hid,HXl.out];rfl
     go_wp2_with fail;go_meet;rw [HXl2.out]
     exact ⟨HB2.out,HL2.out,HC2.out⟩
    | true =>
     rw [hjs] at y3 HXl;obtain ⟨j0,j1⟩:=HJ1.out hjs
     have ht:x.target sk=(sk:Int)+x.o.slots+x.jump:=rfl
     obtain ⟨t,htt⟩:∃ t:Nat,x.target sk=t:=⟨(x.target sk).toNat,by omega⟩
     rw [htt] at HXl j1
     have htN:t<N:=by simpa using j1
     have htl:t<labs.length:=by rw [HLabs.out];exact htN
     have HXl2:Hid (x.lab labs sk=labs[t]):=by rw [Hid,HXl.out];simp [htl]
     have HTg:Hid (Calls Tryz.prog 40 #[.agg #[.pointer (some ⟨b,0,none⟩),.int .u8 x.d,.int .u8 x.s,.int .i16 x.jump,.int .i32 x.num,.int .i32 x.high,.string ByteArray.empty,.string (T x.name)],.int .i64 sk] wD fun e w'=>e=.returned (.int .i64 (t:Nat))/\Mods Nil' wD w'):=by
      have:=target_any wD b x.o HA2.out x.d x.s x.num x.high x.jump ByteArray.empty (T x.name) sk (by omega) (by omega) hj
      rw [<- ht,htt] at this;exact this
     obtain ⟨i0,i1,i2,i3,i4,i5,i6,i7⟩:=HC2.out.cells8;clear HXl ht htt j0 j1;go_wp2_with fail;refine HTg.out.mono ?_;rintro e w3 ⟨rfl,m3⟩
     have HB3:Hid (BAbove w0 w0.heap.size ob (l++done2) w3):=HB2.out.mods m3
     have HL3:Hid (Blk w3 gL (strA (labs.map T)) 9):=HL2.out.mods m3 id
     have HC3:Hid (Blk w3 wO.heap.size #[.pointer (some ⟨b,0,none⟩),.int .u8 x.d,.int .u8 x.s,.int .i16 x.jump,.int .i32 x.num,.int .i32 x.high,.string ByteArray.empty,.string (T x.name)] 84):=HC2.out.mods m3 id
     have cL:w3.cell? ⟨gL,t,none⟩=some (.string (T labs[t])):=by rw [HL3.out.cell];simp [strA,htl]
     have c6:w3.cell? ⟨wO.heap.size,6,none⟩=some (.string ByteArray.empty):=HC3.out.cell 6
     have f6:=HC3.out.frozen 6
     clear m3;generalize labs[t]=lt at *;go_wp2_with fail;go_meet;rw [HXl2.out]
     exact ⟨HB3.out.set HC3.out hBO 6 _,Blk.setOther HL3.out hcL _,HC3.out.set 6 _⟩
   case rest =>
   obtain ⟨hB4,hL4,hC4⟩:=hcut
   have HB4:Hid (BAbove w0 w0.heap.size ob (l++done2) wc):=hB4
   have HL4:Hid (Blk wc gL (strA (labs.map T)) 9):=hL4
   have HC4:Hid (Blk wc wO.heap.size #[.pointer (some ⟨b,0,none⟩),.int .u8 x.d,.int .u8 x.s,.int .i16 x.jump,.int .i32 x.num,.int .i32 x.high,.string (T (x.lab labs sk)),.string (T x.name)] 84):=hC4
   clear hB4 hL4 hC4 HB2 HL2 HC2 i0 HA2 y2 y3
   have hlab:(x.lab labs sk).length<=100:=by
    show (if x.o.jumps then labs[(x.target sk).toNat]?.getD [] else []).length<=100
    split
    ·cases hq:labs[(x.target sk).toNat]? with
     | none=>simp
     | some e=>have:=HL22.out e (List.mem_of_getElem? hq);simp only [Option.getD_some];omega
    ·simp
   have hEc:Env wc:=HE.out.mods HB4.out.md
   obtain ⟨k7,c7,hc7,he7,hw7⟩:=wr_any w0 wc b x HXo.out HXn.out.1 HXn.out.2 (x.lab labs sk) hlab (HAny.out w0 (Mods.refl _ _)) HB4.out.md hEc
   have hFit:PIns.Fit { x.ins [] with label:=T (x.lab labs sk) }:=⟨HXo.out.d,HXo.out.s,HXo.out.j.1,HXo.out.j.2,HXo.out.n.1,HXo.out.n.2,HXo.out.h.1,HXo.out.h.2,by show (T (x.lab labs sk)).size<=100;rw [T_size];exact hlab,by show (T x.name).size<=300;rw [T_size];exact HXn.out.2⟩
   have hwl:=write_len x.o (op_mem x HXo.out.k) { x.ins [] with label:=T (x.lab labs sk) } hFit
   have HW7:Hid (∀ w2,Mods Nil' wc w2->Calls Tryz.prog k7 (#[.agg #[.pointer (some ⟨b,0,none⟩),.int .u8 x.d,.int .u8 x.s,.int .i16 x.jump,.int .i32 x.num,.int .i32 x.high,.string (T (x.lab labs sk)),.string (T x.name)]]++c7) w2 fun e w''=>e=.returned (.string (T (x.o.write { x.ins [] with label:=T (x.lab labs sk) })))/\Mods Nil' w2 w''):=hw7
   have hlabt:∃ lt,x.lab labs sk=lt:=⟨_,rfl⟩
   clear hw7 hEc hFit hlab
   generalize x.o.write { x.ins [] with label:=T (x.lab labs sk) }=wt at *
   generalize x.lab labs sk=lt at *;unfold Ent at he7
   have hb0:b<w0.heap.size:=(HAny.out w0 (Mods.refl _ _)).lt
   have HF7:Hid (∀ w' l',BAbove w0 w0.heap.size ob l' w'->w'.cell? ⟨b,7,none⟩=some (.func (.func k7) #[] c7)):=fun w' l' hB=>by
    rw [hB.cell (a:=⟨b,7,none⟩) hb0,<- HB4.out.cell (a:=⟨b,7,none⟩) hb0];exact hc7
   have HBd:Hid (BAbove w0 w0.heap.size ob (l++done2) wc.drew):=HB4.out.mods (Mods.refl _ _).drew
   have HLd:Hid (Blk wc.drew gL (strA (labs.map T)) 9):=HL4.out.mods (Mods.refl Nil' _).drew id
   have HCd:Hid (Blk wc.drew wO.heap.size #[.pointer (some ⟨b,0,none⟩),.int .u8 x.d,.int .u8 x.s,.int .i16 x.jump,.int .i32 x.num,.int .i32 x.high,.string (T lt),.string (T x.name)] 84):=HC4.out.mods (Mods.refl Nil' _).drew id
   have e0:∀ e:KeepW wO.heap.size #[.pointer (some ⟨b,0,none⟩),.int .u8 x.d,.int .u8 x.s,.int .i16 x.jump,.int .i32 x.num,.int .i32 x.high,.string (T lt),.string (T x.name)] b (.func (.func k7) #[] c7),e.w.cell? ⟨wO.heap.size,0,none⟩=some (.pointer (some ⟨b,0,none⟩)):=fun e=>e.c.cell 0
   have e1:∀ e:KeepW wO.heap.size #[.pointer (some ⟨b,0,none⟩),.int .u8 x.d,.int .u8 x.s,.int .i16 x.jump,.int .i32 x.num,.int .i32 x.high,.string (T lt),.string (T x.name)] b (.func (.func k7) #[] c7),e.w.cell? ⟨wO.heap.size,1,none⟩=some (.int .u8 x.d):=fun e=>e.c.cell 1
   have e2:∀ e:KeepW wO.heap.size #[.pointer (some ⟨b,0,none⟩),.int .u8 x.d,.int .u8 x.s,.int .i16 x.jump,.int .i32 x.num,.int .i32 x.high,.string (T lt),.string (T x.name)] b (.func (.func k7) #[] c7),e.w.cell? ⟨wO.heap.size,2,none⟩=some (.int .u8 x.s):=fun e=>e.c.cell 2
   have e3:∀ e:KeepW wO.heap.size #[.pointer (some ⟨b,0,none⟩),.int .u8 x.d,.int .u8 x.s,.int .i16 x.jump,.int .i32 x.num,.int .i32 x.high,.string (T lt),.string (T x.name)] b (.func (.func k7) #[] c7),e.w.cell? ⟨wO.heap.size,3,none⟩=some (.int .i16 x.jump):=fun e=>e.c.cell 3
   have e4:∀ e:KeepW wO.heap.size #[.pointer (some ⟨b,0,none⟩),.int .u8 x.d,.int .u8 x.s,.int .i16 x.jump,.int .i32 x.num,.int .i32 x.high,.string (T lt),.string (T x.name)] b (.func (.func k7) #[] c7),e.w.cell? ⟨wO.heap.size,4,none⟩=some (.int .i32 x.num):=fun e=>e.c.cell 4
   have e5:∀ e:KeepW wO.heap.size #[.pointer (some ⟨b,0,none⟩),.int .u8 x.d,.int .u8 x.s,.int .i16 x.jump,.int .i32 x.num,.int .i32 x.high,.string (T lt),.string (T x.name)] b (.func (.func k7) #[] c7),e.w.cell? ⟨wO.heap.size,5,none⟩=some (.int .i32 x.high):=fun e=>e.c.cell 5
   have e6:∀ e:KeepW wO.heap.size #[.pointer (some ⟨b,0,none⟩),.int .u8 x.d,.int .u8 x.s,.int .i16 x.jump,.int .i32 x.num,.int .i32 x.high,.string (T lt),.string (T x.name)] b (.func (.func k7) #[] c7),e.w.cell? ⟨wO.heap.size,6,none⟩=some (.string (T lt)):=fun e=>e.c.cell 6
   have e7:∀ e:KeepW wO.heap.size #[.pointer (some ⟨b,0,none⟩),.int .u8 x.d,.int .u8 x.s,.int .i16 x.jump,.int .i32 x.num,.int .i32 x.high,.string (T lt),.string (T x.name)] b (.func (.func k7) #[] c7),e.w.cell? ⟨wO.heap.size,7,none⟩=some (.string (T x.name)):=fun e=>e.c.cell 7
   have e8:∀ e:KeepW wO.heap.size #[.pointer (some ⟨b,0,none⟩),.int .u8 x.d,.int .u8 x.s,.int .i16 x.jump,.int .i32 x.num,.int .i32 x.high,.string (T lt),.string (T x.name)] b (.func (.func k7) #[] c7),e.w.cell? ⟨b,7,none⟩=some (.func (.func k7) #[] c7):=fun e=>e.f
   have ne1:Nonempty (KeepW wO.heap.size #[.pointer (some ⟨b,0,none⟩),.int .u8 x.d,.int .u8 x.s,.int .i16 x.jump,.int .i32 x.num,.int .i32 x.high,.string (T lt),.string (T x.name)] b (.func (.func k7) #[] c7)):=⟨⟨wc.drew,HCd.out,HF7.out _ _ HBd.out⟩⟩
   have s1:¬ 9223372036854775807<2+(T wt).size:=by rw [T_size];omega
   have s2:¬ 9223372036854775807<2+(T wt).size+1:=by rw [T_size];omega
   have HWr:Hid (∀ w',BAbove w0 w0.heap.size ob (l++done2) w'->Calls Tryz.prog 16 #[.pointer (some ⟨ob,0,none⟩),.string (⟨#[32,32]⟩++T wt++⟨#[10]⟩)] w' fun e w''=>e=.returned (.tuple #[.int .i64 (⟨#[32,32]⟩++T wt++⟨#[10]⟩:ByteArray).size,.nilIface])/\BAbove w0 w0.heap.size ob (l++(done2++([32,32]++wt++[10]))) w''/\Lib.OthersKept 5 (some ob) w' w''):=fun w' hB=>by
    have hbl:BL (⟨#[32,32]⟩++T wt++⟨#[10]⟩)=[32,32]++wt++[10]:=by simp [BL,T]
    have hsz:(⟨#[32,32]⟩++T wt++⟨#[10]⟩:ByteArray).size=3+wt.length:=by rw [ByteArray.size_append,ByteArray.size_append,T_size];show 2+wt.length+1=_;omega
    have:=hB.write (⟨#[32,32]⟩++T wt++⟨#[10]⟩) (by rw [hsz,List.length_append];omega)
    rw [hbl,List.append_assoc] at this;exact this
   go_upto_region 10 with fail
   refine wp_region_mix [7,10] (fun w'=>∃ e:KeepW wO.heap.size #[.pointer (some ⟨b,0,none⟩),.int .u8 x.d,.int .u8 x.s,.int .i16 x.jump,.int .i32 x.num,.int .i32 x.high,.string (T lt),.string (T x.name)] b (.func (.func k7) #[] c7),w'=e.w) (by kernel_rfl) (by kernel_rfl) (by kernel_rfl) ⟨⟨wc.drew,HCd.out,HF7.out _ _ HBd.out⟩,rfl⟩ ?_
   iterate 3 (refine mix_pure rfl rfl rfl ?_;intro K hK;go_big_quiet_op;go_big_quiet_on)
   refine mix_nilCheck rfl rfl _ ⟨b,0,none⟩ rfl rfl ?_
   simp only [Act.put,List.setIfInBounds_toArray,List.set_cons_succ,List.set_cons_zero]
   iterate 3 (refine mix_pure rfl rfl rfl ?_;intro K hK;go_big_quiet_op;go_big_quiet_on)
   refine mix_act rfl rfl ?_
   intro K hK
   go_big_op
   refine (HW7.out _ (Mods.refl _ _).drew).mono ?_
   rintro e w8 ⟨rfl,m8⟩
   have HB8:Hid (BAbove w0 w0.heap.size ob (l++done2) w8):=HBd.out.mods m8
   have HL8:Hid (Blk w8 gL (strA (labs.map T)) 9):=HLd.out.mods m8 id
   have HC8:Hid (Blk w8 wO.heap.size #[.pointer (some ⟨b,0,none⟩),.int .u8 x.d,.int .u8 x.s,.int .i16 x.jump,.int .i32 x.num,.int .i32 x.high,.string (T lt),.string (T x.name)] 84):=HCd.out.mods m8 id
   refine hK _ _ rfl ⟨⟨w8,HC8.out,HF7.out _ _ HB8.out⟩,rfl⟩ ?_
   clear hK K m8
   iterate 2 (refine mix_pure rfl rfl rfl ?_;intro K hK;go_big_quiet_op;go_big_quiet_on)
   refine mix_act rfl rfl ?_
   intro K hK
   go_big_op
   refine (HWr.out _ HB8.out).mono ?_
   rintro e w9 ⟨rfl,hB9,hk9⟩
   have HB9:Hid (BAbove w0 w0.heap.size ob (l++(done2++([32,32]++wt++[10]))) w9):=hB9
   have HL9:Hid (Blk w9 gL (strA (labs.map T)) 9):=kept_blk hk9 HL8.out hgo (by decide)
   have hC9:Blk w9 wO.heap.size #[.pointer (some ⟨b,0,none⟩),.int .u8 x.d,.int .u8 x.s,.int .i16 x.jump,.int .i32 x.num,.int .i32 x.high,.string (T lt),.string (T x.name)] 84:=kept_blk hk9 HC8.out hcb (by decide)
   have z0:w9.cell? ⟨wO.heap.size,0,none⟩=some (.pointer (some ⟨b,0,none⟩)):=hC9.cell 0
   obtain ⟨z2,_,_,_⟩:=(HAny.out w9 hB9.md).cells
   refine hK _ _ rfl ⟨⟨w9,hC9,HF7.out _ _ hB9⟩,rfl⟩ ?_
   clear hK K hB9 hk9 hC9
   refine mix_nil ?_
   simp only [Exit.then]
   have HTx4:Hid ((done2++([32,32]++wt++[10]))++codeTP labs (sk+x.o.slots) (code.drop (k+1))=codeTP labs 0 code):=by
    rw [Hid,<- HTx3.out]
    simp only [List.append_assoc]
   generalize x.o.slots=os at *;clear e0 e1 e2 e3 e4 e5 e6 e7 e8 HWr HF7 HW7;go_wp2_with fail
   go_roundw
   case rel=>exact ⟨k+1,done2++([32,32]++wt++[10]),by omega,by go_num,by rw [HSt.out];go_num,by simp only [List.length_append,List.length_cons,List.length_nil];omega,HB9.out,by rw [HSt.out];exact HTx4.out,HL9.out,by rw [HSt.out];exact HJ2.out⟩
   case measure=>simp [intOf];omega
  ·obtain rfl:k=code.length:=by omega
   have HF:Hid (done=codeTP labs 0 code):=by rw [Hid,<- HTx.out,List.drop_length];simp [codeTP]
   have HLn:Hid ((codeTP labs 0 code).length<=1200000):=by rw [Hid,<- HF.out];omega
   rw [HF.out] at HBk;go_wp2_with fail
   go_end0
   exact ⟨rfl,HBk.out,HLn.out⟩
end Go.Proofs.YtnhcaifopaeohaaGreatDoor
