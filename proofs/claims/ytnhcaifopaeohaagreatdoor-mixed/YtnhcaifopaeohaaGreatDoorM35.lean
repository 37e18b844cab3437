import Derived.Test.YtnhcaifopaeohaaGreatDoorM31
namespace Go.Proofs.YtnhcaifopaeohaaGreatDoor
open Go.RowKit
set_option linter.all false
def prefU (n slot:Nat) (x:PI):List UInt8:=if x.refers=0 then [] else b8 [(n:Int)]++b8 (twoL slot)++namedU (T x.name)
def prefC (n:Nat):Nat->List PI->List UInt8
 | _,[]=>[]
 | slot,x::c=>prefU n slot x++prefC n (slot+x.o.slots) c
def pcntC:List PI->Nat
 | []=>0
 | x::c=>(if x.refers=0 then 0 else 1)+pcntC c
def prefF:Nat->List PFn->List UInt8
 | _,[]=>[]
 | n,f::fs=>prefC n 0 f.code++prefF (n+1) fs
def pcntR:List PFn->Nat
 | []=>0
 | f::fs=>pcntC f.code+pcntR fs
def plenR:List PFn->Nat
 | []=>0
 | f::fs=>f.code.length+plenR fs
theorem prefC_drop (n slot:Nat) (c:List PI) (j:Nat) (h:j<c.length):prefC n slot (c.drop j)=prefU n slot c[j]++prefC n (slot+c[j].o.slots) (c.drop (j+1)):=by
 rw [List.drop_eq_getElem_cons h];rfl
theorem pcntC_drop (c:List PI) (j:Nat) (h:j<c.length):pcntC (c.drop j)=(if c[j].refers=0 then 0 else 1)+pcntC (c.drop (j+1)):=by
 rw [List.drop_eq_getElem_cons h];rfl
theorem prefF_drop (fs:List PFn) (k n:Nat) (h:k<fs.length):prefF n (fs.drop k)=prefC n 0 fs[k].code++prefF (n+1) (fs.drop (k+1)):=by
 rw [List.drop_eq_getElem_cons h];rfl
theorem pcntR_drop (fs:List PFn) (k:Nat) (h:k<fs.length):pcntR (fs.drop k)=pcntC fs[k].code+pcntR (fs.drop (k+1)):=by
 rw [List.drop_eq_getElem_cons h];rfl
theorem plenR_drop (fs:List PFn) (k:Nat) (h:k<fs.length):plenR (fs.drop k)=fs[k].code.length+plenR (fs.drop (k+1)):=by
 rw [List.drop_eq_getElem_cons h];rfl
theorem prefU_len (n slot:Nat) (x:PI) (h:x.name.length<=255):(prefU n slot x).length<=259:=by
 unfold prefU
 split
 ·simp
 ·simp only [List.length_append,b8_len,namedU_len,T_size,List.length_cons,List.length_nil,twoL];omega
set_option maxRecDepth 100000 in
set_option maxHeartbeats 4000000 in
theorem orefs_any (w:World) (tv vO:Value) (l:List UInt8) (bs:List Nat) (vM vF:Value) (ms:List PMap) (fs:List PFn) (vs:List Value) (hP:PPrL w tv bs vM vF ms fs vs) (hE:EOk ms fs) (hn:∀ f∈fs,∀ x∈f.code,x.name.length<=255) (ht:plenR fs<=1000) (hO:Out w vO l) (hl:l.length<=300000) :
  Calls Tryz.prog 44 #[vO,vF] w fun e w'=>OutPost w vO (l++b8 (twoL (pcntR fs))++prefF 0 fs) e w':=by
 obtain ⟨iU,hiU,hzU,hsU,hbU⟩:=info_u8_parts;obtain ⟨oF,cF,hvF,_⟩:=hP.rows.view;subst hvF;have HP:=hid hP;have HE:=hid hE;have HN:=hid hn;have HO:=hid hO
 have HI0:Hid (EI w (.slice none 0 0) [] w):=⟨Sl.nil _ _ _,Mods.refl _ _,fun k h=>by cases h⟩
 have hfl:=hE.f
 have HT:=hid ht
 have HLF:Hid (∀ k (h:k<fs.length),plenR (fs.drop k)=fs[k].code.length+plenR (fs.drop (k+1))):=fun k h=>plenR_drop fs k h
 clear hP hE hn hO ht
 go_enter Tryz.func44,Tryz.ntmps44
 go_wp2_with fail
 go_loopg [5,6,14] fs.length (fun g u5 u6 u14 wx=>∃ (k c:Nat) (a:List UInt8),k<=fs.length/\u14=.int .i64 k/\u6=.int .i64 c/\EI w u5 a wx/\a++prefF k (fs.drop k)=prefF 0 fs/\c+pcntR (fs.drop k)=pcntR fs/\a.length+259*plenR (fs.drop k)<=259*plenR fs/\c<=200*k/\g=fs.length - k)
 case atStart=>exact ⟨0,0,[],Nat.zero_le _,rfl,rfl,HI0.out,rfl,Nat.zero_add _,by simp,Nat.zero_le _,rfl⟩
 case round =>
  obtain ⟨k,c,a,hk,rfl,rfl,hI,hR,hC,hLn,hc1,rfl⟩:=hrel;have HI:=hid hI;have HR:=hid hR;have HC:=hid hC;have HLn:=hid hLn
  have HPr:=HP.out.quiet hI.md
  clear hI hR hC hLn HI0
  by_cases hkl:k<fs.length
  ·have hkv:k<vs.length:=by rw [HPr.len];exact hkl
   obtain ⟨gF,rfl,c0,c1⟩:=HPr.atF k hkl hkv
   have hok:=HE.out.fn fs[k] (List.getElem_mem hkl)
   have hcd:=HPr.code k hkl hkv
   have HOP:Hid (∀ w',Mods Nil' w w'->OpsIn 0 w' tv bs tableS/\CodeL w' vs[k] bs fs[k].code):=fun w' m=>⟨(HP.out.quiet m).ops,(HP.out.quiet m).code k hkl hkv⟩
   have HD:Hid (a++(prefC k 0 fs[k].code++prefF (k+1) (fs.drop (k+1)))=prefF 0 fs):=by rw [Hid,<- HR.out,prefF_drop fs k k hkl]
   have HD2:Hid (c+(pcntC fs[k].code+pcntR (fs.drop (k+1)))=pcntR fs):=by rw [Hid,<- HC.out,pcntR_drop fs k hkl]
   have HL2:Hid (a.length+259*fs[k].code.length+259*plenR (fs.drop (k+1))<=259*plenR fs):=by
    have h1:=HLn.out
    rw [plenR_drop fs k hkl] at h1
    rw [Hid];omega
   have HNx:Hid (∀ x∈fs[k].code,x.name.length<=255):=HN.out fs[k] (List.getElem_mem hkl)
   generalize fs[k]=f at *;generalize vs[k]=vC at *;obtain ⟨nm,code⟩:=f;simp only at *;obtain ⟨o1,o2,o3⟩:=hok;obtain ⟨oC,cC,rfl,_⟩:=hcd.view;have HOPc:=hid HOP.out;have HOK:=hid o3
   have HIa:Hid (EI w u5 a (wr.alloc (.cells #[.string (T nm),.slice oC code.length cC] 55))):=HI.out.quiet ((Mods.refl _ _).alloc _)
   have htt:=HT.out
   clear HOP hcd HPr HR HC HI o3 HLn;go_wp2_with fail;generalize wr.alloc (.cells #[.string (T nm),.slice oC code.length cC] 55)=W at *
   go_loopg [5,6,9,22] code.length (fun g v5 v6 v9 v22 wx=>∃ (j c' sl:Nat) (a':List UInt8),j<=code.length/\v22=.int .i64 j/\v6=.int .i64 c'/\v9=.int .i64 sl/\EI w v5 a' wx/\a'++prefC k sl (code.drop j)=a++prefC k 0 code/\c'+pcntC (code.drop j)=c+pcntC code/\a'.length<=a.length+259*j/\c'<=c+j/\sl<=2*j/\g=code.length - j)
   case atStart=>exact ⟨0,c,0,a,Nat.zero_le _,rfl,rfl,rfl,HIa.out,rfl,rfl,Nat.le_refl _,Nat.le_refl _,Nat.le_refl _,rfl⟩
   case round =>
    clear c0 c1 HIa;obtain ⟨j,c',sl,a',hjm,rfl,rfl,rfl,hI,hR,hC,hll,hcl,hsl,rfl⟩:=hrel;have HI:=hid hI;have HR:=hid hR;have HC:=hid hC;have HLL:=hid hll;clear hR hC hll
    by_cases hjl:j<code.length
    ·obtain ⟨g,lab,rfl,hg,y0,y1,y2,y3,y4,y5,y6,y7⟩:=codeL_at (HOPc.out wr hI.md).2 rfl rfl j hjl
     have hx:=HOK.out code[j] (List.getElem_mem hjl)
     have HD3:Hid (a'++(prefU k sl code[j]++prefC k (sl+code[j].o.slots) (code.drop (j+1)))=a++prefC k 0 code):=by rw [Hid,<- HR.out,prefC_drop k sl code j hjl]
     have HC3:Hid (c'+((if (if code[j].s=1 then code[j].o.refers else 0)=0 then 0 else 1)+pcntC (code.drop (j+1)))=c+pcntC code):=by rw [Hid,<- HC.out,pcntC_drop code j hjl];rfl
     have HAT:Hid (∀ w',Mods Nil' w w'->OpAt w' (bs[code[j].k]?.getD 0) code[j].o):=fun w' m=>tab_at (HOPc.out w' m).1 code[j] hx.k
     have hslc:=hx.slots
     have HRU:Hid (prefU k sl code[j]=if (if code[j].s=1 then code[j].o.refers else 0)=0 then [] else b8 [(k:Int)]++b8 (twoL sl)++namedU (T code[j].name)):=rfl
     have HNm:Hid (code[j].name.length<=255):=HNx.out _ (List.getElem_mem hjl)
     have HUL:Hid ((prefU k sl code[j]).length<=259):=prefU_len k sl code[j] HNm.out
     have HRF:Hid (∀ w',Mods Nil' w w'->Calls Tryz.prog 54 #[.agg #[.pointer (some ⟨bs[code[j].k]?.getD 0,0,none⟩),.int .u8 code[j].d,.int .u8 code[j].s,.int .i16 code[j].jump,.int .i32 code[j].num,.int .i32 code[j].high,.string lab,.string (T code[j].name)]] w' fun e w2=>e=.returned (.int .i64 ((if code[j].s=1 then code[j].o.refers else 0:Nat):Int))/\Mods Nil' w' w2):=fun w' m=>refers_any w' _ code[j].o (HAT.out w' m) code[j].d code[j].s code[j].num code[j].high code[j].jump lab _
     clear hx HR HC hI
     generalize (if code[j].s=1 then code[j].o.refers else 0)=rf at *
     generalize prefU k sl code[j]=pu at *;generalize code[j].o=o at *;generalize code[j].jump=jmp at *;generalize code[j].d=xd at *;generalize code[j].s=xs at *;generalize code[j].num=xn at *;generalize code[j].high=xh at *;generalize code[j].name=xm at *;generalize bs[code[j].k]?.getD 0=b at *;go_upto_region 10 with fail
     have HB1:Hid (Blk (wr.alloc (.cells #[.pointer (some ⟨b,0,none⟩),.int .u8 xd,.int .u8 xs,.int .i16 jmp,.int .i32 xn,.int .i32 xh,.string lab,.string (T xm)] 84)) wr.heap.size #[.pointer (some ⟨b,0,none⟩),.int .u8 xd,.int .u8 xs,.int .i16 jmp,.int .i32 xn,.int .i32 xh,.string lab,.string (T xm)] 84):=Blk.new wr _ _
     have HI1:Hid (EI w u5 a' (wr.alloc (.cells #[.pointer (some ⟨b,0,none⟩),.int .u8 xd,.int .u8 xs,.int .i16 jmp,.int .i32 xn,.int .i32 xh,.string lab,.string (T xm)] 84))):=HI.out.quiet ((Mods.refl _ _).alloc _)
     generalize wr.alloc (.cells #[.pointer (some ⟨b,0,none⟩),.int .u8 xd,.int .u8 xs,.int .i16 jmp,.int .i32 xn,.int .i32 xh,.string lab,.string (T xm)] 84)=w1 at *;generalize wr.heap.size=B at *;clear y0 y1 y2 y3 y4 y5 y6 y7 hg HI
     have z0:=HB1.out.cell 0
     have z1:=HB1.out.cell 1
     have z2:=HB1.out.cell 2
     have z3:=HB1.out.cell 3
     have z4:=HB1.out.cell 4
     have z5:=HB1.out.cell 5
     have z6:=HB1.out.cell 6
     have z7:=HB1.out.cell 7
     go_wp2_with fail
     refine (HRF.out _ HI1.out.md).mono ?_
     rintro e w3 ⟨rfl,m3⟩
     have HI3:Hid (EI w u5 a' w3):=HI1.out.quiet m3
     have HB3:Hid (Blk w3 B #[.pointer (some ⟨b,0,none⟩),.int .u8 xd,.int .u8 xs,.int .i16 jmp,.int .i32 xn,.int .i32 xh,.string lab,.string (T xm)] 84):=HB1.out.mods m3 id
     clear m3 HI1 HB1 z0 z1 z2 z3 z4 z5 z6 z7
     by_cases h0:rf=0
     ·subst h0
      have HP0:Hid (pu=[]):=by rw [Hid,HRU.out,if_pos rfl]
      have HCx:Hid (c'+pcntC (code.drop (j+1))=c+pcntC code):=by have:=HC3.out;rw [if_pos rfl] at this;rw [Hid];omega
      obtain ⟨p1,p2,p3,p4,p5,p6,p7,p8,p9,p10,p11,hbo,_⟩:=(HAT.out w3 HI3.out.md).ex
      have z0:=HB3.out.cell 0
      have ob2:=hbo.cell 2
      have HDx:Hid (a'++prefC k (sl+o.slots) (code.drop (j+1))=a++prefC k 0 code):=by have:=HD3.out;rw [HP0.out] at this;exact this
      clear hbo;generalize o.slots=os at *;go_wp2_with fail
      go_roundg (code.length - (j+1))
      case measure=>omega
      case rel=>exact ⟨j+1,c',sl+os,a',by omega,by go_num,rfl,by go_num,HI3.out,HDx.out,HCx.out,by have:=HLL.out;omega,by omega,by omega,rfl⟩
     ·have HP0:Hid (pu=b8 [(k:Int)]++b8 (twoL sl)++namedU (T xm)):=by rw [Hid,HRU.out,if_neg h0]
      have HCx:Hid (c'+1+pcntC (code.drop (j+1))=c+pcntC code):=by have:=HC3.out;rw [if_neg h0] at this;rw [Hid];omega
      have HDx:Hid (a'++pu++prefC k (sl+o.slots) (code.drop (j+1))=a++prefC k 0 code):=by rw [Hid,List.append_assoc];exact HD3.out
      have hq0:((rf:Int)==0)=false:=by simp;omega
      have HAL:Hid (a'.length<=259000):=by
       have h1:=HLL.out
       have h2:=HL2.out
       rw [Hid];omega
      have HKB:Hid (∀ x∈[(k:Int)],0<=x/\x<=255):=fun x hx=>by simp at hx;subst hx;omega
      have HI4:Hid (∀ os,EI w u5 a' (w3.alloc os)):=fun os=>HI3.out.quiet ((Mods.refl _ _).alloc _)
      have HB4:Hid (∀ os,Blk (w3.alloc os) B #[.pointer (some ⟨b,0,none⟩),.int .u8 xd,.int .u8 xs,.int .i16 jmp,.int .i32 xn,.int .i32 xh,.string lab,.string (T xm)] 84):=fun os=>HB3.out.alloc _
      have HAPP:Hid (∀ os vA wA,Sl wA 5 1 vA (a'.length+1) (u8c a'++[(k:Int)].map (Value.int .u8))->Mods (fun i=>u5.ownBlock=some i) (w3.alloc os) wA->(∀ i,vA.ownBlock=some i->u5.ownBlock=some i\/(w3.alloc os).heap.size<=i)->EI w vA (a'++b8 [(k:Int)]) wA/\Blk wA B #[.pointer (some ⟨b,0,none⟩),.int .u8 xd,.int .u8 xs,.int .i16 jmp,.int .i32 xn,.int .i32 xh,.string lab,.string (T xm)] 84):=fun os vA wA sA mA lA=>⟨(HI4.out os).step (Out.app HKB.out rfl sA) mA lA,(HB4.out os).mods mA (fun e=>Sl.notBlk (HI4.out os).out (HB4.out os) (by decide) e)⟩
      clear HC3 HD3 HRU HRF
      go_wp2_with (at_builtin;go_loud (refine wpList_append_sl _ rfl (.tmp 29) (.tmp 32) 43 rfl 5 iU (.int .u8 0) 1 1 Tryz.underlying43 hiU hzU hsU hbU rfl (by decide) u5 a'.length (u8c a') rfl (HI4.out _).out ⟨w3.heap.size,0,none⟩ 1 1 ([(k:Int)].map (Value.int .u8)) rfl rfl (news_cells _ _ _ _ rfl) (u8_one _) (by have:=HAL.out;unfold maxLen;omega) (by have:=HAL.out;omega) ?_;intro vA wA sA mA lA;obtain ⟨hIA,hBA⟩:=HAPP.out _ _ _ sA mA lA;have HIA:Hid (EI w vA (a'++b8 [(k:Int)]) wA):=hIA;have HBA:Hid (Blk wA B #[.pointer (some ⟨b,0,none⟩),.int .u8 xd,.int .u8 xs,.int .i16 jmp,.int .i32 xn,.int .i32 xh,.string lab,.string (T xm)] 84):=hBA;clear hIA hBA sA mA lA))
      refine (aTwo_any wA vA (a'++b8 [(k:Int)]) HIA.out.out (by have:=HAL.out;rw [List.length_append,b8_len];simp only [List.length_cons,List.length_nil];omega) sl).mono ?_
      rintro e w5 ⟨v5,rfl,s5,m5,l5⟩
      have HI5:Hid (EI w v5 (a'++b8 [(k:Int)]++b8 (twoL sl)) w5):=HIA.out.step s5 m5 l5
      have HB5:Hid (Blk w5 B #[.pointer (some ⟨b,0,none⟩),.int .u8 xd,.int .u8 xs,.int .i16 jmp,.int .i32 xn,.int .i32 xh,.string lab,.string (T xm)] 84):=HBA.out.mods m5 (fun e=>Sl.notBlk HIA.out.out HBA.out (by decide) e)
      clear s5 m5 l5 HIA HBA
      have z7:=HB5.out.cell 7
      go_wp2_with fail
      refine (aName_any w5 v5 (a'++b8 [(k:Int)]++b8 (twoL sl)) HI5.out.out (by have:=HAL.out;rw [List.length_append,List.length_append,b8_len,b8_len];simp only [List.length_cons,List.length_nil,twoL];omega) (T xm) (by rw [T_size];exact HNm.out)).mono ?_
      rintro e w6 ⟨v6,rfl,s6,m6,l6⟩
      have HI6:Hid (EI w v6 (a'++pu) w6):=by
       have:=HI5.out.step s6 m6 l6
       rw [Hid,HP0.out]
       simpa [List.append_assoc] using this
      have HB6:Hid (Blk w6 B #[.pointer (some ⟨b,0,none⟩),.int .u8 xd,.int .u8 xs,.int .i16 jmp,.int .i32 xn,.int .i32 xh,.string lab,.string (T xm)] 84):=HB5.out.mods m6 (fun e=>Sl.notBlk HI5.out.out HB5.out (by decide) e)
      clear s6 m6 l6 HI5 HB5 z7
      obtain ⟨p1,p2,p3,p4,p5,p6,p7,p8,p9,p10,p11,hbo,_⟩:=(HAT.out w6 HI6.out.md).ex
      have z0:=HB6.out.cell 0
      have ob2:=hbo.cell 2
      clear hbo;generalize o.slots=os at *;go_wp2_with fail
      go_roundg (code.length - (j+1))
      case measure=>omega
      case rel=>exact ⟨j+1,c'+1,sl+os,a'++pu,by omega,by go_num,by go_num,by go_num,HI6.out,HDx.out,HCx.out,by have:=HLL.out;have:=HUL.out;rw [List.length_append];omega,by omega,by omega,rfl⟩
    ·obtain rfl:j=code.length:=by omega
     have HRx:Hid (a'=a++prefC k 0 code):=by
      have:=HR.out
      rw [List.drop_length,prefC,List.append_nil] at this;exact this
     have HCx:Hid (c'=c+pcntC code):=by
      have:=HC.out
      rw [List.drop_length,pcntC] at this
      rw [Hid];omega
     have HIz:=HI.out
     go_wp2_with fail
     go_roundg (fs.length - (k+1))
     case measure=>omega
     case rel=>exact ⟨k+1,c',a',by omega,by go_num,rfl,HI.out,by rw [HRx.out,List.append_assoc];exact HD.out,by rw [HCx.out,Nat.add_assoc];exact HD2.out,by have h1:=HLL.out;have h2:=HL2.out;omega,by omega,rfl⟩
  ·have HRx:Hid (a=prefF 0 fs):=by
    have:=HR.out
    rw [List.drop_eq_nil_of_le (by omega),prefF,List.append_nil] at this
    exact this
   have HCx:Hid (c=pcntR fs):=by
    have:=HC.out
    rw [List.drop_eq_nil_of_le (by omega),pcntR] at this
    rw [Hid];omega
   have HAL:Hid (a.length<=259000):=by
    have h1:=HLn.out
    have h2:=HT.out
    rw [Hid];omega
   have HOr:Hid (Out wr vO l):=HO.out.quiet HI.out.md
   have HMr:=hid HI.out.md;clear HR HC HLn;obtain ⟨ov,cv,hvO,_⟩:=HOr.out.view;subst hvO;go_wp2_with fail
   refine (aTwo_any wr _ l HOr.out (by omega) c).mono ?_
   rintro e w5 ⟨v5,rfl,s5,m5,l5⟩
   have hda:∀ i,u5.ownBlock=some i->(Value.slice ov l.length cv).ownBlock≠some i:=fun i h1 h2=>by
    have h3:=HI.out.own i h1
    have h4:=Sl.lt HO.out i h2
    omega
   have HI5:Hid (Out w5 u5 a):=HI.out.out.mods m5 (fun i h1 h2=>hda i h1 h2)
   have HO5:=hid s5
   have HL2:Hid ((l++b8 (twoL c)).length=l.length+2):=by rw [Hid,List.length_append,b8_len];rfl
   obtain ⟨o6,c6,h6,hb6⟩:=HO5.out.view
   obtain ⟨g6,cs6,rfl,_,_,hc6,hm6⟩:=hb6 (by rw [HL2.out];omega)
   have HM5:Hid (Mods (fun i=>(Value.slice ov l.length cv).ownBlock=some i) w w5):=(HMr.out.mono (fun _ _ h=>h.elim)).trans m5
   have HOW:Hid (∀ i,v5.ownBlock=some i->(Value.slice ov l.length cv).ownBlock=some i\/w.heap.size<=i):=fun i hi=>by
    rcases l5 i hi with h | h
    ·exact .inl h
    ·have:=HMr.out.size;exact .inr (by omega)
   have HPO:Hid (∀ e w',OutPost w (.slice ov l.length cv) (l++b8 (twoL c)++a) e w'->OutPost w (.slice ov l.length cv) (l++b8 (twoL (pcntR fs))++prefF 0 fs) e w'):=fun e w' h=>by
    rw [<- HRx.out,<- HCx.out];exact h
   clear s5 m5 l5 hda HOr;rw [HL2.out] at h6 hc6
   rcases HI5.out.2 with ⟨h5,hx5⟩ | ⟨g5,cap5,cur5,h5,_,hg5,hx5⟩
   ·subst h5 h6
    have ha:a=[]:=by
     cases a with
     | nil=>rfl
     | cons y ys=>simp [u8c] at hx5
    subst ha;go_wp2_with fail;go_ret
    exact HPO.out _ _ ⟨_,rfl,by rw [List.append_nil];exact HO5.out,HM5.out,HOW.out⟩
   ·subst h5 h6
    have hb5:Blk w5 g5 cur5 5:=hg5
    obtain ⟨hx1,hx2,hx3,hx4⟩:=hx5
    have HNW:Hid (∀ j u,(u8c a)[j]?=some u->w5.cell? ((⟨g5,0,none⟩:Addr).add j)=some u):=fun j u hu=>by
     have hadd:(⟨g5,0,none⟩:Addr).add j=⟨g5,j,none⟩:=by unfold Addr.add;split<;>simp_all
     have hj:j<(u8c a).length:=(List.getElem?_eq_some_iff.1 hu).1
     have hj2:j<a.length*1:=by rw [<- hx4,List.length_take] at hj;omega
     rw [hadd,take_cell hb5 hx4 j hj2];exact hu
    have HN1:Hid (∀ u∈u8c a,u.oneCell'=true):=fun u hu=>by
     unfold u8c at hu;obtain ⟨y,_,rfl⟩:=List.mem_map.1 hu
     rfl
    have HNL:Hid ((u8c a).length=a.length*1):=by rw [Hid];unfold u8c;simp
    have HO6:Hid (Sl w5 5 1 (.slice (some ⟨g6,0,none⟩) (l.length+2) c6) (l.length+2) (u8c (l++b8 (twoL c)))):=by
     have:=HO5.out
     rw [Out,HL2.out] at this;exact this
    clear hb5 hg5 hx4
    go_wp2_with (at_builtin;refine wpList_append_sl w5 rfl (.tmp 53) (.tmp 54) 43 rfl 5 iU (.int .u8 0) 1 1 Tryz.underlying43 hiU hzU hsU hbU rfl (by decide) (.slice (some ⟨g6,0,none⟩) (l.length+2) c6) (l.length+2) (u8c (l++b8 (twoL c))) rfl HO6.out ⟨g5,0,none⟩ a.length cap5 (u8c a) rfl HNL.out HNW.out HN1.out (by have:=HAL.out;unfold maxLen;omega) (by have:=HAL.out;omega) ?_;intro v7 w7 s7 m7 l7)
    go_ret
    refine HPO.out _ _ ⟨_,rfl,?_,mods_trans HM5.out HOW.out m7,own_trans HOW.out l7 HM5.out.size⟩
    rw [Out,u8c_app,List.length_append,HL2.out];exact s7
theorem out_string {w:World} {v:Value} {l:List UInt8} (h:Out w v l) (h0:0<l.length):Sem.run Tryz.prog (convert 43 9 v) w=.ok (.string (T l)) w:=by
 obtain ⟨o,c,rfl,h2⟩:=Sl.view h;obtain ⟨g,cs,rfl,hb,ht,_⟩:=h2 h0
 have key:=run_convert_bytes_back (P:=Tryz.prog) w 43 9 5 ⟨g,0,none⟩ c l Tryz.underlying43 Tryz.underlying5 Tryz.underlying9 ?_
 ·exact key
 ·intro j hj
  have hadd:(⟨g,0,none⟩:Addr).add j=⟨g,j,none⟩:=by unfold Addr.add;split<;>simp_all
  rw [hadd,take_cell hb ht j (by omega)]
  simp [u8c,hj]
set_option maxHeartbeats 400000 in
theorem img_any (w:World) (tv:Value) (bs:List Nat) (vM vF:Value) (ms:List PMap) (fs:List PFn) (vs:List Value) (hP:PPr w tv bs vM vF ms fs vs) (hE:EOk ms fs) :
  Calls Tryz.prog 29 #[.agg #[vM,vF]] w fun e w'=>e=.returned (.string (T (encU 2 ms fs)))/\Mods Nil' w w':=by
 obtain ⟨oM,cM,hvM,_⟩:=hP.maps.view;obtain ⟨oF,cF,hvF,_⟩:=hP.rows.view;subst hvM hvF;have HP:=hid hP;have HE:=hid hE
 have HL:Hid (0<(encU 2 ms fs).length):=by rw [Hid];simp [encU]
 clear hP hE
 go_enter Tryz.func29,Tryz.ntmps29
 go_wp2_with fail
 refine (enc_any 2 (by decide) _ tv bs _ _ ms fs vs (HP.out.quiet ((Mods.refl _ _).alloc _)) HE.out).mono ?_
 rintro e w2 ⟨v,rfl,hI⟩
 have hcv:=out_string hI.out HL.out
 have HI:Hid (Mods Nil' w w2):=((Mods.refl _ _).alloc _).trans hI.md
 clear hI;go_wp2_with fail;go_ret
 exact ⟨rfl,HI.out⟩
set_option maxHeartbeats 400000 in
theorem fnEq_any (w:World) (b:Nat) (nm:ByteArray) (hb:Blk w b #[.string nm] 9) (a:ByteArray) (vC:Value) (o:Option Addr) (n c:Nat) (hv:vC=.slice o n c) :
  Calls Tryz.prog 121 #[.agg #[.string a,vC],.pointer (some ⟨b,0,none⟩)] w fun e w'=>e=.returned (.bool (a.toList==nm.toList))/\Mods Nil' w w':=by
 subst hv
 have c0:w.cell? ⟨b,0,none⟩=some (.string nm):=hb.cell 0
 have hbl:=hb.lt
 clear hb
 go_enter Tryz.func121,Tryz.ntmps121
 go_wp2_with fail;go_ret
 exact ⟨rfl,(Mods.refl _ _).alloc _⟩
set_option maxHeartbeats 1000000 in
theorem idxF_any (w:World) (b:Nat) (nm:ByteArray) (hb:Blk w b #[.string nm] 9) (rows:List (List UInt8 × Value)) (hv:∀ x∈rows,∃ o n c,x.2=.slice o n c) (vF:Value) (hF:Sl w 55 2 vF rows.length (rows.flatMap fnC)) (hl:rows.length<=1000) :
  Calls Tryz.prog 120 #[vF,.func (.func 121) #[] #[.pointer (some ⟨b,0,none⟩)]] w fun e w'=>e=.returned (.int .i64 (placeM nm (rows.map (fun x=>T x.1))))/\Mods Nil' w w':=by
 obtain ⟨oF,cF,hvF,_⟩:=hF.view;subst hvF;have HF:=hid hF;have HB:=hid hb;have HV:=hid hv;clear hF hb hv
 have hE69:=enters_of (P:=Tryz.prog) Tryz.func121 (by kernel_rfl) rfl
 go_enter Tryz.func120,Tryz.ntmps120
 go_wp2_with fail
 go_loopg [8] rows.length (fun g iv wx=>∃ k:Nat,k<=rows.length/\iv=.int .i64 k/\Mods Nil' w wx/\(∀ j,(hj:j<rows.length)->j<k->T rows[j].1≠nm)/\g=rows.length - k)
 case atStart=>exact ⟨0,Nat.zero_le _,rfl,Mods.refl _ _,fun j _ h=>absurd h (Nat.not_lt_zero _),rfl⟩
 case round =>
  obtain ⟨k,hk,rfl,hmd,hn,rfl⟩:=hrel;have HN:=hid hn;have HMD:=hid hmd;clear hn hmd
  by_cases hlt:k<rows.length
  ·obtain ⟨o',cap',hvv,h2⟩:=(HF.out.mods HMD.out (fun _ _=>id)).view
   cases hvv
   obtain ⟨g,cs,rfl,hb',ht',_⟩:=h2 (by omega)
   have c0:wr.cell? ⟨g,k*2,none⟩=some (.string (T rows[k].1)):=by
    rw [take_cell hb' ht' (k*2) (by omega)]
    exact flat_get fnC 2 (fun _=>rfl) rows k 0 hlt (by omega)
   have c1:wr.cell? ⟨g,k*2+1,none⟩=some rows[k].2:=by
    rw [take_cell hb' ht' (k*2+1) (by omega)]
    exact flat_get fnC 2 (fun _=>rfl) rows k 1 hlt (by omega)
   obtain ⟨o1,n1,k1,hrv⟩:=HV.out rows[k] (List.getElem_mem hlt)
   rw [hrv] at c1
   have HEQ:Hid (Calls Tryz.prog 121 #[.agg #[.string (T rows[k].1),.slice o1 n1 k1],.pointer (some ⟨b,0,none⟩)] wr fun e w'=>e=.returned (.bool ((T rows[k].1).toList==nm.toList))/\Mods Nil' wr w'):=fnEq_any wr b nm (HB.out.mods HMD.out id) (T rows[k].1) _ o1 n1 k1 rfl
   have HPL:Hid (T rows[k].1=nm->placeM nm (rows.map (fun x=>T x.1))=k):=fun he=>placeM_at nm (rows.map (fun x=>T x.1)) k (by simpa using hlt) (fun j hj hjk=>by simpa using HN.out j (by simpa using hj) hjk) (by simpa using he)
   have HN2:Hid (T rows[k].1≠nm->∀ j,(hj:j<rows.length)->j<k+1->T rows[j].1≠nm):=fun he j hj hjk=>by
    by_cases e:j=k
    ·subst e;exact he
    ·exact HN.out j hj (by omega)
   clear hb' ht' h2 hrv
   have HEB:Hid (((T rows[k].1).toList==nm.toList)=decide (T rows[k].1=nm)):=by
    rw [Hid]
    by_cases he:T rows[k].1=nm
    ·rw [str_eq he];simp [he]
    ·rw [str_ne he];simp [he]
   generalize T rows[k].1=tk at *;go_wp2_with fail;refine HEQ.out.mono ?_;rintro e w2 ⟨rfl,m2⟩;rw [HEB.out]
   have HM2:Hid (Mods Nil' w w2):=HMD.out.trans m2
   clear HEB HEQ m2
   by_cases he:tk=nm
   ·have hd:decide (tk=nm)=true:=by simpa using he
    have HP:Hid (placeM nm (rows.map (fun x=>T x.1))=k):=HPL.out he
    rw [hd];clear hd he;go_wp2_with fail;go_ret
    exact ⟨ret_i64 HP.out.symm,HM2.out⟩
   ·have hd:decide (tk=nm)=false:=by simpa using he
    have HN3:Hid (∀ j,(hj:j<rows.length)->j<k+1->T rows[j].1≠nm):=HN2.out he
    rw [hd];clear hd he;go_wp2_with fail
    go_roundg (rows.length - (k+1))
    case measure=>omega
    case rel=>exact ⟨k+1,by omega,by go_num,HM2.out,HN3.out,rfl⟩
  ·have HP:Hid (placeM nm (rows.map (fun x=>T x.1))=-1):=by
    refine placeM_none nm _ (fun j hj=>?_)
    have hj':j<rows.length:=by simpa using hj
    simpa using HN.out j hj' (by omega)
   go_wp2_with fail;go_ret
   exact ⟨ret_i64 HP.out.symm,HMD.out⟩
set_option maxHeartbeats 400000 in
theorem fnum_any (w:World) (nm:ByteArray) (rows:List (List UInt8 × Value)) (hv:∀ x∈rows,∃ o n c,x.2=.slice o n c) (vM vF:Value) (o1:Option Addr) (n1 c1:Nat) (hM:vM=.slice o1 n1 c1) (hF:Sl w 55 2 vF rows.length (rows.flatMap fnC)) (hl:rows.length<=1000) :
  Calls Tryz.prog 55 #[.agg #[vM,vF],.string nm] w fun e w'=>e=.returned (.int .i64 (placeM nm (rows.map (fun x=>T x.1))))/\Mods Nil' w w':=by
 subst hM;obtain ⟨oF,cF,hvF,_⟩:=hF.view;subst hvF
 have HI:Hid (∀ w',Mods Nil' w w'->∀ b,Blk w' b #[.string nm] 9->Calls Tryz.prog 120 #[.slice oF rows.length cF,.func (.func 121) #[] #[.pointer (some ⟨b,0,none⟩)]] w' fun e w2=>e=.returned (.int .i64 (placeM nm (rows.map (fun x=>T x.1))))/\Mods Nil' w' w2) :=
  fun w' m b hb=>idxF_any w' b nm hb rows hv _ (hF.mods m (fun _ _=>id)) hl
 clear hv hF
 go_enter Tryz.func55,Tryz.ntmps55
 go_wp2_with fail
 refine (HI.out _ (((Mods.refl _ _).alloc _).alloc _) (w.heap.size+1) ?_).mono ?_
 ·have:=Blk.new (w.alloc (.cells #[.slice o1 n1 c1,.slice oF rows.length cF] 37)) #[.string nm] 9
  rw [show (w.alloc (.cells #[.slice o1 n1 c1,.slice oF rows.length cF] 37)).heap.size=w.heap.size+1 by simp] at this
  exact this
 ·rintro e w2 ⟨rfl,m2⟩;go_wp2_with fail;go_ret
  exact ⟨rfl,(((Mods.refl _ _).alloc _).alloc _).trans m2⟩
set_option maxRecDepth 100000 in
set_option maxHeartbeats 1000000 in
theorem encObjL_any (w:World) (tv:Value) (bs:List Nat) (vM vF:Value) (ms:List PMap) (fs:List PFn) (vs:List Value) (hP:PPrL w tv bs vM vF ms fs vs) (hE:EOk ms fs) (hn:∀ f∈fs,∀ x∈f.code,x.name.length<=255) (ht:plenR fs<=1000) (hl:(encU 1 ms fs).length<=300000) :
  Calls Tryz.prog 23 #[.agg #[vM,vF]] w fun e w'=>e=.returned (.string (T (encU 1 ms fs++b8 (twoL (pcntR fs))++prefF 0 fs)))/\Mods Nil' w w':=by
 obtain ⟨oM,cM,hvM,_⟩:=hP.maps.view;obtain ⟨oF,cF,hvF,_⟩:=hP.rows.view;subst hvM hvF;have HP:=hid hP
 have HEN:Hid (∀ w',PPrL w' tv bs (.slice oM ms.length cM) (.slice oF fs.length cF) ms fs vs->Calls Tryz.prog 45 #[.int .u8 1,.agg #[.slice oM ms.length cM,.slice oF fs.length cF]] w' fun e w2=>∃ v,e=.returned v/\EI w' v (encU 1 ms fs) w2):=fun w' h=>encL_any 1 (by decide) w' tv bs _ _ ms fs vs h hE
 have HRE:Hid (∀ w' v,PPrL w' tv bs (.slice oM ms.length cM) (.slice oF fs.length cF) ms fs vs->Out w' v (encU 1 ms fs)->Calls Tryz.prog 44 #[v,.slice oF fs.length cF] w' fun e w2=>OutPost w' v (encU 1 ms fs++b8 (twoL (pcntR fs))++prefF 0 fs) e w2):=fun w' v h h2=>orefs_any w' tv v _ bs _ _ ms fs vs h hE hn ht h2 hl
 have HL:Hid (0<(encU 1 ms fs++b8 (twoL (pcntR fs))++prefF 0 fs).length):=by rw [Hid];simp [encU]
 clear hP hE hn ht hl
 have HP1:Hid (PPrL (w.alloc (.cells #[.slice oM ms.length cM,.slice oF fs.length cF] 37)) tv bs (.slice oM ms.length cM) (.slice oF fs.length cF) ms fs vs):=HP.out.quiet ((Mods.refl _ _).alloc _)
 have HB1:Hid (Blk (w.alloc (.cells #[.slice oM ms.length cM,.slice oF fs.length cF] 37)) w.heap.size #[.slice oM ms.length cM,.slice oF fs.length cF] 37):=Blk.new w _ _
 have HM1:Hid (Mods Nil' w (w.alloc (.cells #[.slice oM ms.length cM,.slice oF fs.length cF] 37))):=(Mods.refl _ _).alloc _
 generalize encU 1 ms fs++b8 (twoL (pcntR fs))++prefF 0 fs=res at *;generalize encU 1 ms fs=enc at *
 go_enter Tryz.func23,Tryz.ntmps23
 go_upto_region 1 with fail;generalize w.alloc (.cells #[.slice oM ms.length cM,.slice oF fs.length cF] 37)=w1 at *;generalize w.heap.size=B at *
 have d0:∀ e:Ext Nil' w1,e.w.cell? ⟨B,0,none⟩=some (.slice oM ms.length cM):=fun e=>(HB1.out.mods e.m id).cell 0
 have d1:∀ e:Ext Nil' w1,e.w.cell? ⟨B,1,none⟩=some (.slice oF fs.length cF):=fun e=>(HB1.out.mods e.m id).cell 1
 haveI:Nonempty (Ext Nil' w1):=Ext.ne _ _
 refine wp_region_mix [1,4,5] (fun w'=>∃ e:Ext Nil' w1,w'=e.w) (by kernel_rfl) (by kernel_rfl) (by kernel_rfl) ⟨⟨_,(Mods.refl _ _).drew⟩,rfl⟩ ?_
 iterate 1 (refine mix_pure rfl rfl rfl ?_;intro K hK;go_big_quiet_op;go_big_quiet_on)
 refine mix_act rfl rfl ?_
 intro K hK
 go_big_op
 refine (HEN.out _ (HP1.out.quiet ((Mods.refl _ _).drew))).mono ?_
 rintro e w2 ⟨v2,rfl,hI2⟩
 have HI2:Hid (EI w1 v2 enc w2):=⟨hI2.out,((Mods.refl _ _).drew).trans hI2.md,fun k hk=>by have:=hI2.own k hk;simpa using this⟩
 refine hK _ _ rfl ⟨⟨_,HI2.out.md⟩,rfl⟩ ?_
 clear hK K hI2
 iterate 2 (refine mix_pure rfl rfl rfl ?_;intro K hK;go_big_quiet_op;go_big_quiet_on)
 refine mix_act rfl rfl ?_
 intro K hK
 go_big_op
 refine (HRE.out w2 v2 (HP1.out.quiet HI2.out.md) HI2.out.out).mono ?_
 rintro e w3 ⟨v3,rfl,s3,m3,l3⟩
 have HI3:Hid (EI w1 v3 res w3):=HI2.out.step s3 m3 l3
 refine hK _ _ rfl ⟨⟨_,HI3.out.md⟩,rfl⟩ ?_
 clear hK K s3 m3 l3
 refine mix_act rfl rfl ?_
 intro K hK
 have hcv:=out_string HI3.out.out HL.out
 go_big_op
 refine hK _ _ rfl ⟨⟨_,HI3.out.md⟩,rfl⟩ ?_
 clear hK K hcv
 iterate 1 (refine mix_pure rfl rfl rfl ?_;intro K hK;go_big_quiet_op;go_big_quiet_on)
 refine mix_nil ?_
 simp only [Exit.then]
 go_wp2_with fail;go_ret
 exact ⟨rfl,HM1.out.trans HI3.out.md⟩
end Go.Proofs.YtnhcaifopaeohaaGreatDoor
