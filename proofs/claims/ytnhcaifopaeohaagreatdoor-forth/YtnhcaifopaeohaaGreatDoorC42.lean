import Derived.Test.YtnhcaifopaeohaaGreatDoorC37
import Derived.Test.YtnhcaifopaeohaaGreatDoorC41
namespace Go.Proofs.YtnhcaifopaeohaaGreatDoor
open Go.RowKit
set_option linter.all false
theorem row_slotsR:∀ k:Fin 88,1<=(rowK k).slots:=by decide +kernel
theorem withS_ltR:∀ (l:List PI) (s:Nat),(∀ x∈l,x.k<88)->∀ p∈withS s l,p.2<s+slotsP l
 | x::l,s,hk,p,h=>by
  have h1:1<=x.o.slots:=row_slotsR ⟨x.k,hk x (by simp)⟩
  rw [withS] at h;rw [slots_cons]
  rcases List.mem_cons.1 h with rfl | h
  ·simp only;omega
  ·have:=withS_ltR l _ (fun y hy=>hk y (by simp [hy])) p h;omega
theorem len_le:∀ (l:List PI),(∀ x∈l,x.k<88)->l.length<=slotsP l
 | [],_=>Nat.zero_le _
 | x::l,hk=>by
  have h1:1<=x.o.slots:=row_slotsR ⟨x.k,hk x (by simp)⟩
  have:=len_le l (fun y hy=>hk y (by simp [hy]))
  rw [slots_cons,List.length_cons];omega
theorem in_withS:∀ (l:List PI) (s:Nat) (x:PI),x∈l->∃ p∈withS s l,p.1=x
 | y::l,s,x,h=>by
  rw [withS]
  rcases List.mem_cons.1 h with rfl | h
  ·exact ⟨(x,s),by simp,rfl⟩
  ·obtain ⟨p,hp,e⟩:=in_withS l (s+y.o.slots) x h
   exact ⟨p,by simp [hp],e⟩
theorem jok_of {n:Nat}:∀ (l:List PI) (s:Nat),(∀ p∈withS s l,p.1.o.jumps=true->0<=p.1.target p.2/\(p.1.target p.2).toNat<n)->JOk n s l
 | [],_,_=>trivial
 | x::l,s,h=>⟨h (x,s) (by rw [withS];simp),jok_of l _ (fun p hp=>h p (by rw [withS];simp [hp]))⟩
theorem PFn.Told.fok {f:PFn} (h:f.Told):PFnOk f:=by
 have hk:∀ x∈f.code,x.k<88:=fun x hx=>by
  obtain ⟨p,hp,rfl⟩:=in_withS f.code 0 x hx
  exact (h.ins p hp).k
 refine ⟨nameB_le _ h.nm,Nat.le_trans (len_le f.code hk) h.small,fun x hx=>?_,jok_of _ _ (fun p hp hj=>?_)⟩
 ·obtain ⟨p,hp,rfl⟩:=in_withS f.code 0 x hx
  exact (h.ins p hp).needs
 ·obtain ⟨t,e,hm,_⟩:=h.lead p hp hj;obtain ⟨q,hq,rfl⟩:=List.mem_map.1 hm
  have:=withS_ltR f.code 0 hk q hq
  rw [e]
  exact ⟨by omega,by simpa using this⟩
theorem dec_ok (s:ByteArray) (h:(decodeP (BL s)).2.2.bad=false):(decodeP (BL s)).1.length<=8/\(decodeP (BL s)).2.1.length<=16/\∀ f∈(decodeP (BL s)).2.1,PFnOk f:=by
 have hR:=decode_right h
 exact ⟨hR.m8,hR.f16,fun f hf=>(hR.ft f hf).fok⟩
theorem one_fw {v:Nat} (h:v<256) (l:List UInt8):oneP ⟨b8 [(v:Int)]++l,false⟩=(v,⟨l,false⟩):=by
 have hv:(UInt8.ofNat (v:Int).toNat).toNat=v:=by simp;omega
 show ((UInt8.ofNat (v:Int).toNat).toNat,(⟨l,false⟩:PR))=_
 rw [hv]
theorem two_fw {v:Nat} (h:v<65536) (l:List UInt8):twoP ⟨b8 (twoL (v:Nat))++l,false⟩=(v,⟨l,false⟩):=by
 have hA:((v:Nat):Int) % 256=((v % 256:Nat):Int):=by omega
 have hB:((v:Nat):Int) / 256 % 256=((v / 256:Nat):Int):=by omega
 have e:b8 (twoL (v:Nat))++l=b8 [((v % 256:Nat):Int)]++(b8 [((v / 256:Nat):Int)]++l):=by
  unfold twoL
  rw [hA,hB];rfl
 unfold twoP
 rw [e,one_fw (by omega)]
 simp only
 rw [one_fw (by omega)]
 simp only
 congr 1
 omega
theorem take_fw (a l:List UInt8):takeP a.length ⟨a++l,false⟩=(a,⟨l,false⟩):=by
 unfold takeP
 rw [if_neg (by simp)]
 simp
theorem want_fw {c:Bool} (h:c=true) (l:List UInt8):wantP c ⟨l,false⟩=⟨l,false⟩:=by subst h;rfl
theorem name_fw {n:List UInt8} (h:nameB n=true) (l:List UInt8):nameP ⟨namedU (T n)++l,false⟩=(n,⟨l,false⟩):=by
 have hl:n.length<=16:=by
  unfold nameB at h
  simp only [Bool.and_eq_true,decide_eq_true_eq] at h
  exact h.1.1
 have e:namedU (T n)++l=b8 [(n.length:Int)]++(n++l):=by
  unfold namedU;rw [BL_TB]
  have:((T n).size:Int) % 256=n.length:=by
   have:(T n).size=n.length:=rfl
   rw [this];omega
  rw [this,List.append_assoc]
 unfold nameP
 rw [e,one_fw (by omega)]
 simp only
 rw [take_fw]
 simp only
 rw [want_fw h]
theorem size_fw {most v:Nat} (h:1<=v/\v<=most) (hm:most<256) (l:List UInt8):sizeP most ⟨b8 [(v:Int)]++l,false⟩=(v,⟨l,false⟩):=by
 unfold sizeP
 rw [one_fw (by omega)]
 simp only
 rw [want_fw (by simp [h.1,h.2])]
theorem map_fw {m:PMap} (h:m.Told) (l:List UInt8):mapP ⟨pmapU m++l,false⟩=(m,⟨l,false⟩):=by
 have e:pmapU m++l=namedU (T m.name)++(b8 [(m.key:Int)]++(b8 [(m.value:Int)]++(b8 [(m.entries:Int)]++l))):=by
  unfold pmapU
  simp only [b8_cons,b8_nil,List.append_assoc,List.cons_append,List.nil_append]
 unfold mapP
 simp only
 rw [e,name_fw h.nm]
 simp only
 rw [size_fw h.k (by decide)]
 simp only
 rw [size_fw h.v (by decide)]
 simp only
 rw [size_fw h.e (by decide)]
theorem maps_fw:∀ (ms:List PMap) (last:List UInt8) (acc:List PMap) (l:List UInt8),(∀ m∈ms,m.Told)->riseL last (ms.map (·.name))->mapsP ms.length ⟨ms.flatMap pmapU++l,false⟩ last acc=(acc++ms,⟨l,false⟩)
 | [],_,acc,l,_,_=>by simp [mapsP]
 | m::ms,last,acc,l,h,hr=>by
  rw [List.length_cons,mapsP,List.flatMap_cons,List.append_assoc,map_fw (h m (by simp))]
  simp only
  rw [want_fw hr.1,maps_fw ms m.name _ l (fun x hx=>h x (by simp [hx])) hr.2]
  simp
def hdOf (f:PFn):PHead:=⟨f.name,slotsP f.code⟩
theorem head_fw {f:PFn} (hn:nameB f.name=true) (hs:slotsP f.code<65536) (l:List UInt8):headP ⟨pheadU f++l,false⟩=(hdOf f,⟨l,false⟩):=by
 unfold headP pheadU;rw [List.append_assoc,name_fw hn]
 simp only
 rw [two_fw hs]
 rfl
theorem heads_fw:∀ (fs:List PFn) (last:List UInt8) (all:Nat) (acc:List PHead) (l:List UInt8),(∀ f∈fs,nameB f.name=true/\slotsP f.code<65536)->riseL last (fs.map (·.name))->headsP fs.length ⟨fs.flatMap pheadU++l,false⟩ last all acc=(acc++fs.map hdOf,all+(fs.map (fun f=>slotsP f.code)).sum,⟨l,false⟩)
 | [],_,all,acc,l,_,_=>by simp [headsP]
 | f::fs,last,all,acc,l,h,hr=>by
  obtain ⟨h1,h2⟩:=h f (by simp)
  rw [List.length_cons,headsP,List.flatMap_cons,List.append_assoc,head_fw h1 h2]
  simp only
  have hr1:ltL last (hdOf f).name=true:=hr.1
  have hnm:(hdOf f).name=f.name:=rfl
  rw [want_fw hr1,hnm,heads_fw fs f.name _ _ l (fun x hx=>h x (by simp [hx])) hr.2]
  simp only [List.map_cons,List.sum_cons,List.append_assoc,List.singleton_append]
  rw [show all+(hdOf f).slots+(fs.map (fun f=>slotsP f.code)).sum=all+(slotsP f.code+(fs.map (fun f=>slotsP f.code)).sum) by show all+slotsP f.code+_=_;omega]
theorem tab_codes:∀ k:Fin 88,byCodeM (rowK k).code=some k.1/\(rowK k).code<256:=by decide +kernel
theorem raw_regs {x:PI} (h:x.Raw):x.d<=15/\x.s<=15:=by
 have hn:=h.needs
 rcases tab_kinds ⟨x.k,h.k⟩ with g | ⟨hc,g⟩
 ·rw [<- PI.o_row] at g;rw [need_call _ _ g] at hn
  simp only [Bool.and_eq_true,Bool.or_eq_true,decide_eq_true_eq] at hn
  dsimp only [PI.ins] at hn
  omega
 ·rw [<- PI.o_row] at hc g
  rcases g with g | g | g | g | g | g | g | g | g | g | g
  ·rw [need_regsA _ _ hc g] at hn;simp only [Bool.and_eq_true,decide_eq_true_eq] at hn;dsimp only [PI.ins] at hn;omega
  ·rw [need_numsA _ _ hc g] at hn;simp only [Bool.and_eq_true,decide_eq_true_eq] at hn;dsimp only [PI.ins] at hn;omega
  ·rw [need_neg _ _ hc g] at hn;simp only [Bool.and_eq_true,decide_eq_true_eq] at hn;dsimp only [PI.ins] at hn;omega
  ·rw [need_ja _ _ hc g] at hn;simp only [Bool.and_eq_true,decide_eq_true_eq] at hn;dsimp only [PI.ins] at hn;omega
  ·rw [need_regsJ _ _ hc g] at hn;simp only [Bool.and_eq_true,decide_eq_true_eq] at hn;dsimp only [PI.ins] at hn;omega
  ·rw [need_numsJ _ _ hc g] at hn;simp only [Bool.and_eq_true,decide_eq_true_eq] at hn;dsimp only [PI.ins] at hn;omega
  ·rw [need_loads _ _ hc g] at hn;simp only [Bool.and_eq_true,decide_eq_true_eq] at hn;dsimp only [PI.ins] at hn;omega
  ·rw [need_stores _ _ hc g] at hn;simp only [Bool.and_eq_true,decide_eq_true_eq] at hn;dsimp only [PI.ins] at hn;omega
  ·rw [need_numbers _ _ hc g] at hn;simp only [Bool.and_eq_true,decide_eq_true_eq] at hn;dsimp only [PI.ins] at hn;omega
  ·rw [need_wide _ _ hc g] at hn;simp only [Bool.and_eq_true,Bool.or_eq_true,decide_eq_true_eq] at hn;dsimp only [PI.ins] at hn;omega
  ·rw [need_exit _ _ hc g] at hn;simp only [Bool.and_eq_true,decide_eq_true_eq] at hn;dsimp only [PI.ins] at hn;omega
theorem byte_of {v:Int} (h0:0<=v) (h1:v<256):((UInt8.ofNat v.toNat).toNat:Int)=v:=by
 have:(UInt8.ofNat v.toNat).toNat=v.toNat:=by simp;omega
 rw [this];omega
theorem num_fw {n:Int} (h:-2147483648<=n/\n<=2147483647) (r:List UInt8):num32 (b8 (fourL n)++r)=n:=by
 have e:b8 (fourL n)++r=UInt8.ofNat (n % 256).toNat::UInt8.ofNat (n / 256 % 256).toNat::UInt8.ofNat (n / 65536 % 256).toNat::UInt8.ofNat (n / 16777216 % 256).toNat::r:=rfl
 rw [e]
 have q:∀ a b c d:UInt8,num32 (a::b::c::d::r)=sgn32 (a.toNat+256*b.toNat+65536*c.toNat+16777216*d.toNat):=fun _ _ _ _=>rfl
 rw [q]
 have h1:=byte_of (v:=n % 256) (by omega) (by omega)
 have h2:=byte_of (v:=n / 256 % 256) (by omega) (by omega)
 have h3:=byte_of (v:=n / 65536 % 256) (by omega) (by omega)
 have h4:=byte_of (v:=n / 16777216 % 256) (by omega) (by omega)
 unfold sgn32
 split<;>omega
theorem slot_form (x:PI) (t:List UInt8):∃ a0 a1 a2 a3 u,pslotU x++t=a0::a1::a2::a3::(b8 (fourL x.num)++u)/\a0=UInt8.ofNat ((x.o.code:Nat):Int).toNat/\a1=UInt8.ofNat ((x.d:Int)+16*x.s).toNat/\a2=UInt8.ofNat (x.jump % 256).toNat/\a3=UInt8.ofNat (x.jump / 256 % 256).toNat/\u=(if x.o.slots=1 then [] else [0,0,0,0]++b8 (fourL x.high))++t:=by
 refine ⟨_,_,_,_,_,?_,rfl,rfl,rfl,rfl,rfl⟩
 unfold pslotU slotU
 simp only [b8_cons,b8_nil,List.append_assoc,List.cons_append,List.nil_append]
theorem from_fw {x:PI} (h:x.Raw) (t:List UInt8):fromP (pslotU x++t)=some x.bare:=by
 obtain ⟨a0,a1,a2,a3,u,e,e0,e1,e2,e3,eu⟩:=slot_form x t;obtain ⟨hd,hs⟩:=raw_regs h
 obtain ⟨k1,k2⟩:=tab_codes ⟨x.k,h.k⟩
 have hcode:(rowK x.k).code=x.o.code:=rfl
 have b0:a0.toNat=x.o.code:=by
  have:=byte_of (v:=((x.o.code:Nat):Int)) (by omega) (by rw [<- hcode];simp only at k2;omega)
  rw [e0];omega
 have b1:a1.toNat=x.d+16*x.s:=by
  have:=byte_of (v:=(x.d:Int)+16*x.s) (by omega) (by omega)
  rw [e1];omega
 have b2:(a2.toNat:Int)=x.jump % 256:=by rw [e2];exact byte_of (by omega) (by omega)
 have b3:(a3.toNat:Int)=x.jump / 256 % 256:=by rw [e3];exact byte_of (by omega) (by omega)
 have hj:=h.j
 have hjump:sgn16 (a2.toNat+256*a3.toNat)=x.jump:=by
  unfold sgn16
  split<;>omega
 have h4:(b8 (fourL x.num)).length=4:=rfl
 unfold fromP;rw [e]
 rw [if_neg (by simp only [List.length_cons,List.length_append,h4];omega)]
 have q0:at' (a0::a1::a2::a3::(b8 (fourL x.num)++u)) 0=x.o.code:=b0
 have q1:at' (a0::a1::a2::a3::(b8 (fourL x.num)++u)) 1=x.d+16*x.s:=b1
 have q2:at' (a0::a1::a2::a3::(b8 (fourL x.num)++u)) 2=a2.toNat:=rfl
 have q3:at' (a0::a1::a2::a3::(b8 (fourL x.num)++u)) 3=a3.toNat:=rfl
 have q4:(a0::a1::a2::a3::(b8 (fourL x.num)++u)).drop 4=b8 (fourL x.num)++u:=rfl
 have q8:(a0::a1::a2::a3::(b8 (fourL x.num)++u)).drop 8=u:=rfl
 have q12:(a0::a1::a2::a3::(b8 (fourL x.num)++u)).drop 12=u.drop 4:=rfl
 rw [q0]
 have k1':byCodeM x.o.code=some x.k:=k1
 rw [k1']
 simp only
 have hrow:tableS[x.k]?.getD noOp=x.o:=rfl
 rw [hrow,q1,q2,q3,q4,q8,q12,hjump,num_fw h.n]
 have hd1:(x.d+16*x.s) % 16=x.d:=by omega
 have hs1:(x.d+16*x.s) / 16=x.s:=by omega
 rw [hd1,hs1]
 have hsl:x.o.slots=1\/x.o.slots=2:=by rw [PI.o_row];exact row_slots x.k h.k
 rcases hsl with hsl | hsl
 ·rw [if_neg (by simp only [List.length_cons,List.length_append,h4,hsl];omega),if_neg (by rw [hsl];simp)]
  have hh:(if 1<x.o.slots then num32 (u.drop 4) else 0)=x.high:=by rw [if_neg (by omega),h.one hsl]
  rw [hh]
  have hx:(⟨x.k,x.d,x.s,x.jump,x.num,x.high,[]⟩:PI)=x.bare:=rfl
  rw [hx,if_pos (by
   have:=h.needs
   rw [needs_same x.o (x.ins []) (x.bare.ins []) rfl rfl rfl rfl rfl] at this
   exact this)]
 ·have hu:u=[0,0,0,0]++(b8 (fourL x.high)++t):=by rw [eu,if_neg (by omega),List.append_assoc]
  have h4':(b8 (fourL x.high)).length=4:=rfl
  have hlen:¬ (a0::a1::a2::a3::(b8 (fourL x.num)++u)).length<x.o.slots*8:=by
   rw [hu]
   simp only [List.length_cons,List.length_append,h4,h4',hsl,List.length_nil]
   omega
  have htk:u.take 4=[0,0,0,0]:=by rw [hu];rfl
  have hdr:u.drop 4=b8 (fourL x.high)++t:=by rw [hu];rfl
  rw [if_neg hlen,if_neg (fun e=>e.2 htk)]
  have hh:(if 1<x.o.slots then num32 (u.drop 4) else 0)=x.high:=by rw [if_pos (by omega),hdr,num_fw h.h]
  rw [hh]
  have hx:(⟨x.k,x.d,x.s,x.jump,x.num,x.high,[]⟩:PI)=x.bare:=rfl
  rw [hx,if_pos (by
   have:=h.needs
   rw [needs_same x.o (x.ins []) (x.bare.ins []) rfl rfl rfl rfl rfl] at this
   exact this)]
theorem pslot_len (x:PI) (h:x.k<88):(pslotU x).length=x.o.slots*8:=by
 unfold pslotU slotU
 have hsl:x.o.slots=1\/x.o.slots=2:=by rw [PI.o_row];exact row_slots x.k h
 rcases hsl with e | e
 ·rw [if_pos e,e];rfl
 ·rw [if_neg (by omega),e];rfl
theorem code_len:∀ (l:List PI),(∀ x∈l,x.Raw)->(l.flatMap pslotU).length=slotsP l*8
 | [],_=>rfl
 | x::l,h=>by
  rw [List.flatMap_cons,List.length_append,pslot_len x (h x (by simp)).k,code_len l (fun y hy=>h y (by simp [hy])),slots_cons,Nat.add_mul]
def marks:List Bool->List Nat->List Bool
 | st,[]=>st
 | st,t::ts=>marks (st.set t true) ts
theorem marks_keep:∀ (ts:List Nat) (st:List Bool) (t:Nat),st[t]?.getD false=true->(marks st ts)[t]?.getD false=true
 | [],_,_,h=>h
 | u::ts,st,t,h=>by rw [marks];exact marks_keep ts _ t (set_keep h)
theorem marks_at:∀ (ts:List Nat) (st:List Bool) (t:Nat),t∈ts->t<st.length->(marks st ts)[t]?.getD false=true
 | [],_,_,h,_=>by cases h
 | u::ts,st,t,h,hl=>by
  rw [marks]
  rcases List.mem_cons.1 h with rfl | h
  ·refine marks_keep ts _ _ ?_
   rw [List.getElem?_set_self hl];rfl
  ·exact marks_at ts _ t h (by rw [List.length_set];exact hl)
theorem codeL_fw (sl:List UInt8) (n:Nat):∀ (m:List PI) (f a:Nat) (acc:List PI) (st:List Bool),(∀ x∈m,x.Raw)->m.length<f->a+slotsP m=n->sl.drop (a*8)=m.flatMap pslotU->codeL sl n f a acc st=some (acc++m.map PI.bare,marks st ((withS a m).map (·.2)))
 | [],f+1,a,acc,st,_,_,hn,_=>by
  have:a=n:=by have e:slotsP []=0:=rfl;omega
  rw [codeL,if_neg (by omega)]
  simp [withS,marks]
 | x::m,f+1,a,acc,st,hr,hf,hn,hd=>by
  have hx:=hr x (by simp)
  have h1:=Raw.slots hx
  rw [slots_cons] at hn;rw [List.flatMap_cons] at hd
  rw [codeL,if_pos (by omega),hd,from_fw hx]
  simp only [bare_o]
  have hdrop:sl.drop ((a+x.o.slots)*8)=m.flatMap pslotU:=by
   rw [Nat.add_mul,<- List.drop_drop,hd,<- pslot_len x hx.k,List.drop_left]
  rw [codeL_fw sl n m f (a+x.o.slots) (acc++[x.bare]) (st.set a true) (fun y hy=>hr y (by simp [hy])) (by simp only [List.length_cons] at hf;omega) (by omega) hdrop]
  have em:∀ ts,marks st (a::ts)=marks (st.set a true) ts:=fun _=>rfl
  rw [withS,List.map_cons,List.map_cons,em,List.append_assoc]
  rfl
 | _,0,_,_,_,_,hf,_,_=>by omega
theorem lead_fw (st:List Bool):∀ (l:List PI) (s:Nat),(∀ p∈withS s l,p.1.o.jumps=true->0<=p.1.target p.2/\st[(p.1.target p.2).toNat]?.getD false=true)->leadP st s l=true
 | [],_,_=>rfl
 | x::l,s,h=>by
  rw [leadP,Bool.and_eq_true]
  refine ⟨?_,lead_fw st l _ (fun p hp=>h p (by rw [withS];simp [hp]))⟩
  cases hj:x.o.jumps with
  | false=>rfl
  | true =>
   have:=h (x,s) (by rw [withS];simp) hj
   rw [if_pos rfl,Bool.and_eq_true,decide_eq_true_eq];exact this
theorem len_slots:∀ (l:List PI),(∀ x∈l,x.Raw)->l.length<=slotsP l
 | [],_=>Nat.le_refl _
 | x::l,h=>by
  have:=len_slots l (fun y hy=>h y (by simp [hy]))
  have h1:=Raw.slots (h x (by simp))
  rw [slots_cons,List.length_cons];omega
theorem codeP_fw {l:List PI} (h:CodeRaw l (slotsP l)) (r:List UInt8):codeP (l.flatMap pslotU) ⟨r,false⟩=(l.map PI.bare,⟨r,false⟩):=by
 have hlen:=code_len l h.raw
 unfold codeP
 have hd:(l.flatMap pslotU).length / 8=slotsP l:=by rw [hlen];omega
 rw [hd,codeL_fw (l.flatMap pslotU) (slotsP l) l (slotsP l+1) 0 [] _ h.raw (by have:=len_slots l h.raw;omega) (by omega) (by rw [Nat.zero_mul,List.drop_zero])]
 simp only [List.nil_append]
 rw [last_bare,h.last,want_fw rfl,want_fw]
 refine lead_fw _ _ _ (fun p hp hj=>?_)
 rw [bare_with] at hp;obtain ⟨q,hq,rfl⟩:=List.mem_map.1 hp;obtain ⟨t,ht,hm⟩:=h.lead q hq hj
 have e:(q.1.bare).target q.2=t:=ht
 simp only
 rw [e]
 refine ⟨by omega,?_⟩
 rw [Int.toNat_natCast]
 refine marks_at _ _ _ hm ?_
 rw [List.length_replicate];obtain ⟨u,hu,e2⟩:=List.mem_map.1 hm
 have hlt:=withS_lt l 0 (fun x hx=>Raw.slots (h.raw x hx)) u hu
 have hu1:u.1∈l:=by
  have:u.1∈(withS 0 l).map (·.1):=List.mem_map.2 ⟨u,hu,rfl⟩
  rwa [withS_code] at this
 have h1:=Raw.slots (h.raw u.1 hu1)
 have e2':u.2=t:=e2
 omega
def PFn.bare (f:PFn):PFn:=⟨f.name,f.code.map PI.bare⟩
theorem codes_fw:∀ (fs:List PFn) (r:List UInt8) (acc:List PFn),(∀ f∈fs,CodeRaw f.code (slotsP f.code))->codesP (fs.map hdOf) ⟨fs.flatMap pcodeU++r,false⟩ acc=(acc++fs.map PFn.bare,⟨r,false⟩)
 | [],r,acc,_=>by simp [codesP]
 | f::fs,r,acc,h=>by
  have hf:=h f (by simp)
  have hlen:(pcodeU f).length=(hdOf f).slots*8:=code_len f.code hf.raw
  rw [List.map_cons,codesP,List.flatMap_cons,List.append_assoc,<- hlen,take_fw]
  simp only
  have e:pcodeU f=f.code.flatMap pslotU:=rfl
  rw [e,codeP_fw hf]
  simp only
  rw [codes_fw fs r _ (fun g hg=>h g (by simp [hg]))]
  simp only [List.map_cons,List.append_assoc,List.singleton_append]
  rfl
theorem refsI_fw (ms:List PMap) (n:Nat) (hn:n<256):∀ (l:List PI) (slot:Nat) (left:Int) (r:List UInt8) (acc:List PI),(∀ x∈l,x.Ref ms)->slot+slotsP l<65536->refsI ms n slot (l.map PI.bare) left ⟨prefC n slot l++r,false⟩ acc=(acc++l,left - pcntC l,⟨r,false⟩)
 | [],slot,left,r,acc,_,_=>by simp [refsI,prefC,pcntC]
 | x::l,slot,left,r,acc,h,hs=>by
  have hx:=h x (by simp)
  rw [slots_cons] at hs
  have hrf:x.bare.refers=x.refers:=rfl
  rw [List.map_cons,refsI,hrf,bare_o]
  by_cases hr:x.refers≠0
  ·obtain ⟨hnm,hnu⟩:=hx.nm hr
   have hrd:refP n slot ⟨prefC n slot (x::l)++r,false⟩=(x.name,⟨prefC n (slot+x.o.slots) l++r,false⟩):=by
    rw [prefC];unfold prefU;rw [if_neg hr];unfold refP
    simp only [List.append_assoc]
    rw [one_fw hn]
    simp only
    rw [want_fw (by simp),two_fw (by omega)]
    simp only
    rw [want_fw (by simp),name_fw hnm]
   rw [if_pos hr,hrd]
   simp only
   have hb:({ x.bare with name:=x.name }:PI)=x:=rfl
   have hz:x.bare.num=0:=hnu
   have hm:(decide (x.refers≠2)||hasMapP ms x.name)=true:=by
    by_cases h2:x.refers=2
    ·obtain ⟨m,hm,e⟩:=List.mem_map.1 (hx.mp h2)
     have:hasMapP ms x.name=true:=by
      unfold hasMapP
      exact List.any_eq_true.2 ⟨m,hm,by simpa using e⟩
     rw [this];simp
    ·simp [h2]
   rw [want_fw (c:=decide (x.bare.num=0)) (by rw [hz];rfl),want_fw hm]
   have hb2:(⟨x.bare.k,x.bare.d,x.bare.s,x.bare.jump,x.bare.num,x.bare.high,x.name⟩:PI)=x:=rfl
   rw [hb2,refsI_fw ms n hn l _ _ r _ (fun y hy=>h y (by simp [hy])) (by omega),pcntC,if_neg hr]
   simp only [List.append_assoc,List.singleton_append,Int.natCast_add]
   congr 2
   omega
  ·have hr0:x.refers=0:=by simpa using hr
   have hb:x.bare=x:=by
    have:=hx.no hr0
    unfold PI.bare;rw [<- this]
   have hp:prefC n slot (x::l)=prefC n (slot+x.o.slots) l:=by
    rw [prefC];unfold prefU
    rw [if_pos hr0];rfl
   rw [if_neg hr,hb,hp,refsI_fw ms n hn l _ _ r _ (fun y hy=>h y (by simp [hy])) (by omega),pcntC,if_pos hr0]
   simp
theorem refsF_fw (ms:List PMap):∀ (fs done:List PFn) (left:Int) (r:List UInt8),(∀ f∈fs,(∀ x∈f.code,x.Ref ms)/\slotsP f.code<60000)->done.length+fs.length<=16->refsF ms done (fs.map PFn.bare) left ⟨prefF done.length fs++r,false⟩=(done++fs,left - pcntR fs,⟨r,false⟩)
 | [],done,left,r,_,_=>by simp [refsF,prefF,pcntR]
 | f::fs,done,left,r,h,hl=>by
  obtain ⟨h1,h2⟩:=h f (by simp)
  rw [List.length_cons] at hl
  have hc:(PFn.bare f).code=f.code.map PI.bare:=rfl
  have hnm:(PFn.bare f).name=f.name:=rfl
  rw [List.map_cons,refsF,prefF,List.append_assoc,hc,hnm,refsI_fw ms done.length (by omega) f.code 0 left _ [] h1 (by omega)]
  simp only [List.nil_append]
  have hd:(done++[f]).length=done.length+1:=by simp
  have:=refsF_fw ms fs (done++[f]) (left - pcntC f.code) r (fun g hg=>h g (by simp [hg])) (by rw [hd];omega)
  rw [hd] at this
  have e:(⟨f.name,f.code⟩:PFn)=f:=rfl
  rw [e,this,pcntR]
  simp only [List.append_assoc,List.singleton_append,Int.natCast_add]
  congr 2
  omega
structure GoodP (ms:List PMap) (fs:List PFn):Prop where
 mt:∀ m∈ms,m.Told
 mr:riseL [] (ms.map (·.name))
 m8:ms.length<=8
 fn:∀ f∈fs,nameB f.name=true
 fr:riseL [] (fs.map (·.name))
 f16:fs.length<=16
 s200:(fs.map (fun f=>slotsP f.code)).sum<=200
 raw:∀ f∈fs,CodeRaw f.code (slotsP f.code)
 ref:∀ f∈fs,∀ x∈f.code,x.Ref ms
theorem pcntC_le:∀ (l:List PI),pcntC l<=l.length
 | []=>Nat.le_refl _
 | x::l=>by
  have:=pcntC_le l
  rw [pcntC,List.length_cons]
  split<;>omega
theorem pcntR_le:∀ (fs:List PFn),(∀ f∈fs,CodeRaw f.code (slotsP f.code))->pcntR fs<=(fs.map (fun f=>slotsP f.code)).sum
 | [],_=>Nat.le_refl _
 | f::fs,h=>by
  have h1:=pcntR_le fs (fun g hg=>h g (by simp [hg]))
  have h2:=pcntC_le f.code
  have h3:=len_slots f.code (h f (by simp)).raw
  rw [pcntR,List.map_cons,List.sum_cons];omega
theorem decode_fw {ms:List PMap} {fs:List PFn} (h:GoodP ms fs):decodeP (objU ms fs)=(ms,fs,⟨[],false⟩):=by
 have hsl:∀ f∈fs,slotsP f.code<=200:=fun f hf=>by
  have:slotsP f.code∈fs.map (fun f=>slotsP f.code):=List.mem_map.2 ⟨f,hf,rfl⟩
  have:=sum_le _ this
  have:=h.s200
  omega
 have hcnt:=pcntR_le fs h.raw
 have h8:=h.m8
 have h16:=h.f16
 have h200:=h.s200
 have e:objU ms fs=[83,80,79,76]++(b8 [((1:Nat):Int)]++(b8 [(ms.length:Int)]++(ms.flatMap pmapU++(b8 [(fs.length:Int)]++(fs.flatMap pheadU++(fs.flatMap pcodeU++(b8 (twoL (pcntR fs:Nat))++(prefF 0 fs++[])))))))):=by
  unfold objU encU
  simp only [b8_cons,b8_nil,List.append_assoc,List.cons_append,List.nil_append,List.append_nil]
 have hfun:funcsP ⟨b8 [(fs.length:Int)]++(fs.flatMap pheadU++(fs.flatMap pcodeU++(b8 (twoL (pcntR fs:Nat))++(prefF 0 fs++[])))),false⟩=(fs.map PFn.bare,⟨b8 (twoL (pcntR fs:Nat))++(prefF 0 fs++[]),false⟩):=by
  unfold funcsP
  simp only
  rw [one_fw (by omega)]
  simp only
  rw [want_fw (by simp [h16]),heads_fw fs [] 0 [] _ (fun f hf=>⟨h.fn f hf,by have:=hsl f hf;omega⟩) h.fr]
  simp only
  rw [want_fw (by simp;omega)]
  simp only [Bool.false_eq_true,if_false,List.nil_append]
  rw [codes_fw fs _ [] h.raw,List.nil_append]
 have hrefs:refsP ms (fs.map PFn.bare) ⟨b8 (twoL (pcntR fs:Nat))++(prefF 0 fs++[]),false⟩=(fs,⟨[],false⟩):=by
  unfold refsP
  simp only
  rw [two_fw (by omega)]
  simp only
  have:=refsF_fw ms fs [] ((pcntR fs:Nat):Int) [] (fun f hf=>⟨h.ref f hf,by have:=hsl f hf;omega⟩) (by simpa using h16)
  rw [List.length_nil,List.nil_append] at this;rw [this]
  simp only
  rw [want_fw (by simp)]
 unfold decodeP
 simp only
 rw [e]
 have ht:=take_fw [83,80,79,76] (b8 [((1:Nat):Int)]++(b8 [(ms.length:Int)]++(ms.flatMap pmapU++(b8 [(fs.length:Int)]++(fs.flatMap pheadU++(fs.flatMap pcodeU++(b8 (twoL (pcntR fs:Nat))++(prefF 0 fs++[]))))))))
 have ht':takeP 4 ⟨[83,80,79,76]++(b8 [((1:Nat):Int)]++(b8 [(ms.length:Int)]++(ms.flatMap pmapU++(b8 [(fs.length:Int)]++(fs.flatMap pheadU++(fs.flatMap pcodeU++(b8 (twoL (pcntR fs:Nat))++(prefF 0 fs++[])))))))),false⟩=_:=ht
 rw [ht']
 simp only
 rw [want_fw (by decide),one_fw (by omega)]
 simp only
 rw [want_fw (by decide),one_fw (by omega)]
 simp only
 rw [want_fw (by simp [h8]),maps_fw ms [] [] _ h.mt h.mr]
 simp only [List.nil_append]
 rw [hfun]
 simp only
 rw [hrefs]
 simp only
 rw [want_fw (by decide)]
end Go.Proofs.YtnhcaifopaeohaaGreatDoor
