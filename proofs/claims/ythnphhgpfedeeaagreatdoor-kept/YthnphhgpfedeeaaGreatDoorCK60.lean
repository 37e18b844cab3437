import Derived.Test.YthnphhgpfedeeaaGreatDoorCK57
namespace Go.Proofs.YthnphhgpfedeeaaGreatDoor
open Go.RowKit Tryz
open List renaming not_mem_nil->ab,mem_cons->al,length_filter_le->ao,length_range->ar,length->ba,length->eJ
open Bool renaming false->fj,true->fR
open Ending renaming returned->fW
open Obj renaming cells->fL
open Option renaming some->eK,none->eL
open Value renaming slice->eS,string->eR,bool->fX,tuple->jl
open _root_.Go renaming maxLen->jz,Value->fa,Addr->kh,Calls->fS
set_option linter.all false
set_option maxRecDepth 100000
set_option maxHeartbeats 2000000
set_option linter.all false
def KU:tLB:=(([109,97,112,32,109,32,49,32,49,32,52,10,102,117,110,99,32,112,117,116,10,109,111,118,32,114,50,44,32,114,49,10,109,111,118,32,114,51,44,32,114,49,10,97,100,100,32,114,51,44,32,49,10,119,105,100,101,32].append [114,49,44,32,109,97,112,32,109,10,104,101,108,112,32,112,117,116,10,101,120,105,116,10,102,117,110,99,32,100,101,108,10,109,111,118,32,114,50,44,32,114,49,10,119,105,100,101,32,114,49,44,32,109,97,112,32,109]).append ([10,104,101,108,112,32,100,101,108,10,101,120,105,116,10,102,117,110,99,32,103,101,116,10,109,111,118,32,114,50,44,32,114,49,10,119,105,100,101,32,114,49,44,32,109,97,112,32,109,10,104,101,108,112,32,103,101,116].append [10,106,101,113,32,114,48,44,32,48,44,32,110,111,110,101,10,108,100,49,32,114,48,44,32,91,114,48,93,10,101,120,105,116,10,110,111,110,101,58,10,109,111,118,32,114,48,44,32,49,48,48,48,10,101,120,105,116]))
def Tg(w1:tW)(sb:Nat)(w':tW):Prop:=∃d:KD,d.sb=sb/\d.At [] [] w'/\(∀k,d.W k->w1.heap.size<=k)/\aa af w1 d.wT/\aa af w1 w'
theorem Tg.two{w w1 w2 w3 w4:tW}{sb1 Bc:Nat}(m:aa af w w1)(h1:Tg w1 sb1 w2)(m2:aa af w2 w3)(h2:Tg w3 Bc w4):lD w4.heap.size w sb1 Bc [] [] [] [] w4:=by
 obtain⟨d1,r1,a1,l1,t1,q1⟩:=h1;obtain⟨d2,r2,a2,l2,t2,q2⟩:=h2;have s1:=m.size;have s2:=q1.size;have s3:=m2.size;have sT:=a1.IE.md.size;refine⟨d1,d2,r1,r2,(a1.quiet m2).quiet q2,a2,⟨λk hk=>by have:=l1 k hk;omega,λk hk=>by have:=l2 k hk;omega,λk h1 h2=>?_,λk hk hs=>?_,λk hk hs=>?_⟩,((m.trans q1).trans m2).trans q2,by have:=q2.size;omega,a2.IE.md.size⟩
 ·have:=a1.IE.KT h1;have:=l2 k h2;omega
 ·have hQ:=(a1.IE.quiet m2).quiet t2;rcases hs with rfl|hs
  ·exact⟨_,by simp[Xg],hQ.blk.ty⟩
  ·obtain⟨t,ht,hy⟩:=hQ.zM hs;exact⟨t,List.mem_cons_of_mem _ ht,hy⟩
 ·have:=l2 k (hs.elim .inl (λe=>.inr (.inl e)));omega
def K4(is:Nat->Nat):tAV:=((List.range 256).map (λk=>Value.int .i64 (is k))).toArray
theorem sD(is:Nat->Nat)(k:Nat)(hk:k<256):(K4 is)[k]?=eK (vI (is k)):=by unfold K4;simp[hk]
theorem aa0(is:Nat->Nat)(a x:Nat)(ha:a<256):(K4 is).setIfInBounds a (vI x)=K4 (mJ is a x):=by
 apply Array.ext_getElem?;intro i;rw[Array.getElem?_setIfInBounds];by_cases h:a=i
 ·subst h;rw[iP9 rfl,sD _ _ ha,Bb,iP9 (by simp[K4,ha])]
 ·rw[iN9 h];by_cases hi:i<256
  ·rw[sD _ _ hi,sD _ _ hi,pO _ _ _ _ (λe=>h e.symm)]
  ·have h1:∀js,(K4 js)[i]?=eL:=λjs=>by unfold K4;simp;omega
   rw[h1,h1]
theorem XZ:zeroCells41=K4 (λ_=>0):=by kernel_rfl
theorem aa1(w:tW)(k v:Nat)(hk:k<256)(hv:v<256):(convert 30 9 (eS (eK ⟨w.heap.size,0,eL⟩) 2 2)).run prog (w.alloc (fL #[vB k,vB v] 5))=.ok (eR (strOf [k,v])) (w.alloc (fL #[vB k,vB v] 5)) :=
 rZ _ w.heap.size 2 2 [k,v] (λb hb=>by
  simp only[al,ab,or_false]at hb;rcases hb with rfl|rfl
  ·exact hk
  ·exact hv) ((Sl.fresh (au.new w _ _) rfl (by show(2:Nat)<=jz;decide)).bys rfl)
theorem aa2(k v:Nat)(hk:k<256)(hv:v<256):fw (gN (strOf [k,v]))=[k,v]/\(gN (strOf [k,v])).size=2/\(strOf [k,v]).size=2:=by
 have e:gN (strOf [k,v])=strOf [k,v]:=by kernel_rfl
 rw[e];refine⟨?_,rfl,rfl⟩;show [(UInt8.ofNat k).toNat,(UInt8.ofNat v).toNat]=[k,v]
 rw[UInt8.toNat_ofNat',UInt8.toNat_ofNat',Nat.mod_eq_of_lt hk,Nat.mod_eq_of_lt hv]
theorem Bd{w:tW}{G:Nat}{v0 v1 v2 v3 v4 v5 v6:fa}(h:au w G #[v0,v1,v2,v3,v4,v5,v6] 34):w.cell? ⟨G,0,eL⟩=eK v0/\w.cell? ⟨G,1,eL⟩=eK v1/\w.cell? ⟨G,2,eL⟩=eK v2/\w.cell? ⟨G,3,eL⟩=eK v3/\w.cell? ⟨G,4,eL⟩=eK v4/\w.cell? ⟨G,5,eL⟩=eK v5/\w.cell? ⟨G,6,eL⟩=eK v6/\∀i,w.frozen? ⟨G,i,eL⟩=fj:=⟨h.cell 0,h.cell 1,h.cell 2,h.cell 3,h.cell 4,h.cell 5,h.cell 6,h.frozen⟩
def KV(w:tW)(G:Nat)(R:Hw)(v:fa):tW:=((((((w.setCell ⟨G,0,eL⟩ (vI R.trap)).setCell ⟨G,1,eL⟩ (eR (T R.fn))).setCell ⟨G,2,eL⟩ (vI R.slot)).setCell ⟨G,3,eL⟩ (vU R.r0)).setCell ⟨G,4,eL⟩ (eR (strOf R.inp))).setCell ⟨G,5,eL⟩ v).setCell ⟨G,6,eL⟩ (vI R.used)
theorem Ik(w:tW)(G:Nat)(R:Hw)(v:fa):((((((w.setCell ⟨G,0,eL⟩ (vI R.trap)).setCell ⟨G,1,eL⟩ (eR (T R.fn))).setCell ⟨G,2,eL⟩ (vI R.slot)).setCell ⟨G,3,eL⟩ (vU R.r0)).setCell ⟨G,4,eL⟩ (eR (strOf R.inp))).setCell ⟨G,5,eL⟩ v).setCell ⟨G,6,eL⟩ (vI R.used)=KV w G R v:=rfl
section
variable {N : Nat} {w0 w : World} {sb1 Bc : Nat} {g1 g2 : List (List Nat)} {e1 e2 : List (List Nat × Nat)} {G B : Nat} {is : Nat -> Nat} {R : Hw} {v : fa}
theorem Il(hN:N<=G)(hw:w0.heap.size<=G)(hne:G≠B)(h:au w G lu 34)(hB:au w B (K4 is) 41)(hT:lD N w0 sb1 Bc g1 e1 g2 e2 w):au (KV w G R v) G (kM R v) 34/\au (KV w G R v) B (K4 is) 41/\lD N w0 sb1 Bc g1 e1 g2 e2 (KV w G R v):=by have m:aa (Only G) w (KV w G R v):=(((((((aa.refl (Only G) w).bA 0 _).bA 1 _).bA 2 _).bA 3 _).bA 4 _).bA 5 _).bA 6 _;exact⟨((((((h.set 0 _).set 1 _).set 2 _).set 3 _).set 4 _).set 5 _).set 6 _,hB.ai m (λe=>hne e.symm),hT.set hN hw h.ty (by decide) m⟩
theorem OX{a:Nat}(x:Nat)(ha:a<256)(hN:N<=B)(hw:w0.heap.size<=B)(hne:G≠B)(h:au w G (kM R v) 34)(hB:au w B (K4 is) 41)(hT:lD N w0 sb1 Bc g1 e1 g2 e2 w):au (w.setCell ⟨B,a,eL⟩ (vI x)) G (kM R v) 34/\au (w.setCell ⟨B,a,eL⟩ (vI x)) B (K4 (mJ is a x)) 41/\lD N w0 sb1 Bc g1 e1 g2 e2 (w.setCell ⟨B,a,eL⟩ (vI x)):=by have m:aa (Only B) w (w.setCell ⟨B,a,eL⟩ (vI x)):=(aa.refl (Only B) w).bA a _;refine⟨h.ai m (λe=>hne e),?_,hT.set hN hw hB.ty (by decide) m⟩;have:=hB.set a (vI x);rw[<-aa0 is a x ha];exact this
end
theorem Im{is:Nat->Nat}(h:∀k,is k<=256){a x:Nat}(hx:x<=256):∀k,mJ is a x k<=256:=λk=>by
 unfold mJ;split
 ·exact hx
 ·exact h k
theorem KI.len{is:Nat->Nat}{gs:List tLN}{es:List (tLN×Nat)}(h:KI is gs es):eJ es<=256:=by have:=congrArg ba h.keys;rw[List.length_map,List.length_map]at this;have h2:eJ (mH is 256)<=eJ (List.range 256):=ao _ _;rw[ar]at h2;omega
theorem aa3{g:List tLN}{es:List (tLN×Nat)}(h:KI (mJ (λ_=>0) 120 122) g es):es.flatMap (OU g)=[eR ⟨#[120]⟩,eR ⟨#[121]⟩]:=by
 have hk:=h.keys;rw[show mH (mJ (λ_=>0) 120 122) 256=[120]from by decide +kernel]at hk;have hl:eJ es=1:=by have:=congrArg ba hk;simpa using this
 obtain⟨⟨k,q⟩,rfl⟩:=List.length_eq_one_iff.1 hl;have e1:k=[120]:=by simpa using hk
 subst e1;have:=h.vals _ (List.mem_singleton.2 rfl) 120 rfl;simp only at this;rw[List.flatMap_singleton];unfold OU;rw[this];rfl
theorem KI.nth{is:Nat->Nat}{gs:List tLN}{es:List (tLN×Nat)}(h:KI is gs es){k:Nat}(hk:k<256)(h0:is k≠0):∃hl:eJ (mH is k)<eJ es,OU gs es[eJ (mH is k)]=[eR (strOf [k]),eR (strOf [is k-1])]:=by
 obtain⟨eA,eB,hA,hB,hn,h1 |⟨_,q,hes,hf,hq⟩⟩:=h.cut hk
 ·exact absurd h1.1 h0
 have hl:eJ (mH is k)=eJ eA:=by have:=congrArg ba hA;simpa using this.symm
 have hv:=h.vals ([k],q) (by rw[hes];simp) k rfl;have hlt:eJ (mH is k)<eJ es:=by rw[hl,hes];simp
 refine⟨hlt,?_⟩
 have e:es[eJ (mH is k)]=([k],q):=by
  have:es[eJ (mH is k)]?=eK ([k],q):=by rw[hl,hes,List.getElem?_append_right (Nat.le_refl _),Nat.sub_self];rfl
  rw[List.getElem?_eq_getElem hlt]at this;exact Option.some.inj this
 rw[e];unfold OU;simp only at hv ⊢;rw[hv]
theorem agj{w:tW}{gs:List tLN}{o:Option kh}{n c:Nat}{l:List (tLN×Nat)}(h:Sl w 47 2 (eS o n c) (eJ l) (l.flatMap (OU gs)))(k:Nat)(hk:k<eJ l):∃g,o=eK ⟨g,0,eL⟩/\∀j,j<2->w.cell? ⟨g,k*2+j,eL⟩=(OU gs l[k])[j]?:=by obtain⟨o2,c2,hv,h2⟩:=h.view;obtain⟨g,cs,ho,hg,ht,_⟩:=h2 (by omega);injection hv with h1 _ _;rw[<-h1]at ho;exact⟨g,ho,λj hj=>by rw[aV hg ht _ (by omega),jY (OU gs) 2 l (λ_ _=>rfl) k j hk hj]⟩
theorem X9(is:Nat->Nat)(k:Nat):eJ (mH is (k+1))=eJ (mH is k)+(if is k=0 then 0 else 1):=by
 unfold mH;rw[List.range_succ,List.filter_append,List.length_append];by_cases h:is k=0
 ·simp[h]
 ·simp[h]
theorem acX(is:Nat->Nat)(k:Nat):eJ (mH is k)<=k:=by
 have h2:eJ (mH is k)<=eJ (List.range k):=ao _ _
 rwa [ar]at h2
theorem byte_at{W:tW}{g k:Nat}(hk:k<256)(h:au W g #[vB k] 5):(convert 30 9 (eS (eK ⟨g,0,eL⟩) 1 1)).run prog W=.ok (eR (strOf [k])) W :=
 rZ _ g 1 1 [k] (λb hb=>by rw[List.mem_singleton.1 hb];exact hk) ((Sl.fresh h rfl (by show(1:Nat)<=jz;decide)).bys rfl)
theorem OY:KI (λ_=>0) [] []:=⟨by decide +kernel,λe he=>(by cases he),λe he=>(by cases he),List.nodup_nil⟩
theorem Th(w:tW)(hA:fS prog 7 #[] w λe w'=>e=fW (fX fR)/\aa af w w')(hMd:∀w1,aa af w w1->fS prog 10 #[eS (eK ⟨w1.heap.size,0,eL⟩) 1 1] (w1.alloc (fL #[eR (T KU)] 9)) λe w'=>∃sb,e=fW (pt sb)/\Tg w1 sb w')(hco:lK jH 1) (hH:∀F b,Eg F b jH) (hK:oW jH) (o:Option kh) (cap:Nat) (raw:List Int) (hr:∀x∈raw,-9223372036854775808<=x/\x<=9223372036854775807) (hn:eJ raw<=100000000000000)(hb:0<eJ raw->∃g off,o=eK ⟨g,off,eL⟩/\∀k (h:k<eJ raw),w.cell? ⟨g,off+k,eL⟩=eK (vI raw[k])):fS prog 4 #[eS o (eJ raw) cap] w λe w'=>e=fW (fX fR)/\aa af w w':=by
 have HA:=aq hA;have kV:=aq hMd;have HRU:ah (∀{N:Nat} {w0 w:tW} {sb1 Bc:Nat} {g1 g2:List tLN} {e1 e2:List (tLN×Nat)},lD N w0 sb1 Bc g1 e1 g2 e2 w->∀{is:Nat->Nat},KI is g1 e1->_):=λh _ hi=>lD.run hco hH hK h hi;have HB:=aq hb;have HRR:=aq hr;obtain⟨n,hnn⟩:∃n,n=eJ raw:=⟨_,rfl⟩
 have EG:=aq hnn;rw[<-hnn]at hn ⊢;clear hA hMd hco hH hK hb hr hnn;go_in;go_wp2_with fail;refine HA.o.mono ?_;rintro e w1 ⟨rfl,m1⟩;have bU:=aq m1;clear m1 HA;have EP:ah ((⟨((([109,97,112,32,109,32,49,32,49,32,52,10,102,117,110,99,32,112,117,116,10,109,111,118,32,114,50,44,32,114,49,10,109,111,118,32,114,51,44,32,114,49,10,97,100,100,32,114,51,44,32,49,10,119,105,100,101,32].append [114,49,44,32,109,97,112,32,109,10,104,101,108,112,32,112,117,116,10,101,120,105,116,10,102,117,110,99,32,100,101,108,10,109,111,118,32,114,50,44,32,114,49,10,119,105,100,101,32,114,49,44,32,109,97,112,32,109]).append ([10,104,101,108,112,32,100,101,108,10,101,120,105,116,10,102,117,110,99,32,103,101,116,10,109,111,118,32,114,50,44,32,114,49,10,119,105,100,101,32,114,49,44,32,109,97,112,32,109,10,104,101,108,112,32,103,101,116].append [10,106,101,113,32,114,48,44,32,48,44,32,110,111,110,101,10,108,100,49,32,114,48,44,32,91,114,48,93,10,101,120,105,116,10,110,111,110,101,58,10,109,111,118,32,114,48,44,32,49,48,48,48,10,101,120,105,116]))).toArray⟩:tBA)=T KU):=rfl;go_upto_region 3 with fail;rw[EP.o];clear EP;go_wp2_with fail;refine(kV.o w1 bU.o).mono ?_;rintro e w2 ⟨sb1,rfl,h1⟩;have H1:=aq h1;clear h1;go_upto_region 4 with fail;go_wp2_with fail;refine(kV.o w2 (by obtain⟨_,_,_,_,_,m⟩:=H1.o;exact bU.o.trans m)).mono ?_;rintro e w3 ⟨Bc,rfl,h2⟩;have HT:=aq (Tg.two bU.o H1.o ax h2);clear h2 H1 bU kV;generalize T KU=txt at *;have hs3:w.heap.size<=w3.heap.size:=by obtain⟨_,_,_,_,_,_,_,m,_⟩:=HT.o;exact m.size
 have jh:=aq (HRU.o HT.o.flip OY 2 120 121 (by decide) (by decide) ⟨#[120,121]⟩ (by decide +kernel) (by decide +kernel) (by decide));clear HT;go_wp2_with fail;refine jh.o.mono ?_;rintro e w4 ⟨g2,e2,R,oL,cL,rfl,_,_,_,hI2,hL2,hT2,hs4,_⟩;have HT:=aq hT2.flip;have HI2:=aq hI2;have HL2:ah (eJ e2=1):=hL2;clear hI2 hL2 hT2 jh;unfold kM;have HIS:ah (au (w4.alloc (fL zeroCells41 41)) w4.heap.size (K4 (λ_=>0)) 41):=by have:=au.new w4 zeroCells41 41;rw[XZ]at this ⊢;exact this
 have HT5:=aq (HT.o.quiet (ax.alloc (fL zeroCells41 41)));clear HT;go_upto_region 9 with fail;generalize w4.alloc (fL zeroCells41 41)=w5 at *;generalize w4.heap.size=B at *;generalize w3.heap.size=N at *;go_upto_block 0 with fail;go_cut [8] (λcv wx=>∃(is:Nat->Nat) (g1:List tLN) (e1:List (tLN×Nat)),cv=vI (eJ e1)/\KI is g1 e1/\(∀k,is k<=256)/\au wx B (K4 is) 41/\lD N w sb1 Bc g1 e1 g2 e2 wx)
 case first =>
  go_wp2_with fail;go_loopg [8,9] 41 (λq cv iv wx=>∃(i:Nat) (is:Nat->Nat) (g1:List tLN) (e1:List (tLN×Nat)),iv=vI i/\cv=vI (eJ e1)/\i<=40/\KI is g1 e1/\(∀k,is k<=256)/\au wx B (K4 is) 41/\lD N w sb1 Bc g1 e1 g2 e2 wx/\q=41-i)
  case atStart=>exact⟨0,λ_=>0,[],[],rfl,rfl,by omega,OY,λ_=>Nat.zero_le _,HIS.o,HT5.o,rfl⟩
  case round =>
   obtain⟨i,is,g1,e1,rfl,rfl,hi,hki,hle,hbi,ht,rfl⟩:=hrel;have HKI:=aq hki;have hel:=hki.len;have zZ:=aq hle;have HBI:=aq hbi;have HT:=aq ht;clear hki hle hbi ht HT5 HIS;by_cases hlt:i<n/\i<40
   ·obtain⟨hlt,h40⟩:=hlt;have hir:i<eJ raw:=by rw[<-EG.o];exact hlt
    obtain⟨g,off,rfl,hcl⟩:=HB.o (by omega);have l1:=si (by obtain⟨_,_,_,_,_,_,_,m,_⟩:=HT.o;exact m) (hcl i hir);obtain⟨r0,r1⟩:=HRR.o raw[i] (List.getElem_mem hir);have HPK:=aq (λW=>Tc W raw[i] 1048576 r0 r1 (by decide) (by decide));have hc:=XG raw[i] 1048576 (by decide);generalize xM raw[i] 1048576=c at *;generalize raw[i]=ri at *;clear hcl;go_wp2_with fail;refine(HPK.o _).mono ?_;rintro e wr ⟨rfl,rfl⟩;clear HPK l1;have ca:((c%6:Nat):Int)=(c:Int)%6:=by omega
    have cv:((c/6%256:Nat):Int)=(c:Int)/6%256:=by omega
    have hav:c%6<256/\c/6%256<256:=by omega
    have Ho:=aq (aa1 wr (c%6) (c/6%256) hav.1 hav.2);obtain⟨in1,in2,in3⟩:=aa2 (c%6) (c/6%256) hav.1 hav.2;have Nc:=aq (λop hop W (h:lD N w sb1 Bc g1 e1 g2 e2 W)=>HRU.o h HKI.o op (c%6) (c/6%256) hop hav.1 (strOf [c%6,c/6%256]) in1 in2 (by omega));rw[ca,cv]at Ho;go_upto_region 17 with(rw[Ho.o])
    rw[<-ca,<-cv];clear Ho in1 in2 in3;have M6:aa af wr (wr.alloc (fL #[vB ((c%6:Nat):Int),vB ((c/6%256:Nat):Int)] 5)):=aw;have HT6:=aq (HT.o.quiet M6);have pT:=aq (HBI.o.ai M6 id);clear M6 HT HBI;generalize wr.alloc (fL #[vB ((c%6:Nat):Int),vB ((c/6%256:Nat):Int)] 5)=w6 at *;have h6:c%6<6:=by omega
    clear ca cv;generalize aeE:strOf [c%6,c/6%256]=sin at *;have HSI:=aq aeE;clear aeE;generalize c%6=a at *;generalize c/6%256=v at *;have hop:c/2048%3=0\/c/2048%3=1\/c/2048%3=2:=by omega
    go_upto_region 19 with fail;have YE:=aq (au.new w6 lu 34);have HT7:=aq (HT6.o.quiet (ax.alloc (fL lu 34)));have BQ:=aq (pT.o.ai ((aa.refl af w6).alloc (fL lu 34)) id);have hB6:=pT.o.lt;clear HT6 pT;unfold lu at YE HT7 BQ;generalize w6.alloc (fL #[vI 0,eR ⟨#[]⟩,vI 0,vU 0,eR ⟨#[]⟩,vN,vI 0] 34)=w7 at *;generalize w6.heap.size=G at *;have hva:=hav.1;have hvv:=hav.2;have hGB:G≠B:=by omega
    have hNB:=hs4;have hNG:N<=G:=by omega
    have hwB:w.heap.size<=B:=by omega
    have hwG:w.heap.size<=G:=by omega
    go_upto_block 2 with fail;go_cut [8,14,69] (λcv wv _ wx=>∃(g:List tLN) (e':List (tLN×Nat)) (R:Hw) (o:Option kh) (c':Nat) (is':Nat->Nat),cv=vI (eJ e')/\wv=vU R.r0/\au wx G (kM R (eS o (eJ R.log) c')) 34/\R.trap=0/\R.inp=[a,v]/\KI is' g e'/\(∀k,is' k<=256)/\au wx B (K4 is') 41/\lD N w sb1 Bc g e' g2 e2 wx)
    case first =>
     rcases hop with hop|hop|hop
     ·have q:(c:Int)/2048%3=0:=by omega
      have HC:=aq (Nc.o 0 (by decide) w7 HT7.o);go_wp2_with fail;refine HC.o.mono ?_;rintro e w8 ⟨g,e',R',oR,cR,rfl,t0,t1,t2,hI,hL,hT8,_,hbk⟩;obtain⟨hR9,K0,hT9⟩:=Il (R:=R') (v:=eS oR (eJ R'.log) cR) hNG hwG hGB (hbk G _ _ (by decide) YE.o) (hbk B _ _ (by decide) BQ.o) hT8;have HR8:=aq (hbk G _ _ (by decide) YE.o);obtain⟨z0,z1,z2,z3,z4,z5,z6,zf⟩:=Bd HR8.o;have HJ:=aq (And.intro t0 (And.intro t1 (And.intro t2 (And.intro hI hL))));have HR9:=aq hR9;have EL:=aq K0;have HT9:=aq hT9;unfold kM;clear hbk t0 t1 t2 hI hL hR9 K0 hT9 hT8 HC Nc;go_upto_region 29 with fail;rw[Ik];clear z0 z1 z2 z3 z4 z5 z6 zf HR8;generalize KV w8 G R' (eS oR (eJ R'.log) cR)=w9 at *;have ya:=(EL.o.cell a).trans (sD is a hva);have yf:=EL.o.frozen;obtain⟨p1,p2,p3⟩:=OX 0 hva hNB hwB hGB HR9.o EL.o HT9.o;have HP:=aq (And.intro p1 (And.intro p2 p3));clear p1 p2 p3;by_cases h0:is a=0
      ·have kw:kWant 0 is (eJ e1) a v=(1,mJ is a 0,eJ e1):=iP9 h0;rw[kw]at HJ;rw[h0]at ya;go_wp2_with fail;go_meet;obtain⟨t0,t1,t2,hI,hL⟩:=HJ.o;exact⟨g,e',R',oR,cR,_,by rw[hL],by rw[t1];rfl,HP.o.1,t0,t2,hI,Im zZ.o (by omega),HP.o.2.1,HP.o.2.2⟩
      ·have kw:kWant 0 is (eJ e1) a v=(0,mJ is a 0,eJ e1-1):=iN9 h0;have h1:=(HKI.o.gone hva h0).2.2.2;rw[kw]at HJ;go_wp2_with fail;go_meet;obtain⟨t0,t1,t2,hI,hL⟩:=HJ.o;exact⟨g,e',R',oR,cR,_,by rw[hL];congr 1;push_cast;omega,by rw[t1];rfl,HP.o.1,t0,t2,hI,Im zZ.o (by omega),HP.o.2.1,HP.o.2.2⟩
     ·have q:(c:Int)/2048%3=1:=by omega
      have HC:=aq (Nc.o 1 (by decide) w7 HT7.o);go_wp2_with fail;refine HC.o.mono ?_;rintro e w8 ⟨g,e',R',oR,cR,rfl,t0,t1,t2,hI,hL,hT8,_,hbk⟩;obtain⟨hR9,K0,hT9⟩:=Il (R:=R') (v:=eS oR (eJ R'.log) cR) hNG hwG hGB (hbk G _ _ (by decide) YE.o) (hbk B _ _ (by decide) BQ.o) hT8;have HR8:=aq (hbk G _ _ (by decide) YE.o);obtain⟨z0,z1,z2,z3,z4,z5,z6,zf⟩:=Bd HR8.o;have HJ:=aq (And.intro t0 (And.intro t1 (And.intro t2 (And.intro hI hL))));have HR9:=aq hR9;have EL:=aq K0;have HT9:=aq hT9;unfold kM;clear hbk t0 t1 t2 hI hL hR9 K0 hT9 hT8 HC Nc;go_upto_region 35 with fail;rw[Ik];clear z0 z1 z2 z3 z4 z5 z6 zf HR8;generalize KV w8 G R' (eS oR (eJ R'.log) cR)=w9 at *;have ya:=(EL.o.cell a).trans (sD is a hva);have yf:=EL.o.frozen;by_cases h0:is a=0
      ·have kw:kWant 1 is (eJ e1) a v=(1000,is,eJ e1):=by show(if is a=0 then 1000 else is a-1,is,eJ e1)=_;rw[iP9 h0]
       rw[kw]at HJ;rw[h0]at ya;go_wp2_with fail;go_meet;obtain⟨t0,t1,t2,hI,hL⟩:=HJ.o;exact⟨g,e',R',oR,cR,_,by rw[hL],by rw[t1];rfl,HR9.o,t0,t2,hI,zZ.o,EL.o,HT9.o⟩
      ·have kw:kWant 1 is (eJ e1) a v=(is a-1,is,eJ e1):=by show(if is a=0 then 1000 else is a-1,is,eJ e1)=_;rw[iN9 h0]
       have hl:=zZ.o a;rw[kw]at HJ;go_wp2_with fail;go_meet;obtain⟨t0,t1,t2,hI,hL⟩:=HJ.o;exact⟨g,e',R',oR,cR,_,by rw[hL],by rw[t1];congr 1;push_cast;omega,HR9.o,t0,t2,hI,zZ.o,EL.o,HT9.o⟩
     ·have q:(c:Int)/2048%3=2:=by omega
      have HC:=aq (Nc.o 2 (by decide) w7 HT7.o);go_wp2_with fail;refine HC.o.mono ?_;rintro e w8 ⟨g,e',R',oR,cR,rfl,t0,t1,t2,hI,hL,hT8,_,hbk⟩;obtain⟨hR9,K0,hT9⟩:=Il (R:=R') (v:=eS oR (eJ R'.log) cR) hNG hwG hGB (hbk G _ _ (by decide) YE.o) (hbk B _ _ (by decide) BQ.o) hT8;have HR8:=aq (hbk G _ _ (by decide) YE.o);obtain⟨z0,z1,z2,z3,z4,z5,z6,zf⟩:=Bd HR8.o;have HJ:=aq (And.intro t0 (And.intro t1 (And.intro t2 (And.intro hI hL))));have HR9:=aq hR9;have EL:=aq K0;have HT9:=aq hT9;unfold kM;clear hbk t0 t1 t2 hI hL hR9 K0 hT9 hT8 HC Nc;go_upto_region 22 with fail;rw[Ik];clear z0 z1 z2 z3 z4 z5 z6 zf HR8;generalize KV w8 G R' (eS oR (eJ R'.log) cR)=w9 at *;have ya:=(EL.o.cell a).trans (sD is a hva);have yf:=EL.o.frozen;obtain⟨p1,p2,p3⟩:=OX (v+1) hva hNB hwB hGB HR9.o EL.o HT9.o;have HP:=aq (And.intro p1 (And.intro p2 p3));clear p1 p2 p3
      push_cast at HP
      by_cases h0:is a=0
      ·rw[h0]at ya;by_cases h4:eJ e1=4
       ·have kw:kWant 2 is (eJ e1) a v=(1,is,eJ e1):=iP9 ⟨h0,h4⟩;rw[kw]at HJ;go_wp2_with fail;go_meet;obtain⟨t0,t1,t2,hI,hL⟩:=HJ.o;exact⟨g,e',R',oR,cR,_,by rw[hL,h4];rfl,by rw[t1];rfl,HR9.o,t0,t2,hI,zZ.o,EL.o,HT9.o⟩
       ·have kw:kWant 2 is (eJ e1) a v=(0,mJ is a (v+1),eJ e1+1):=(iN9 (λh=>h4 h.2)).trans (iP9 h0);rw[kw]at HJ;go_wp2_with fail;go_meet;obtain⟨t0,t1,t2,hI,hL⟩:=HJ.o;exact⟨g,e',R',oR,cR,_,by rw[hL];push_cast;rfl,by rw[t1];rfl,HP.o.1,t0,t2,hI,Im zZ.o (by omega),HP.o.2.1,HP.o.2.2⟩
      ·have kw:kWant 2 is (eJ e1) a v=(0,mJ is a (v+1),eJ e1):=(iN9 (λh=>h0 h.1)).trans (iN9 h0);rw[kw]at HJ;go_wp2_with fail;go_meet;obtain⟨t0,t1,t2,hI,hL⟩:=HJ.o;exact⟨g,e',R',oR,cR,_,by rw[hL],by rw[t1];rfl,HP.o.1,t0,t2,hI,Im zZ.o (by omega),HP.o.2.1,HP.o.2.2⟩
    case rest =>
    obtain⟨g,e',R',oR,cR,is',rfl,rfl,hR,t0,t2,hI,hle,hB,hT⟩:=hcut;have HR:=aq hR;have z0:wc.cell? ⟨G,0,eL⟩=eK (vI 0):=by have:=hR.cell 0;unfold kM at this;rw[t0]at this;exact this
    have z3:=hR.c3;have z4:wc.cell? ⟨G,4,eL⟩=eK (eR sin):=by have:=hR.cell 4;unfold kM at this;rw[t2,HSI.o]at this;exact this
    have HJ:=aq (And.intro hI (And.intro hle (And.intro hB hT)));clear hR t0 t2 hI hle hB hT YE HT7 BQ Nc HKI zZ;generalize R'.r0=rr at *;go_wp2_with fail;go_roundg (41-(i+1))
    case measure=>omega
    case rel =>obtain⟨hI,hle,hB,hT⟩:=HJ.o;exact⟨i+1,is',g,e',by go_num,rfl,by omega,hI,hle,hB,hT,rfl⟩
   ·have HJ:=aq (And.intro HKI.o (And.intro zZ.o (And.intro HBI.o HT.o)));clear HKI zZ HBI HT HRU;by_cases hin:i<n
    ·have h40:¬i<40:=λh=>hlt ⟨hin,h⟩;go_wp2_with fail;go_meet;exact⟨is,g1,e1,rfl,HJ.o⟩
    ·go_wp2_with fail;go_meet;exact⟨is,g1,e1,rfl,HJ.o⟩
 case rest =>
 obtain⟨is,g1,e1,rfl,hki,hle,hbi,ht⟩:=hcut;have HKI:=aq hki;have hel:=hki.len;have zZ:=aq hle;have GW:=aq ht.ent;have HBI:=aq hbi;clear hki hle hbi HIS HT5 HRU ht;go_wp2_with fail;refine GW.o.mono ?_;rintro e w6 ⟨o1,c1,rfl,hs1,ht6,hbk,hsl⟩;have HE2:=aq ht6.flip.ent;have Bg:=aq hs1;have pT:=aq (hbk B _ _ (by decide) HBI.o);clear hs1 ht6 hbk hsl GW HBI;go_wp2_with fail;refine HE2.o.mono ?_;rintro e w7 ⟨o2,c2,rfl,hs2,ht7,hbk,hsl⟩;have HS7:=aq (hsl _ _ _ Bg.o);have BQ:=aq (hbk B _ _ (by decide) pT.o);have zw:ah (aa af w w7):=by obtain⟨_,_,_,_,_,_,_,m,_⟩:=ht7;exact m
 rw[HL2.o]at hs2;obtain⟨o3,c3,hv3,h3⟩:=hs2.view;obtain⟨g3,cs3,rfl,hg3,htk,_⟩:=h3 (by decide);cases hv3;rw[aa3 HI2.o]at htk;have x0:w7.cell? ⟨g3,0,eL⟩=eK (eR ⟨#[120]⟩):=(aV hg3 htk 0 (by decide)).trans rfl;have x1:w7.cell? ⟨g3,1,eL⟩=eK (eR ⟨#[121]⟩):=(aV hg3 htk 1 (by decide)).trans rfl;rw[HL2.o];clear ht7 hbk hsl Bg pT HE2 hs2 h3 hg3 htk HI2 HL2;go_upto_region 44 with fail;clear x0 x1;go_upto_block 4 with fail;go_wp2_with fail;go_loopg [20,21] 257 (λq av kv wx=>∃k:Nat,kv=vI k/\av=vI (eJ (mH is k))/\k<=256/\aa af w7 wx/\q=257-k)
 case atStart=>exact⟨0,rfl,rfl,Nat.zero_le _,ax,rfl⟩
 case round =>
  obtain⟨k,rfl,rfl,hk,hm,rfl⟩:=hrel;have Et:=aq hm;clear hm;have hlk:=acX is k;by_cases hlt:k<256
  ·have LK:=aq (X9 is k);by_cases h0:is k=0
   ·have y:wr.cell? ⟨B,k,eL⟩=eK (vI 0):=by
     have:=((BQ.o.ai Et.o id).cell k).trans (sD is k hlt)
     rwa [h0]at this
    rw[h0,iP9 rfl]at LK;go_wp2_with fail;go_roundg (257-(k+1))
    case measure=>omega
    case rel=>exact⟨k+1,by go_num,by rw[LK.o];rfl,by omega,Et.o,rfl⟩
   ·obtain⟨hl,hme⟩:=HKI.o.nth hlt h0;obtain⟨gA,rfl,hrow⟩:=agj HS7.o _ hl;rw[hme]at hrow;have hle:=zZ.o k;rw[iN9 h0]at LK;have gq:=aq (hrow 0 (by decide));have yT:=aq (hrow 1 (by decide));clear hrow hme;generalize(mH is k).length=at' at *;obtain⟨x,hx⟩:∃x,is k=x+1:=⟨is k-1,by omega⟩
    have hx2:x<256:=by omega
    have a0:∀e:Ext af wr,e.w.cell? ⟨gA,at'*2,eL⟩=eK (eR (strOf [k])):=λe=>si (Et.o.trans e.m) gq.o;have a1:∀e:Ext af wr,e.w.cell? ⟨gA,at'*2+1,eL⟩=eK (eR (strOf [x])):=λe=>by have:=si (Et.o.trans e.m) yT.o;rw[hx]at this;exact this
    have y:∀e:Ext af wr,e.w.cell? ⟨B,k,eL⟩=eK (vI ((x:Int)+1)):=λe=>by have:=(((BQ.o.ai Et.o id).ai e.m id).cell k).trans (sD is k hlt);rw[hx]at this;exact this
    have yw:wr.cell? ⟨B,k,eL⟩=eK (vI ((x:Int)+1)):=by have:=((BQ.o.ai Et.o id).cell k).trans (sD is k hlt);rw[hx]at this;exact this
    clear gq yT hx h0 hle;go_upto_region 49 with fail;clear yw;refine gj af 24 [7,8,9,10,21,22] (by kernel_rfl) (by kernel_rfl) (λ_ M0=>?_);simp only[List.take_succ_cons,List.take_zero,List.drop_succ_cons,List.drop_zero]
    iterate 7 (refine aG rfl rfl rfl ?_;intro K hK;go_big_quiet_op;go_big_quiet_on)
    refine aH rfl rfl ?_;intro K hK;go_big_op;have HW1:ah (au (wr.alloc (fL #[vB (k:Int)] 5)).drew wr.heap.size #[vB (k:Int)] 5):=(au.new wr _ _).ai ((aa.refl af _).drew) id;have MW1:ah (aa af wr (wr.alloc (fL #[vB (k:Int)] 5)).drew):=aw.drew;refine hK _ _ rfl ⟨⟨_,MW1.o⟩,rfl⟩ ?_;clear hK K;generalize(wr.alloc (fL #[vB (k:Int)] 5)).drew=W1 at *;have cv1:=byte_at hlt HW1.o;refine aH rfl rfl ?_;intro K hK;go_big_op;refine hK _ _ rfl ⟨⟨_,MW1.o⟩,rfl⟩ ?_;clear hK K cv1;refine aH rfl rfl ?_;intro K hK;go_big_op;refine hK _ _ rfl ⟨⟨_,MW1.o⟩,rfl⟩ ?_;clear hK K;refine aH rfl rfl ?_;intro K hK;go_big_op;refine hK _ _ rfl ⟨⟨_,MW1.o⟩,rfl⟩ ?_;clear hK K
    iterate 10 (refine ko rfl rfl rfl ?_;intro K hK;go_big_quiet_op;go_big_quiet_on)
    refine tT rfl rfl ?_;intro K hK;go_big_op;have HW2:=aq (au.new W1 #[vB (x:Int)] 5);have MW2:=aq (MW1.o.alloc (fL #[vB (x:Int)] 5));refine hK _ _ rfl ⟨⟨_,MW2.o⟩,rfl⟩ ?_;clear hK K;generalize W1.alloc (fL #[vB (x:Int)] 5)=W2 at *;have cv2:=byte_at hx2 HW2.o;refine tT rfl rfl ?_;intro K hK;go_big_op;refine hK _ _ rfl ⟨⟨_,MW2.o⟩,rfl⟩ ?_;clear hK K cv2
    iterate 1 (refine ko rfl rfl rfl ?_;intro K hK;go_big_quiet_op;go_big_quiet_on)
    refine bZ ?_;clear a0 a1 y;go_wp2_with fail;go_roundg (257-(k+1))
    case measure=>omega
    case rel=>exact⟨k+1,by go_num,by rw[LK.o];push_cast;rfl,by omega,Et.o.trans MW2.o,rfl⟩
  ·have hkk:k=256:=by omega
   go_wp2_with fail;go_ret;exact⟨rfl,zw.o.trans Et.o⟩
set_option linter.all false
def sG:bz:=⟨[100,101,108],[⟨0,2,1,0,0,0,[]⟩,⟨85,1,1,0,0,0,[109]⟩,⟨86,0,0,0,3,0,[]⟩,⟨87,0,0,0,0,0,[]⟩]⟩
def sH:bz:=⟨[103,101,116],[⟨0,2,1,0,0,0,[]⟩,⟨85,1,1,0,0,0,[109]⟩,⟨86,0,0,0,1,0,[]⟩,⟨52,0,0,2,0,0,[]⟩,⟨73,0,0,0,0,0,[]⟩,⟨87,0,0,0,0,0,[]⟩,⟨2,0,0,0,1000,0,[]⟩,⟨87,0,0,0,0,0,[]⟩]⟩
def sI:bz:=⟨[112,117,116],[⟨0,2,1,0,0,0,[]⟩,⟨0,3,1,0,0,0,[]⟩,⟨6,3,0,0,1,0,[]⟩,⟨85,1,1,0,0,0,[109]⟩,⟨86,0,0,0,2,0,[]⟩,⟨87,0,0,0,0,0,[]⟩]⟩
def zS:aB:=⟨[109],1,1,4⟩
def kpO:tLB:=Ki [zS] [sG,sH,sI]
def kpI:tLB:=kJ 2 [zS] jH
theorem aeF:(KS KU).ms=[zS]:=by kernel_rfl
theorem aeG:(KS KU).fs=[sI,sG,sH]:=by kernel_rfl
theorem aeH:aaQ KU=0:=by kernel_rfl
theorem OZ:([sG,sH,sI]:List bz).Perm [sI,sG,sH]:=(List.perm_append_comm:([sG,sH]++[sI]).Perm ([sI]++[sG,sH]))
theorem NF:([sG,sH,sI]:List bz).Pairwise (λx y=>jA (T y.name) (T x.name)=fj):=by decide +kernel
theorem Ya:(([sG,sH,sI]:List bz).map (λf=>T f.name)).Nodup:=by decide +kernel
theorem acY{s:tBA}{c n:Nat}(h:zG KU s c n):s=T kpO/\c=0:=by
 have hl:¬4000<eJ KU:=by decide +kernel
 have h1:=aeH;have h2:=aeF;have h3:=aeG;unfold zG at h;rw[iN9 hl]at h;unfold aaQ at h1;unfold KS at h2 h3;cases hp:parseP (linesP KU) fj 0 []with
 |inr k=>rw[hp]at h1;cases h1
 |inl ls =>rw[hp]at h h1 h2 h3;dsimp only at h h1 h2 h3;rw[iP9 h1]at h;obtain⟨hc,_,ms,fs,pm,_,pf,sf,rfl⟩:=h;rw[h2]at pm;rw[h3]at pf;have e1:=List.perm_singleton.1 pm;have e2:=sw (nm:=λf=>T f.name) (pf.trans OZ.symm) (List.Perm.refl _) Ya sf NF;rw[e1,e2];exact⟨rfl,hc⟩
def sJ(t:tLB):List fE:=match parseP (linesP t) fj 0 []with
 |.inl ls=>ls
 |.inr _=>[]
theorem Yb{t:tLB}{ms0:List aB}{fs0:List bz}(hb:eJ t<=4000)(hr:parseP (linesP t) fj 0 []=.inl (sJ t))(hf:(firstP (aj (sJ t)) (sJ t) {} 0).1=0)(hl:(linesP t).all ab4=fR)(hs:((sJ t).all λx=>x.kind != 1||(decide (0<=tL (x.ns.getD 0 aF)/\tL (x.ns.getD 0 aF)<256)&&decide (0<=tL (x.ns.getD 1 aF)/\tL (x.ns.getD 1 aF)<256)&&decide (0<=tL (x.ns.getD 2 aF)/\tL (x.ns.getD 2 aF)<256)))=fR)(hu:∀ms fs,ms.Perm (aR (aj (sJ t)) (sJ t)).ms->fs.Perm (aR (aj (sJ t)) (sJ t)).fs->fs.Pairwise (λx y=>jA (T y.name) (T x.name)=fj)->ms=ms0/\fs=fs0)(he:EOk ms0 fs0) (hn:∀f∈fs0,∀x∈f.code,eJ x.name<=255) (hp:qj fs0<=1000) (hz:eJ (kJ 1 ms0 fs0)<=300000):TxM t (sJ t):=by
 refine⟨by omega,hr,hf,λu hu=>ab5 (List.all_eq_true.1 hl u hu),λx hx h1=>?_,λms fs h1 _ h3 h4=>?_⟩
 ·have:=List.all_eq_true.1 hs x hx;rw[h1]at this
  simpa [and_assoc]using this
 ·obtain⟨rfl,rfl⟩:=hu ms fs h1 h3 h4;exact⟨he,hn,hp,hz⟩
theorem acZ:(aR (aj (sJ KU)) (sJ KU)).ms=[zS]:=by kernel_rfl
theorem ac0:(aR (aj (sJ KU)) (sJ KU)).fs=[sI,sG,sH]:=by kernel_rfl
theorem ac1:EOk [zS] [sG,sH,sI]:=by
 refine⟨by decide,by decide,by decide,λf hf=>?_⟩;simp only[al,ab,or_false]at hf;rcases hf with rfl|rfl|rfl
 all_goals
  refine⟨by decide,by decide,λx hx=>?_⟩;simp only[sG,sH,sI,al,ab,or_false]at hx;rcases hx with rfl|rfl|rfl|rfl|rfl|rfl|rfl|rfl
 all_goals exact⟨by decide,by decide,by decide,by decide,by decide,by decide⟩
theorem aeI:TxM KU (sJ KU):=Yb (ms0:=[zS]) (fs0:=[sG,sH,sI]) (by decide +kernel) (by kernel_rfl) (by kernel_rfl) (by decide +kernel) (by decide +kernel) (λms fs h1 h2 h3=>by
  rw[acZ]at h1;rw[ac0]at h2;exact⟨List.perm_singleton.1 h1,sw (nm:=λf=>T f.name) (h2.trans OZ.symm) (List.Perm.refl _) Ya h3 NF⟩) ac1 (by decide +kernel) (by decide +kernel) (by decide +kernel)
theorem Yc:decsP [kpO]=[([zS],[sG,sH,sI])]:=by kernel_rfl
theorem ac2:(mr [([zS],[sG,sH,sI])] [zS] [sG,sH,sI]).1=0:=by kernel_rfl
theorem ac3:kJ 2 (dz [zS]) (([sG,sH,sI]:List bz).map (bz.linked (TF (dz [zS])) (RM [sG,sH,sI])))=kpI:=by kernel_rfl
theorem aa4{s:tBA}{e a:Int}(h:kg [kpO] s e a):s=T kpI/\e=0:=by unfold kg at h;rw[iN9 (by simp),Yc,iN9 (by simp)]at h;obtain⟨ms,fs,pm,_,pf,sf,h⟩:=h;have e1:=List.perm_singleton.1 (by simpa using pm);have e2:fs=[sG,sH,sI]:=sw (nm:=λf=>T f.name) (by simpa using pf) (List.Perm.refl _) Ya sf NF;rw[e1,e2,ac2,iN9 (by simp),ac3]at h;exact⟨h.1,h.2.1⟩
theorem ac4:gu kpI=([zS],jH,⟨[],fj⟩):=by kernel_rfl
theorem Yd:eJ kpI<=1000/\kpO.length<=1000:=by decide +kernel
theorem aa5:∀q∈decsP [kpO],uZ q:=by rw[Yc];intro q hq;rw[List.mem_singleton.1 hq];exact⟨by decide,by decide,by decide,by decide⟩
theorem aa6:lK jH 1:=KL (by decide +kernel) (by decide +kernel)
theorem Ti(w:tW)(l:tLB)(hW:uS w)(hE:Env w)(hM:lY w)(ls:List fE)(hT:TxM l ls):fS prog 18 #[eR (T l)] w λe w'=>∃s c n,e=fW (jl #[eR s,vI (c:Nat),vI (n:Nat)])/\zG l s c n/\aa af w w':=by
 have H:ah (fS prog 24 #[eR (T l)] w λe w'=>∃s c n,e=fW (jl #[eR s,vI (c:Nat),vI (n:Nat)])/\zG l s c n/\aa af w w'):=aak w l hW hE hM ls hT;clear hW hE hM hT;generalize T l=s0 at *;go_in;go_wp2_with fail;refine H.o.mono ?_;rintro e w1 ⟨s,c,n,rfl,hq,m⟩;have HQ:ah (zG l s c n/\aa af w w1):=⟨hq,m⟩
 clear hq m H;go_wp2_with fail;go_ret3;exact⟨s,c,n,rfl,HQ.o.1,HQ.o.2⟩
theorem ac5(w:tW)(hE:uS w)(ob im:tLB)(ho:eJ ob<=1000)(hp:∀q∈decsP [ob],uZ q)(hk:∀s e a,kg [ob] s e a->s=T im/\e=0)(g cap:Nat)(cs:tAV)(hb:au w g cs 9)(hg:cs[0]?=eK (eR (T ob))):fS prog 19 #[eS (eK ⟨g,0,eL⟩) 1 cap] w λr w'=>∃a:Int,r=fW (jl #[eR (T im),vI 0,vI a])/\aa af w w':=by
 have H:=aq (Wp w hE (eK ⟨g,0,eL⟩) cap [ob] (λ_=>⟨g,cs,rfl,hb,λk h=>by
  have:k=0:=by simp at h;omega
  subst this;exact hg⟩) (by simp[jz]) (λs hs=>by rw[List.mem_singleton.1 hs];unfold jz;omega) hp)
 have HK:=aq hk;clear hE hb hg hk hp;generalize T im=im at *;generalize kg [ob]=LQ at *;go_in;go_wp2_with fail;refine H.o.mono ?_;rintro e w1 ⟨s,c,a,rfl,hq,m⟩;obtain⟨rfl,rfl⟩:=HK.o s c a hq;have HM:=aq m;clear hq m H HK;go_wp2_with fail;go_ret3;exact⟨a,rfl,HM.o⟩
theorem Ye(w:tW)(hW:uS w)(hE:Env w)(hM:lY w)(t ob im:tLB)(ls:List fE)(hT:TxM t ls)(ho:eJ ob<=1000)(hi:eJ im<=1000)(hp:∀q∈decsP [ob],uZ q)(hA:∀s c n,zG t s c n->s=T ob/\c=0)(hk:∀s e a,kg [ob] s e a->s=T im/\e=0)(ms:List aB)(fs:List bz)(hD:gu im=(ms,fs,⟨[],fj⟩))(hz:Xv ms fs=fR)(w1:tW)(m:aa af w w1):fS prog 10 #[eS (eK ⟨w1.heap.size,0,eL⟩) 1 1] (w1.alloc (fL #[eR (T t)] 9)) λe w'=>∃sb,e=fW (pt sb)/\Xu w1 ms fs sb w':=by
 have m0:aa af w1 (w1.alloc (fL #[eR (T t)] 9)):=(aa.refl af w1).alloc _;refine Ta (w1.alloc (fL #[eR (T t)] 9)) (eK ⟨w1.heap.size,0,eL⟩) 1 [t] [ob] im rfl (by simp) (Xu w1 ms fs) (λ_=>⟨w1.heap.size,0,rfl,λk h=>?_⟩) (λw2 k h h' m2=>?_) (λw2 v hS=>?_) (λw2 m2=>?_)
 ·have:k=0:=by simp at h;omega
  subst this;exact(au.new w1 _ _).cell 0
 ·have:k=0:=by simp at h;omega
  subst this;have mm:=(m.trans m0).trans m2;exact(Ti w2 t (hW.ai mm) (hE.ai mm) (hM.ai mm) ls hT).mono λe w' ⟨s,c,n,h1,h2,h3⟩=>by obtain⟨rfl,rfl⟩:=hA _ _ _ h2;exact⟨⟨n,h1⟩,h3⟩
 ·obtain⟨o',cap',rfl,hv⟩:=hS.view;obtain⟨g,cs,rfl,hb,hcs,_⟩:=hv (by simp);exact(ac5 w2 (hW.ai ((m.trans m0).trans hS.md)) ob im ho hp hk g cap' cs hb (hcs 0 (by simp))).mono λe w' ⟨a,h1,h2⟩=>⟨⟨a,h1⟩,h2⟩
 ·refine(KM w2 (hW.ai ((m.trans m0).trans m2)) im (by unfold jz;omega) ms fs hD hz).mono λe w' ⟨sb,h1,h2⟩=>⟨sb,h1,?_⟩
  obtain⟨bs,b,vF,vM,gs,mb,tv,wT,hB,hl,hm,hT,hMC,hk⟩:=h2;have mq:=m0.trans m2;have:=mq.size;exact⟨bs,b,vF,vM,gs,mb,tv,wT,hB,Nat.le_trans this hl,mq.trans hm,mq.trans hT,hMC,λk hk'=>Nat.le_trans this (hk k hk')⟩
theorem aa7(w:tW)(hW:uS w)(hE:Env w)(hM:lY w)(w1:tW)(m:aa af w w1):fS prog 10 #[eS (eK ⟨w1.heap.size,0,eL⟩) 1 1] (w1.alloc (fL #[eR (T KU)] 9)) λe w'=>∃sb,e=fW (pt sb)/\Tg w1 sb w':=by refine(Ye w hW hE hM KU kpO kpI _ aeI Yd.2 Yd.1 aa5 (λ_ _ _ h=>acY h) (λ_ _ _ h=>aa4 h) [zS] jH ac4 (by decide +kernel) w1 m).mono (λe w' ⟨sb,h1,h2⟩=>⟨sb,h1,?_⟩);obtain⟨bs,b,vF,vM,gs,mb,tv,wT,hB,hl,hm,hT,hMC,hk⟩:=h2;exact⟨⟨sb,.int .u32 0,wT,tv,bs,b,vF,gs,OM vM mb 1⟩,rfl,⟨hB,hMC⟩,hk,hT,hm⟩
theorem Tj(w:tW)(hA:fS prog 7 #[] w λe w'=>e=fW (fX fR)/\aa af w w')(hW:uS w)(hE:Env w)(hM:lY w)(o:Option kh)(cap:Nat)(raw:List Int)(hr:∀x∈raw,-9223372036854775808<=x/\x<=9223372036854775807)(hn:eJ raw<=100000000000000)(hb:0<eJ raw->∃g off,o=eK ⟨g,off,eL⟩/\∀k (h:k<eJ raw),w.cell? ⟨g,off+k,eL⟩=eK (vI raw[k])):fS prog 4 #[eS o (eJ raw) cap] w λe w'=>e=fW (fX fR)/\aa af w w' :=
 Th w hA (aa7 w hW hE hM) aa6 (Ge (XY (by kernel_rfl))) (BN jH) o cap raw hr hn hb
set_option linter.all false
def awJ:tLB:=kJ 2 [] Ih
theorem aa8:gu awJ=([],Ih,⟨[],fj⟩):=by kernel_rfl
theorem O0:eJ awJ<=1000/\awO.length<=1000:=by decide +kernel
theorem Yf:lK Ih 0:=KL (by decide +kernel) (by decide +kernel)
theorem aa9:(pM Ih [] [] [102] ⟨#[]⟩ 9).1.trap=0/\(pM Ih [] [] [102] ⟨#[]⟩ 9).1.r0=42/\(pM Ih [] [] [102] ⟨#[]⟩ 9).1.used=3:=by decide +kernel
theorem O6:decsP [awO]=[([],Ih)]:=by kernel_rfl
theorem Yg:∀q∈decsP [awO],uZ q:=by rw[O6];intro q hq;rw[List.mem_singleton.1 hq];exact⟨by decide,by decide,by decide,by decide⟩
theorem aba:(mr [([],Ih)] [] Ih).1=0:=by kernel_rfl
theorem abb:kJ 2 (dz []) (Ih.map (bz.linked (TF (dz [])) (RM Ih)))=awJ:=by kernel_rfl
theorem Yh{s:tBA}{e a:Int}(h:kg [awO] s e a):s=T awJ/\e=0:=by
 unfold kg at h;rw[iN9 (by simp),O6,iN9 (by simp)]at h;obtain⟨ms,fs,pm,_,pf,sf,h⟩:=h;have e1:=List.perm_nil.1 (by simpa using pm);have pf':fs.Perm Ih:=by simpa using pf
 have e2:fs=Ih:=List.perm_singleton.1 pf';rw[e1,e2,aba,iN9 (by simp),abb]at h;exact⟨h.1,h.2.1⟩
theorem Yi:(aR (aj (sJ TJ)) (sJ TJ)).ms=[]/\(aR (aj (sJ TJ)) (sJ TJ)).fs=Ih:=⟨by kernel_rfl,by kernel_rfl⟩
theorem abd:EOk [] Ih:=by refine⟨by decide,by decide,by decide,λf hf=>?_⟩;rw[List.mem_singleton.1 hf];refine⟨by decide,by decide,λx hx=>?_⟩;simp only[al,ab,or_false]at hx;rcases hx with rfl|rfl|rfl<;>exact⟨by decide,by decide,by decide,by decide,by decide,by decide⟩
theorem ac6:TxM TJ (sJ TJ):=Yb (ms0:=[]) (fs0:=Ih) (by decide +kernel) (by kernel_rfl) (by kernel_rfl) (by decide +kernel) (by decide +kernel) (λms fs h1 h2 _=>by
  rw[Yi.1]at h1;rw[Yi.2]at h2;exact⟨List.perm_nil.1 h1,List.perm_singleton.1 h2⟩) abd (by decide +kernel) (by decide +kernel) (by decide +kernel)
theorem ac7(w:tW)(hW:uS w)(hE:Env w)(hM:lY w):fS prog 7 #[] w λe w'=>e=fW (fX fR)/\aa af w w':=by
 have m0:aa af w (w.alloc (fL #[eR (T TJ)] 9)):=(aa.refl af w).alloc _;have eW:=aq m0;have kV:=aq (Ye w hW hE hM TJ awO awJ _ ac6 O0.2 O0.1 Yg (λ_ _ _ h=>acM h) (λ_ _ _ h=>Yh h) [] Ih aa8 (by decide +kernel) w ax);have HT:ah ((⟨#[102,117,110,99,32,102,10,109,111,118,32,114,48,44,32,50,10,109,117,108,32,114,48,44,32,50,49,10,101,120,105,116]⟩:tBA)=T TJ):=rfl;clear hW hE hM m0;go_in;go_wp2_with fail;rw[HT.o];generalize w.alloc (fL #[eR (T TJ)] 9)=W1 at *;refine kV.o.mono ?_;rintro e w2 ⟨sb,rfl,hMd⟩;obtain⟨bs,b,vF,vM,gs,mb,tv,wT,hB,hl,hm,hT,hMC,hk⟩:=hMd
 have Nc:ah (fS prog 12 #[pt sb,eR ⟨#[102]⟩,eR ⟨#[]⟩,vI 9] w2 λe w'=>∃vL d:fa,∃f:tBA,∃sl:Nat,∃i:tBA,e=fW (.agg #[vI 0,eR f,vI sl,vU 42,eR i,vL,vI 3])/\(∃o n c,vL=eS o n c)/\aa af w w'):=by
  refine(KK hMC sb hB Yf (Ge (XY (by kernel_rfl))) (BN Ih) (by decide) [102] ⟨#[]⟩ (by decide) 9 (by decide)).mono ?_;rintro e w3 ⟨vL,a',rfl,hL,_,_,_,_,m3⟩;obtain⟨r1,r2,r3⟩:=aa9;have e0:kX []=[]:=rfl;rw[e0]at hL ⊢;obtain⟨oL,cL,hv,_⟩:=hL.view;generalize(pM Ih [] [] [102] ⟨#[]⟩ 9).1=R at *;refine⟨vL,undef,T R.fn,R.slot,strOf R.inp,?_,⟨_,_,_,hv⟩,(hm.step m3 (λk hk' e=>?_))⟩
  ·unfold kM;rw[r1,r2,r3];rfl
  ·have h2:=hk k (e.elim .inl (λh=>.inr (.inl h)));omega
 have HB:=aq hB;clear hB hl hm hT hMC hk kV eW HT;go_wp2_with fail;refine Nc.o.mono ?_;rintro e w3 ⟨vL,_,f,sl,i,rfl,⟨oL,nL,cL,rfl⟩,m3⟩;have dF:=aq m3;clear m3 Nc HB;go_wp2_with fail;go_ret;exact⟨rfl,dF.o.alloc _⟩
theorem ac8(w:tW)(hW:uS w)(hE:Env w)(hM:lY w)(o:Option kh)(cap:Nat)(raw:List Int)(hr:∀x∈raw,-9223372036854775808<=x/\x<=9223372036854775807)(hn:eJ raw<=100000000000000)(hb:0<eJ raw->∃g off,o=eK ⟨g,off,eL⟩/\∀k (h:k<eJ raw),w.cell? ⟨g,off+k,eL⟩=eK (vI raw[k])):fS prog 4 #[eS o (eJ raw) cap] w λe w'=>e=fW (fX fR)/\aa af w w':=Tj w (ac7 w hW hE hM) hW hE hM o cap raw hr hn hb
