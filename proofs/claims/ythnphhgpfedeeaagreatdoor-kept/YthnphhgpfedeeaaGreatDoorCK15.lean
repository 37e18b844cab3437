import Derived.Test.YthnphhgpfedeeaaGreatDoorCK12
import Derived.Lib.AppendZerosOnto
namespace Go.Proofs.YthnphhgpfedeeaaGreatDoor
open Go.RowKit Tryz
open Int renaming cast_ofNat_Int->ao
open List renaming take_succ_eq_append_getElem->ab,not_mem_nil->al,mem_cons->ar,flatMap_append->ba,getElem_mem->bj,flatMap_cons->bt,length_append->b5,nodup_append->b9,drop_eq_getElem_cons->cj,take_of_length_le->cq,getElem_of_mem->cw,append_assoc->cy,length_cons->cG,take_length->cH,flatMap_nil->cI,length->eJ
open Nat renaming zero_le->bh,zero_add->cx,le_refl->cD
open Bool renaming true->fR,false->fj
open Ending renaming returned->fW
open Obj renaming cells->fL
open Option renaming some->eK,none->eL
open Value renaming agg->fY,slice->eS,bool->fX,func->fN,string->eR,tuple->jl
open _root_.Go renaming maxLen->jz,Value->fa,Calls->fS,info_parts->oY,wpQuiet_nil->mS,grownCap->pS,TypeId->ju,undef->kO,Oper->iz
set_option linter.all false
set_option maxRecDepth 100000
set_option maxHeartbeats 2000000
def I9(k:Nat):List fO:={gU 64 [106,97] [.label]with ends:=fR}::(pU.zipIdx.take k).flatMap λx=>Gi x.2 x.1
theorem UD(k:Nat)(h:k<11):I9 (k+1)=I9 k++Gi k (pU[k]'h):=by
 have:∀k:Fin 11,I9 (k.1+1)=I9 k.1++Gi k.1 (pU[k.1]'k.2):=by intro k;unfold I9;rw[ab (by simp;exact k.2),ba];simp;rfl
 exact this ⟨k,h⟩
theorem Ce(k:Nat)(h:k<=11):eJ (I9 k)=2*k+1:=by
 have:∀k:Fin 12,eJ (I9 k.1)=2*k.1+1:=by decide +kernel
 exact this ⟨k,by omega⟩
theorem aby(xy:List JV)(hl:eJ xy=11)(k:Nat)(hk:k<11)(w:tW):(Instr.index 221 (fY (juC xy).toArray) (vI k)).run prog w=.ok (fY (JV.cells (pU[k]'hk) (xy[k]'(by omega))).toArray) w:=by
 match xy,hl with
 |[a0,a1,a2,a3,a4,a5,a6,a7,a8,a9,a10],_ =>
  have:k=0\/k=1\/k=2\/k=3\/k=4\/k=5\/k=6\/k=7\/k=8\/k=9\/k=10:=by omega
  rcases this with rfl|rfl|rfl|rfl|rfl|rfl|rfl|rfl|rfl|rfl|rfl<;>rfl
theorem Lm(k:Nat)(h:k<11):(T (pU[k]'h)).size<=90:=by
 have:∀k:Fin 11,(T (pU[k.1]'k.2)).size<=90:=by decide +kernel
 exact this ⟨k,h⟩
theorem aM.fresh{base:Nat}{w:tW}(cs:tLN)(os:List fO)(hlen:eJ cs=eJ os)(hc:cs.Pairwise (·<·))(hlo:∀c∈cs,base<=c)(hat:∀i (h:i<eJ cs) (h':i<eJ os),dO w cs[i] os[i])(arr:tAV)(ha:arr.toList=cs.map gH)(n:Nat) (hn:eJ cs=n) (agm:n<=100) (hb:base<=w.heap.size):aM base (w.alloc (fL arr 135)) (eS (eK ⟨w.heap.size,0,eL⟩) n n) cs os:=by
 subst hn;refine⟨hlen,hc.imp (λh=>Nat.ne_of_lt h),?_,λi h h'=>(hat i h h').ai aw,hlo,λk hk=>?_⟩
 ·refine Yn.sl ⟨cD _,by unfold jz;omega,?_,?_,by simp⟩ (au.new w arr 135)
  ·rw[<-Array.length_toList,ha];simp
  ·rw[ha,cq (by simp)]
 ·cases hk;exact hb
def fO.asJ(o:fO):fO:={o with jumps:=fR}
def qb(os:List fO)(k:Nat):List fO:=(os.take k).map fO.asJ++os.drop k
theorem Lp(os:List fO):qb os 0=os:=by simp[qb]
theorem PT(os:List fO):qb os (eJ os)=os.map fO.asJ:=by simp[qb]
theorem wm(os:List fO)(k:Nat):eJ (qb os k)=eJ os:=by simp[qb];omega
theorem Lr(os:List fO)(k:Nat)(h:k<eJ os):qb os (k+1)=(qb os k).set k os[k].asJ:=by
 unfold qb;rw[ab h,cj h,List.map_append];have hl:eJ ((os.take k).map fO.asJ)=k:=by simp;omega
 rw[List.set_append,iN9 (by omega),hl,Nat.sub_self,cy];rfl
theorem UE(os:List fO)(k:Nat)(h:k<eJ os):(qb os k)[k]'(by rw[wm];exact h)=os[k]:=by
 have hl:eJ ((os.take k).map fO.asJ)=k:=by simp;omega
 have:(qb os k)[k]?=eK os[k]:=by unfold qb;rw[List.getElem?_append_right (by omega),hl,Nat.sub_self,List.getElem?_drop];simp[h]
 rw[List.getElem?_eq_getElem (by rw[wm];exact h)]at this;exact Option.some.inj this
theorem aM.afg{base:Nat}{w:tW}{v:fa}{bs:tLN}{os:List fO}(h:aM base w v bs os)(k:Nat)(hk:k<eJ bs)(hk':k<eJ os):aM base (w.setCell ⟨bs[k],3,eL⟩ (fX fR)) v bs (os.set k os[k].asJ):=by
 have hO:=h.at' k hk hk';have hsl:Sl (w.setCell ⟨bs[k],3,eL⟩ (fX fR)) 135 1 v (eJ bs) (bs.map gH):=by refine h.sl.ai ((aa.refl (Only bs[k]) w).bA 3 _) (λj hj e=>?_);rw[show j=bs[k]from e]at hj;exact hO.Li h.sl hj
 refine⟨by simp[h.len],h.nd,hsl,λi h1 h2=>?_,h.lo,h.own⟩;by_cases e:i=k
 ·subst e;rw[List.getElem_set_self];exact hO.jumps
 ·rw[List.getElem_set_ne (Ne.symm e)];exact(h.at' i h1 (by simpa using h2)).other hO.yV (λe2=>e (((List.getElem_inj h.nd).1 e2).symm)) 3 _
def Ja(w:tW)(xy:List JV):Prop:=∀k (_:k<11) (h:k<eJ xy),px w xy[k].f1 xy[k].c1 (jmM k) (jmK k)
theorem Ja.kp{w w':tW}{xy:List JV}(h:Ja w xy)(m:Kp w w'):Ja w' xy:=λk a b=>(h k a b).blk m.PL
theorem Ja.ai{w w':tW}{xy:List JV}(h:Ja w xy)(m:aa af w w'):Ja w' xy:=h.kp m.kp
theorem Jb(w:tW):fS prog 65 #[] w λe w'=>∃v bs,e=fW v/\aM w.heap.size w' v bs NG/\aa af w w':=by
 obtain⟨iP,hiP,sP,hsP,xz⟩:=oY uy;go_in;go_wp2_with fail;refine(lX _).mono ?_;rintro e aw0 ⟨⟨qM,qN,qO,qP,qQ,qR⟩,rfl,Uw,Ux⟩;go_wp2_with fail;refine(gi _).mono ?_;rintro e aw1 ⟨⟨qU,qV,qW,qX,qY,qZ⟩,rfl,Uy,Lj⟩;go_wp2_with fail;refine(ow _).mono ?_;rintro e Ll ⟨⟨ra,rj,rq,ru,ry,rz⟩,rfl,Uz,Gq⟩;go_wp2_with fail;refine(gi _).mono ?_;rintro e aw3 ⟨⟨Gs,Gt,Gu,Gv,Gw,Gx⟩,rfl,ak3,UF⟩;go_wp2_with fail;refine(xS _).mono ?_;rintro e aw4 ⟨⟨Gy,Gz,GA,GD,GG,GH⟩,rfl,ak4,PU⟩
 have UA:ah (PartsAt (aw4.alloc (fL #[vI 1,fN qM #[] qN,fN (.func qO) #[] qP,fN (.func qQ) #[] qR,vI 0,fN qU #[] qV,fN (.func qW) #[] qX,fN (.func qY) #[] qZ,vI 2,fN ra #[] rj,fN (.func rq) #[] ru,fN (.func ry) #[] rz,vI 0,fN Gs #[] Gt,fN (.func Gu) #[] Gv,fN (.func Gw) #[] Gx,vI 4,fN Gy #[] Gz,fN (.func GA) #[] GD,fN (.func GG) #[] GH] 205)) (eS (eK ⟨aw4.heap.size,0,eL⟩) 5 5) uh):=PartsAt.new aw4 [(.operand,⟨qM,qN,qO,qP,qQ,qR⟩),(.comma,⟨qU,qV,qW,qX,qY,qZ⟩),(.source,⟨ra,rj,rq,ru,ry,rz⟩),(.comma,⟨Gs,Gt,Gu,Gv,Gw,Gx⟩),(.label,⟨Gy,Gz,GA,GD,GG,GH⟩)] (by
  simp only[ar,al,or_false];rintro x (rfl|rfl|rfl|rfl|rfl)
  ·exact((((Uw.ai Lj).ai Gq).ai UF).ai PU)
  ·exact(((Uy.ai Gq).ai UF).ai PU)
  ·exact((Uz.ai UF).ai PU)
  ·exact(ak3.ai PU)
  ·exact ak4) _ rfl 5 rfl (by decide)
 have Tp:ah (aa af w (aw4.alloc (fL #[vI 1,fN qM #[] qN,fN (.func qO) #[] qP,fN (.func qQ) #[] qR,vI 0,fN qU #[] qV,fN (.func qW) #[] qX,fN (.func qY) #[] qZ,vI 2,fN ra #[] rj,fN (.func rq) #[] ru,fN (.func ry) #[] rz,vI 0,fN Gs #[] Gt,fN (.func Gu) #[] Gv,fN (.func Gw) #[] Gx,vI 4,fN Gy #[] Gz,fN (.func GA) #[] GD,fN (.func GG) #[] GH] 205))):=((((((aa.refl af w).trans Ux).trans Lj).trans Gq).trans UF).trans PU).alloc _;clear Uw Ux Uy Lj Uz Gq ak3 UF ak4 PU;simp only[PV.cells,PK.fills,ao];go_wp2_with fail;generalize aw4.alloc (fL #[vI 1,fN qM #[] qN,fN (.func qO) #[] qP,fN (.func qQ) #[] qR,vI 0,fN qU #[] qV,fN (.func qW) #[] qX,fN (.func qY) #[] qZ,vI 2,fN ra #[] rj,fN (.func rq) #[] ru,fN (.func ry) #[] rz,vI 0,fN Gs #[] Gt,fN (.func Gu) #[] Gv,fN (.func Gw) #[] Gx,vI 4,fN Gy #[] Gz,fN (.func GA) #[] GD,fN (.func GG) #[] GH] 205)=W1 at *;generalize aw4.heap.size=g1 at *;refine(lX _).mono ?_;rintro e bw0 ⟨⟨uA,uB,uC,uD,uE,uF⟩,rfl,bk0,UB⟩;go_wp2_with fail;refine(gi _).mono ?_;rintro e bw1 ⟨⟨uG,uH,uI,uJ,uK,uL⟩,rfl,bk1,NN⟩;go_wp2_with fail;refine(uu _).mono ?_;rintro e Zg ⟨⟨uM,uN,uO,uP,uQ,uR⟩,rfl,bk2,I1⟩;go_wp2_with fail;refine(gi _).mono ?_;rintro e bw3 ⟨⟨CA,CB,CD,CE,CF,CG⟩,rfl,bk3,PW⟩;go_wp2_with fail;refine(xS _).mono ?_;rintro e bw4 ⟨⟨CJ,CK,CL,CO,CP,CQ⟩,rfl,bk4,Ls⟩
 have bHP:ah (PartsAt (bw4.alloc (fL #[vI 1,fN uA #[] uB,fN (.func uC) #[] uD,fN (.func uE) #[] uF,vI 0,fN uG #[] uH,fN (.func uI) #[] uJ,fN (.func uK) #[] uL,vI 8,fN uM #[] uN,fN (.func uO) #[] uP,fN (.func uQ) #[] uR,vI 0,fN CA #[] CB,fN (.func CD) #[] CE,fN (.func CF) #[] CG,vI 4,fN CJ #[] CK,fN (.func CL) #[] CO,fN (.func CP) #[] CQ] 205)) (eS (eK ⟨bw4.heap.size,0,eL⟩) 5 5) xq):=PartsAt.new bw4 [(.operand,⟨uA,uB,uC,uD,uE,uF⟩),(.comma,⟨uG,uH,uI,uJ,uK,uL⟩),(.number,⟨uM,uN,uO,uP,uQ,uR⟩),(.comma,⟨CA,CB,CD,CE,CF,CG⟩),(.label,⟨CJ,CK,CL,CO,CP,CQ⟩)] (by
  simp only[ar,al,or_false];rintro x (rfl|rfl|rfl|rfl|rfl)
  ·exact((((bk0.ai NN).ai I1).ai PW).ai Ls)
  ·exact(((bk1.ai I1).ai PW).ai Ls)
  ·exact((bk2.ai PW).ai Ls)
  ·exact(bk3.ai Ls)
  ·exact bk4) _ rfl 5 rfl (by decide)
 have bHM:=aq ((((((Tp.o.trans UB).trans NN).trans I1).trans PW).trans Ls).alloc (fL #[vI 1,fN uA #[] uB,fN (.func uC) #[] uD,fN (.func uE) #[] uF,vI 0,fN uG #[] uH,fN (.func uI) #[] uJ,fN (.func uK) #[] uL,vI 8,fN uM #[] uN,fN (.func uO) #[] uP,fN (.func uQ) #[] uR,vI 0,fN CA #[] CB,fN (.func CD) #[] CE,fN (.func CF) #[] CG,vI 4,fN CJ #[] CK,fN (.func CL) #[] CO,fN (.func CP) #[] CQ] 205));have I4:ah (PartsAt (bw4.alloc (fL #[vI 1,fN uA #[] uB,fN (.func uC) #[] uD,fN (.func uE) #[] uF,vI 0,fN uG #[] uH,fN (.func uI) #[] uJ,fN (.func uK) #[] uL,vI 8,fN uM #[] uN,fN (.func uO) #[] uP,fN (.func uQ) #[] uR,vI 0,fN CA #[] CB,fN (.func CD) #[] CE,fN (.func CF) #[] CG,vI 4,fN CJ #[] CK,fN (.func CL) #[] CO,fN (.func CP) #[] CQ] 205)) (eS (eK ⟨g1,0,eL⟩) 5 5) uh):=UA.o.ai (((((((aa.refl af _).trans UB).trans NN).trans I1).trans PW).trans Ls).alloc _);clear UA bk0 UB bk1 NN bk2 I1 bk3 PW bk4 Ls;simp only[PV.cells,PK.fills,ao];clear Tp;go_wp2_with fail;generalize bw4.alloc (fL #[vI 1,fN uA #[] uB,fN (.func uC) #[] uD,fN (.func uE) #[] uF,vI 0,fN uG #[] uH,fN (.func uI) #[] uJ,fN (.func uK) #[] uL,vI 8,fN uM #[] uN,fN (.func uO) #[] uP,fN (.func uQ) #[] uR,vI 0,fN CA #[] CB,fN (.func CD) #[] CE,fN (.func CF) #[] CG,vI 4,fN CJ #[] CK,fN (.func CL) #[] CO,fN (.func CP) #[] CQ] 205)=W2 at *;generalize bw4.heap.size=g2 at *;refine(xS _).mono ?_;rintro e Zi ⟨⟨Aa,Ab,Ac,Ae,Af,Ag⟩,rfl,ck0,Zj⟩;have cHP:ah (PartsAt (Zi.alloc (fL #[vI 4,fN Aa #[] Ab,fN (.func Ac) #[] Ae,fN (.func Af) #[] Ag] 205)) (eS (eK ⟨Zi.heap.size,0,eL⟩) 1 1) [.label]):=PartsAt.new Zi [(.label,⟨Aa,Ab,Ac,Ae,Af,Ag⟩)] (by simp only[ar,al,or_false];rintro x rfl;exact ck0) _ rfl 1 rfl (by decide);have Zk:=aq ((bHM.o.trans Zj).alloc (fL #[vI 4,fN Aa #[] Ab,fN (.func Ac) #[] Ae,fN (.func Af) #[] Ag] 205));have Fq:ah (PartsAt (Zi.alloc (fL #[vI 4,fN Aa #[] Ab,fN (.func Ac) #[] Ae,fN (.func Af) #[] Ag] 205)) (eS (eK ⟨g1,0,eL⟩) 5 5) uh):=I4.o.ai (((aa.refl af _).trans Zj).alloc _);have PX:ah (PartsAt (Zi.alloc (fL #[vI 4,fN Aa #[] Ab,fN (.func Ac) #[] Ae,fN (.func Af) #[] Ag] 205)) (eS (eK ⟨g2,0,eL⟩) 5 5) xq):=bHP.o.ai (((aa.refl af _).trans Zj).alloc _);clear I4 bHP ck0 Zj;simp only[PV.cells,PK.fills,ao];clear bHM;go_wp2_with fail;generalize Zi.alloc (fL #[vI 4,fN Aa #[] Ab,fN (.func Ac) #[] Ae,fN (.func Af) #[] Ag] 205)=W3 at *;generalize Zi.heap.size=g3 at *;refine(jR _ _ 64 rfl _ [106,97] rfl _ [.label] _ _ cHP.o (by decide) (by decide) _ rfl ⟨rfl,rfl⟩).mono ?_;rintro e w4 ⟨b4,rfl,h4,l4,m4⟩;have h4e:=h4.ends;have hs4:aa af w (w4.setCell ⟨b4,4,eL⟩ (fX fR)):=(Zk.o.trans m4).set (.inr (by have:=Zk.o.size;simp only;omega)) _;have um:ah (PartsAt (w4.setCell ⟨b4,4,eL⟩ (fX fR)) (eS (eK ⟨g1,0,eL⟩) 5 5) uh):=(Fq.o.ai m4).kp (Kp.set h4.yV 4 _);have lU:ah (PartsAt (w4.setCell ⟨b4,4,eL⟩ (fX fR)) (eS (eK ⟨g2,0,eL⟩) 5 5) xq):=(PX.o.ai m4).kp (Kp.set h4.yV 4 _);have H4:=aq h4e;have HM:=aq hs4;obtain⟨o1,n1,c1,f6,c6,k7,c7,k8,c8,f9,c9,hblk,_⟩:=h4.ex;have z4:=hblk.cell 4;have fz4:=hblk.frozen 4;simp at z4;have NQ:ah (w.heap.size<=b4):=by have:=Zk.o.size;exact(by omega:w.heap.size<=b4)
 clear hblk h4 h4e hs4 Fq PX cHP Zk m4 l4;have HZ:ah ((w4.setCell ⟨b4,4,eL⟩ (fX fR)).heap.size=w4.heap.size):=by simp[ah,World.setCell]
 go_wp2_with fail;generalize w4.setCell ⟨b4,4,eL⟩ (fX fR)=W4 at *
 have Yo:ah (aM w.heap.size (W4.alloc (fL #[vP b4] 135)) (eS (eK ⟨w4.heap.size,0,eL⟩) 1 1) [b4] (I9 0)):=by
  rw[ah,<-HZ.o]
  exact aM.fresh [b4] (I9 0) rfl (by simp) (by have:=NQ.o;simpa using this) (λi h h'=>by
   have:i=0:=by simp at h;omega
   subst this;exact H4.o) _ rfl 1 rfl (by decide) HM.o.size
 have adm:ah (PartsAt (W4.alloc (fL #[vP b4] 135)) (eS (eK ⟨g1,0,eL⟩) 5 5) uh):=um.o.ai aw;have adn:ah (PartsAt (W4.alloc (fL #[vP b4] 135)) (eS (eK ⟨g2,0,eL⟩) 5 5) xq):=lU.o.ai aw;have jo:=aq (HM.o.alloc (fL #[vP b4] 135));clear um lU H4 HM NQ z4 fz4;generalize W4.alloc (fL #[vP b4] 135)=W5 at *;clear HZ;generalize w4.heap.size=g5 at *;refine(PQ _).mono ?_;rintro e w7 ⟨xy,hlen,rfl,m7,hjr⟩;have Tq:=aq hjr;clear hjr;have HI:ah (∀(k:Nat) (hk:k<11) (W:tW),(Instr.index 221 (fY (juC xy).toArray) (vI k)).run prog W=.ok (fY (JV.cells (pU[k]'hk) (xy[k]'(by omega))).toArray) W):=λk hk W=>aby xy hlen k hk W;have um:=aq (adm.o.ai m7);have lU:=aq (adn.o.ai m7);have HO7:=aq (Yo.o.ai m7);have HM:=aq (jo.o.trans m7);clear adm adn Yo jo m7;generalize(juC xy).toArray=AC at *;go_upto_block 0 with fail;go_cut [4] (λo wl=>∃bs,aM w.heap.size wl o bs (I9 11)/\aa af w wl)
 case first =>
  go_wp2_with fail;go_loopw [4,31] (λo i wl=>∃(k:Nat) (bs:tLN),k<=11/\i=vI k/\aM w.heap.size wl o bs (I9 k)/\PartsAt wl (eS (eK ⟨g1,0,eL⟩) 5 5) uh/\PartsAt wl (eS (eK ⟨g2,0,eL⟩) 5 5) xq/\aa af w wl/\Ja wl xy) (λ_ i _=>11-(intOf i).toNat)
  case atStart=>exact⟨0,[b4],by omega,rfl,HO7.o,um.o,lU.o,HM.o,Tq.o⟩
  case round =>
   obtain⟨k,bs,hk,rfl,hO,hP1,hP2,hM,hAr⟩:=hrel;clear um lU HM HO7 Tq;have Tq:=aq hAr;clear hAr;by_cases hlt:k<11
   ·have hidx:=HI.o k hlt;have HST:ah (I9 (k+1)=I9 k++[gU (65+k) (pU[k]) uh,gU (97+k) (pU[k]) xq]):=UD k hlt;have HW:=aq (Lm k hlt);have NK:=Tq.o k hlt (by omega);have Ir:=aq (YW k hlt);generalize pU[k]=wd at *;generalize xy[k]=jv at *;obtain⟨f1,c1⟩:=jv;have wj:=aq NK;clear NK;simp only[JV.cells]at hidx;have HO:ah _:=hO;have um:ah _:=hP1;have lU:ah _:=hP2;have HM:ah _:=hM;clear hO hP1 hP2 hM;have hwd:=HW.o;have HL:ah (eJ bs<=100):=by have:=HO.o.len;rw[Ce k (by omega)]at this;exact(by omega:eJ bs<=100)
    go_upto_region 10 with fail;have hA:=au.new wr #[eR (T wd),fN f1 #[] c1] 220;have HNo:ah (u4.ownBlock≠eK wr.heap.size):=λe=>by have:=HO.o.sl.lt _ e;simp at this
    have q0:∀g:Ext (λk=>u4.ownBlock=eK k) (wr.alloc (fL #[eR (T wd),fN f1 #[] c1] 220)),g.w.cell? ⟨wr.heap.size,0,eL⟩=eK (eR (T wd)):=λg=>g.cell hA HNo.o 0;have q1:∀g:Ext (λk=>u4.ownBlock=eK k) (wr.alloc (fL #[eR (T wd),fN f1 #[] c1] 220)),g.w.cell? ⟨wr.heap.size,1,eL⟩=eK (fN f1 #[] c1):=λg=>g.cell hA HNo.o 1;have ne1:=Ext.ne (λk=>u4.ownBlock=eK k) (wr.alloc (fL #[eR (T wd),fN f1 #[] c1] 220));refine bQ [7,8,16,17,18,19] (λw'=>∃g:Ext (λk=>u4.ownBlock=eK k) (wr.alloc (fL #[eR (T wd),fN f1 #[] c1] 220)),w'=g.w) (by kernel_rfl) (by kernel_rfl) (by kernel_rfl) ⟨⟨_,aN⟩,rfl⟩ ?_;have X0:ah (aa af wr (wr.alloc (fL #[eR (T wd),fN f1 #[] c1] 220)).drew):=aw.drew;have Y0:ah (aa af (wr.alloc (fL #[eR (T wd),fN f1 #[] c1] 220)) (wr.alloc (fL #[eR (T wd),fN f1 #[] c1] 220)).drew):=aN
    iterate 7 (refine aG rfl rfl rfl ?_;intro K hK;go_big_quiet_op;go_big_quiet_on)
    refine aH rfl rfl ?_;intro K hK;go_big_op;refine(Cx _ _ _ _ _ fR (wj.o.ai X0.o)).mono ?_;rintro e v0 ⟨fb0,cb0,rfl,I5,hd0⟩;have HD0:=aq hd0;clear hd0;have X1:=aq (X0.o.trans I5);have Y1:=aq (Y0.o.trans I5);refine hK _ _ rfl ⟨⟨_,Y1.o.mono (λ_ _ h=>h.elim)⟩,rfl⟩ ?_;have MB0:ah _:=I5;clear hK K I5;refine aH rfl rfl ?_;intro K hK;go_big_op;refine(jR _ _ (65+k) (by omega) _ wd rfl _ uh _ _ (um.o.ai X1.o) (by have:=HW.o;rw[di]at this;omega) (by decide) _ Ir.o.1 HD0.o).mono ?_;rintro e r0 ⟨b0,rfl,hr0,hb0,I6⟩;have X2:=aq (X1.o.trans I6);have Y2:=aq (Y1.o.trans I6);have gq:ah _:=hr0;have MR0:ah _:=I6;have HB0:=aq hb0;refine hK _ _ rfl ⟨⟨_,Y2.o.mono (λ_ _ h=>h.elim)⟩,rfl⟩ ?_;clear hK K hr0 hb0 I6
    iterate 7 (refine aG rfl rfl rfl ?_;intro K hK;go_big_quiet_op;go_big_quiet_on)
    refine aH rfl rfl ?_;intro K hK;go_big_op;refine(Cx _ _ _ _ _ fj (wj.o.ai X2.o)).mono ?_;rintro e v1 ⟨fb1,cb1,rfl,I7,hd1⟩;have HD1:=aq hd1;clear hd1;have X3:=aq (X2.o.trans I7);have Y3:=aq (Y2.o.trans I7);refine hK _ _ rfl ⟨⟨_,Y3.o.mono (λ_ _ h=>h.elim)⟩,rfl⟩ ?_;have UC:ah _:=I7;clear hK K I7;refine aH rfl rfl ?_;intro K hK;go_big_op;refine(jR _ _ (97+k) (by omega) _ wd rfl _ xq _ _ (lU.o.ai X3.o) (by have:=HW.o;rw[di]at this;omega) (by decide) _ Ir.o.2 HD1.o).mono ?_;rintro e r1 ⟨b1,rfl,hr1,hb1,I8⟩;have X4:=aq (X3.o.trans I8);have Y4:=aq (Y3.o.trans I8);have yT:ah _:=hr1;have MR1:ah _:=I8;have HB1:=aq hb1;refine hK _ _ rfl ⟨⟨_,Y4.o.mono (λ_ _ h=>h.elim)⟩,rfl⟩ ?_;clear hK K hr1 hb1 I8;refine aH rfl rfl ?_;intro K hK;go_big_op;refine hK _ _ rfl ⟨⟨_,(Y4.o.alloc _).mono (λ_ _ h=>h.elim)⟩,rfl⟩ ?_;clear hK K;refine aH rfl rfl ?_;intro K hK;refine fq _ (.tmp 38) (.tmp 56) 93 rfl 135 iP (vO) 1 8 underlying93 hiP sP hsP xz rfl (by decide) u4 (eJ bs) (bs.map gH) rfl (HO.o.ai (X4.o.alloc _)).sl ⟨r1.heap.size,0,eL⟩ 2 2 [gH b0,gH b1] rfl rfl (bH _ _ _ _ rfl) (uz [b0,b1]) (by have:=HL.o;unfold jz;omega) (by have:=HL.o;omega) ?_;intro vA wA sA mA lA;obtain⟨oA,cA,rfl,_⟩:=Sl.view sA;refine hK _ _ rfl ⟨⟨_,((Y4.o.alloc _).mono (λ_ _ h=>h.elim)).step mA (λ_ _ h=>h)⟩,rfl⟩ ?_;clear hK K;simp only[Act.put,sA9,sB9,sC9]
    iterate 1 (refine aG rfl rfl rfl ?_;intro K hK;go_big_quiet_op;go_big_quiet_on)
    refine bZ ?_;have H01:b0<b1:=by have:=gq.o.lt;have:=UC.o.size;have:=HB1.o;omega
    have H0:wr.heap.size<=b0:=by have:=HB0.o;have:=X1.o.size;omega
    have HG:ah (aM w.heap.size wA (eS oA (eJ bs+2) cA) (bs++[b0,b1]) (I9 k++[gU (65+k) wd uh,gU (97+k) wd xq])) :=
     aM.grow [b0,b1] _ HO.o (X4.o.alloc _) rfl (by simp;omega) (by simp;omega) (λi h h'=>by
      have hi:i=0\/i=1:=by simp at h;omega
      rcases hi with rfl|rfl
      ·exact((gq.o.ai UC.o).ai MR1.o).ai aw
      ·exact yT.o.ai aw) sA mA lA HM.o.size
    simp only[Exit.inBlock,Exit.then];have Gr:=aq ((HM.o.trans (X4.o.alloc _)).step mA (λi hi h=>by have:=HO.o.own i h;omega));have HQ1:=aq ((um.o.ai (X4.o.alloc _)).kp (aa.Gm (HO.o.ai (X4.o.alloc _)).sl mA));have Zh:=aq ((lU.o.ai (X4.o.alloc _)).kp (aa.Gm (HO.o.ai (X4.o.alloc _)).sl mA));have HQ3:=aq ((Tq.o.ai (X4.o.alloc _)).kp (aa.Gm (HO.o.ai (X4.o.alloc _)).sl mA));rw[<-HST.o]at HG;clear q0 q1 ne1 hA hidx H01 H0;go_wp2_with fail;go_roundw
    case rel=>exact⟨k+1,_,by omega,by go_num,HG.o,HQ1.o,Zh.o,Gr.o,HQ3.o⟩
    case measure=>simp[intOf];omega
   ·obtain rfl:k=11:=by omega
    go_wp2_with fail;go_meet;exact⟨bs,hO,hM⟩
 case rest =>
 obtain⟨bs,hO,hM⟩:=hcut;have hlen':=hO.len;rw[Ce 11 (by omega)]at hlen';have HO:=aq hO;have HM:=aq hM;obtain⟨oV,cV,hv,_⟩:=hO.sl.view;subst hv;clear hO hM um lU HO7 Tq;go_wp2_with fail;go_loopw [61] (λi wl=>∃(k:Nat),k<=eJ bs/\i=vI k/\aM w.heap.size wl (eS oV (eJ bs) cV) bs (qb (I9 11) k)/\aa af w wl) (λi _=>eJ bs-(intOf i).toNat)
 case atStart=>exact⟨0,by omega,rfl,by rw[Lp];exact HO.o,HM.o⟩
 case round =>
  obtain⟨k,hk,rfl,hO,hM⟩:=hrel;clear HO HM;by_cases hlt:k<eJ bs
  ·obtain⟨g,rfl,cs⟩:=hO.sl.at rfl k hlt;have ck:=cs k hlt;have e1:(bs.map gH)[k]?=eK (vP (bs[k])):=by simp[hlt,gH]
   rw[e1]at ck;have hk':k<eJ (I9 11):=by rw[Ce 11 (by omega)];omega
   have hat:=hO.at' k hlt (by rw[wm];exact hk');obtain⟨o1,n1,c1,f6,c6,k7,c7,k8,c8,f9,c9,hblk,_⟩:=hat.ex;have z3:=hblk.cell 3;have fz3:=hblk.frozen 3;simp at z3;have hset:=hO.afg k hlt (by rw[wm];exact hk');rw[UE _ _ hk',<-Lr _ _ hk']at hset;have HS:ah _:=hset;have HMs:ah (aa af w (wr.setCell ⟨bs[k],3,eL⟩ (fX fR))):=hM.set (.inr (hO.lo _ (bj hlt))) _;clear hset hat hblk hO hM cs e1;generalize bs[k]=bk at *;go_wp2_with fail;go_roundw
   case rel=>exact⟨k+1,by omega,by go_num,HS.o,HMs.o⟩
   case measure=>simp[intOf];omega
  ·obtain rfl:k=eJ bs:=by omega
   have HS:ah (aM w.heap.size wr (eS oV (eJ bs) cV) bs NG):=by
    have h:=hO;have e:eJ bs=eJ (I9 11):=by rw[Ce 11 (by omega)];omega
    rw[e,PT]at h;rw[e];exact h
   have HMs:ah _:=hM;clear hO hM;go_wp2_with fail;go_ret;exact⟨_,_,rfl,HS.o,HMs.o⟩
structure uS(w:tW):Prop where
 c0:w.cell? ⟨0,0,eL⟩=eK (eR (T [49]))
 c1:w.cell? ⟨0,1,eL⟩=eK (eR (T [50]))
 c2:w.cell? ⟨0,2,eL⟩=eK (eR (T [52]))
 c3:w.cell? ⟨0,3,eL⟩=eK (eR (T [56]))
theorem qc{w w':tW}(m:aa af w w'){b i:Nat}{v:fa}(h:w.cell? ⟨b,i,eL⟩=eK v):w'.cell? ⟨b,i,eL⟩=eK v:=by
 have hb:b<w.heap.size:=by refine Classical.byContradiction λhn=>?_;simp[World.cell?,Array.getElem?_eq_none (Nat.le_of_not_lt hn)]at h
 have e:=m.block b hb id;simp only[World.cell?]at h ⊢;rw[e];exact h
theorem uS.ai{w w':tW}(h:uS w)(m:aa af w w'):uS w':=⟨qc m h.c0,qc m h.c1,qc m h.c2,qc m h.c3⟩
def Tt(k:Nat):List fO:=(pW.zipIdx.take k).flatMap λx=>NH x.2 x.1
theorem UG(k:Nat)(h:k<4):Tt (k+1)=Tt k++NH k (pW[k]'h):=by
 have:∀k:Fin 4,Tt (k.1+1)=Tt k.1++NH k.1 (pW[k.1]'k.2):=by intro k;unfold Tt;rw[ab (by simp;exact k.2),ba];simp;rfl
 exact this ⟨k,h⟩
theorem Zl(k:Nat)(h:k<=4):eJ (Tt k)=3*k:=by
 have:∀k:Fin 5,eJ (Tt k.1)=3*k.1:=by decide +kernel
 exact this ⟨k,by omega⟩
theorem UH(k:Nat)(hk:k<4)(w:tW):(Instr.index 224 (fY #[eR (T [49]),eR (T [50]),eR (T [52]),eR (T [56])]) (vI k)).run prog w=.ok (eR (T (pW[k]'hk))) w:=by
 have:k=0\/k=1\/k=2\/k=3:=by omega
 rcases this with rfl|rfl|rfl|rfl<;>rfl
theorem Lt(k:Nat)(h:k<4):(T (pW[k]'h)).size<=90:=by
 have:∀k:Fin 4,(T (pW[k.1]'k.2)).size<=90:=by decide +kernel
 exact this ⟨k,h⟩
theorem Lu(w:tW)(hE:uS w):fS prog 66 #[] w λe w'=>∃v bs,e=fW v/\aM w.heap.size w' v bs abu/\aa af w w':=by
 obtain⟨iP,hiP,sP,hsP,xz⟩:=oY uy;have HE:=aq hE;clear hE;go_in;go_wp2_with fail;refine(lg _).mono ?_;rintro e aw0 ⟨⟨qM,qN,qO,qP,qQ,qR⟩,rfl,Uw,Ux⟩;go_wp2_with fail;refine(gi _).mono ?_;rintro e aw1 ⟨⟨qU,qV,qW,qX,qY,qZ⟩,rfl,Uy,Lj⟩;go_wp2_with fail;refine(xU _).mono ?_;rintro e Ll ⟨⟨ra,rj,rq,ru,ry,rz⟩,rfl,Uz,Gq⟩;go_wp2_with fail;refine(ow _).mono ?_;rintro e aw3 ⟨⟨Gs,Gt,Gu,Gv,Gw,Gx⟩,rfl,ak3,UF⟩;go_wp2_with fail;refine(uw _).mono ?_;rintro e aw4 ⟨⟨Gy,Gz,GA,GD,GG,GH⟩,rfl,ak4,PU⟩;go_wp2_with fail;refine(zY _).mono ?_;rintro e aw5 ⟨⟨Zm,Zn,Zo,Zp,Zq,Zr⟩,rfl,ak5,am5⟩
 have UA:ah (PartsAt (aw5.alloc (fL #[vI 1,fN qM #[] qN,fN (.func qO) #[] qP,fN (.func qQ) #[] qR,vI 0,fN qU #[] qV,fN (.func qW) #[] qX,fN (.func qY) #[] qZ,vI 0,fN ra #[] rj,fN (.func rq) #[] ru,fN (.func ry) #[] rz,vI 2,fN Gs #[] Gt,fN (.func Gu) #[] Gv,fN (.func Gw) #[] Gx,vI 4,fN Gy #[] Gz,fN (.func GA) #[] GD,fN (.func GG) #[] GH,vI 0,fN Zm #[] Zn,fN (.func Zo) #[] Zp,fN (.func Zq) #[] Zr] 205)) (eS (eK ⟨aw5.heap.size,0,eL⟩) 6 6) ui):=PartsAt.new aw5 [(.result,⟨qM,qN,qO,qP,qQ,qR⟩),(.comma,⟨qU,qV,qW,qX,qY,qZ⟩),(.opens,⟨ra,rj,rq,ru,ry,rz⟩),(.source,⟨Gs,Gt,Gu,Gv,Gw,Gx⟩),(.offset,⟨Gy,Gz,GA,GD,GG,GH⟩),(.shut,⟨Zm,Zn,Zo,Zp,Zq,Zr⟩)] (by
  simp only[ar,al,or_false];rintro x (rfl|rfl|rfl|rfl|rfl|rfl)
  ·exact(((((Uw.ai Lj).ai Gq).ai UF).ai PU).ai am5)
  ·exact((((Uy.ai Gq).ai UF).ai PU).ai am5)
  ·exact(((Uz.ai UF).ai PU).ai am5)
  ·exact((ak3.ai PU).ai am5)
  ·exact(ak4.ai am5)
  ·exact ak5) _ rfl 6 rfl (by decide)
 have Tp:ah (aa af w (aw5.alloc (fL #[vI 1,fN qM #[] qN,fN (.func qO) #[] qP,fN (.func qQ) #[] qR,vI 0,fN qU #[] qV,fN (.func qW) #[] qX,fN (.func qY) #[] qZ,vI 0,fN ra #[] rj,fN (.func rq) #[] ru,fN (.func ry) #[] rz,vI 2,fN Gs #[] Gt,fN (.func Gu) #[] Gv,fN (.func Gw) #[] Gx,vI 4,fN Gy #[] Gz,fN (.func GA) #[] GD,fN (.func GG) #[] GH,vI 0,fN Zm #[] Zn,fN (.func Zo) #[] Zp,fN (.func Zq) #[] Zr] 205))):=(((((((aa.refl af w).trans Ux).trans Lj).trans Gq).trans UF).trans PU).trans am5).alloc _;clear Uw Ux Uy Lj Uz Gq ak3 UF ak4 PU ak5 am5;simp only[PV.cells,PK.fills,ao];go_wp2_with fail;generalize aw5.alloc (fL #[vI 1,fN qM #[] qN,fN (.func qO) #[] qP,fN (.func qQ) #[] qR,vI 0,fN qU #[] qV,fN (.func qW) #[] qX,fN (.func qY) #[] qZ,vI 0,fN ra #[] rj,fN (.func rq) #[] ru,fN (.func ry) #[] rz,vI 2,fN Gs #[] Gt,fN (.func Gu) #[] Gv,fN (.func Gw) #[] Gx,vI 4,fN Gy #[] Gz,fN (.func GA) #[] GD,fN (.func GG) #[] GH,vI 0,fN Zm #[] Zn,fN (.func Zo) #[] Zp,fN (.func Zq) #[] Zr] 205)=W1 at *;generalize aw5.heap.size=g1 at *;refine(xU _).mono ?_;rintro e bw0 ⟨⟨uA,uB,uC,uD,uE,uF⟩,rfl,bk0,UB⟩;go_wp2_with fail;refine(lX _).mono ?_;rintro e bw1 ⟨⟨uG,uH,uI,uJ,uK,uL⟩,rfl,bk1,NN⟩;go_wp2_with fail;refine(uw _).mono ?_;rintro e Zg ⟨⟨uM,uN,uO,uP,uQ,uR⟩,rfl,bk2,I1⟩;go_wp2_with fail;refine(zY _).mono ?_;rintro e bw3 ⟨⟨CA,CB,CD,CE,CF,CG⟩,rfl,bk3,PW⟩;go_wp2_with fail;refine(gi _).mono ?_;rintro e bw4 ⟨⟨CJ,CK,CL,CO,CP,CQ⟩,rfl,bk4,Ls⟩;go_wp2_with fail;refine(ow _).mono ?_;rintro e bw5 ⟨⟨UI,UJ,UK,UL,UM,UN⟩,rfl,bk5,bm5⟩
 have bHP:ah (PartsAt (bw5.alloc (fL #[vI 0,fN uA #[] uB,fN (.func uC) #[] uD,fN (.func uE) #[] uF,vI 1,fN uG #[] uH,fN (.func uI) #[] uJ,fN (.func uK) #[] uL,vI 4,fN uM #[] uN,fN (.func uO) #[] uP,fN (.func uQ) #[] uR,vI 0,fN CA #[] CB,fN (.func CD) #[] CE,fN (.func CF) #[] CG,vI 0,fN CJ #[] CK,fN (.func CL) #[] CO,fN (.func CP) #[] CQ,vI 2,fN UI #[] UJ,fN (.func UK) #[] UL,fN (.func UM) #[] UN] 205)) (eS (eK ⟨bw5.heap.size,0,eL⟩) 6 6) qF):=PartsAt.new bw5 [(.opens,⟨uA,uB,uC,uD,uE,uF⟩),(.operand,⟨uG,uH,uI,uJ,uK,uL⟩),(.offset,⟨uM,uN,uO,uP,uQ,uR⟩),(.shut,⟨CA,CB,CD,CE,CF,CG⟩),(.comma,⟨CJ,CK,CL,CO,CP,CQ⟩),(.source,⟨UI,UJ,UK,UL,UM,UN⟩)] (by
  simp only[ar,al,or_false];rintro x (rfl|rfl|rfl|rfl|rfl|rfl)
  ·exact(((((bk0.ai NN).ai I1).ai PW).ai Ls).ai bm5)
  ·exact((((bk1.ai I1).ai PW).ai Ls).ai bm5)
  ·exact(((bk2.ai PW).ai Ls).ai bm5)
  ·exact((bk3.ai Ls).ai bm5)
  ·exact(bk4.ai bm5)
  ·exact bk5) _ rfl 6 rfl (by decide)
 have bHM:=aq (((((((Tp.o.trans UB).trans NN).trans I1).trans PW).trans Ls).trans bm5).alloc (fL #[vI 0,fN uA #[] uB,fN (.func uC) #[] uD,fN (.func uE) #[] uF,vI 1,fN uG #[] uH,fN (.func uI) #[] uJ,fN (.func uK) #[] uL,vI 4,fN uM #[] uN,fN (.func uO) #[] uP,fN (.func uQ) #[] uR,vI 0,fN CA #[] CB,fN (.func CD) #[] CE,fN (.func CF) #[] CG,vI 0,fN CJ #[] CK,fN (.func CL) #[] CO,fN (.func CP) #[] CQ,vI 2,fN UI #[] UJ,fN (.func UK) #[] UL,fN (.func UM) #[] UN] 205));have I4:ah (PartsAt (bw5.alloc (fL #[vI 0,fN uA #[] uB,fN (.func uC) #[] uD,fN (.func uE) #[] uF,vI 1,fN uG #[] uH,fN (.func uI) #[] uJ,fN (.func uK) #[] uL,vI 4,fN uM #[] uN,fN (.func uO) #[] uP,fN (.func uQ) #[] uR,vI 0,fN CA #[] CB,fN (.func CD) #[] CE,fN (.func CF) #[] CG,vI 0,fN CJ #[] CK,fN (.func CL) #[] CO,fN (.func CP) #[] CQ,vI 2,fN UI #[] UJ,fN (.func UK) #[] UL,fN (.func UM) #[] UN] 205)) (eS (eK ⟨g1,0,eL⟩) 6 6) ui):=UA.o.ai ((((((((aa.refl af _).trans UB).trans NN).trans I1).trans PW).trans Ls).trans bm5).alloc _);clear UA bk0 UB bk1 NN bk2 I1 bk3 PW bk4 Ls bk5 bm5;simp only[PV.cells,PK.fills,ao];clear Tp;go_wp2_with fail;generalize bw5.alloc (fL #[vI 0,fN uA #[] uB,fN (.func uC) #[] uD,fN (.func uE) #[] uF,vI 1,fN uG #[] uH,fN (.func uI) #[] uJ,fN (.func uK) #[] uL,vI 4,fN uM #[] uN,fN (.func uO) #[] uP,fN (.func uQ) #[] uR,vI 0,fN CA #[] CB,fN (.func CD) #[] CE,fN (.func CF) #[] CG,vI 0,fN CJ #[] CK,fN (.func CL) #[] CO,fN (.func CP) #[] CQ,vI 2,fN UI #[] UJ,fN (.func UK) #[] UL,fN (.func UM) #[] UN] 205)=W2 at *;generalize bw5.heap.size=g2 at *;refine(xU _).mono ?_;rintro e Zi ⟨⟨Aa,Ab,Ac,Ae,Af,Ag⟩,rfl,ck0,Zj⟩;go_wp2_with fail;refine(lX _).mono ?_;rintro e cw1 ⟨⟨PY,PZ,P4,P5,P6,P7⟩,rfl,ck1,cm1⟩;go_wp2_with fail;refine(uw _).mono ?_;rintro e cw2 ⟨⟨P8,P9,Qa,Qb,Qc,Qd⟩,rfl,ck2,cm2⟩;go_wp2_with fail;refine(zY _).mono ?_;rintro e cw3 ⟨⟨Qe,Qf,Qg,Qh,Qi,Qj⟩,rfl,ck3,cm3⟩;go_wp2_with fail;refine(gi _).mono ?_;rintro e cw4 ⟨⟨Qk,Ql,Qm,Qn,Qo,Qp⟩,rfl,ck4,cm4⟩;go_wp2_with fail;refine(uu _).mono ?_;rintro e cw5 ⟨⟨Qq,Qr,Qs,Qt,Qu,Qv⟩,rfl,ck5,Zt⟩
 have cHP:ah (PartsAt (cw5.alloc (fL #[vI 0,fN Aa #[] Ab,fN (.func Ac) #[] Ae,fN (.func Af) #[] Ag,vI 1,fN PY #[] PZ,fN (.func P4) #[] P5,fN (.func P6) #[] P7,vI 4,fN P8 #[] P9,fN (.func Qa) #[] Qb,fN (.func Qc) #[] Qd,vI 0,fN Qe #[] Qf,fN (.func Qg) #[] Qh,fN (.func Qi) #[] Qj,vI 0,fN Qk #[] Ql,fN (.func Qm) #[] Qn,fN (.func Qo) #[] Qp,vI 8,fN Qq #[] Qr,fN (.func Qs) #[] Qt,fN (.func Qu) #[] Qv] 205)) (eS (eK ⟨cw5.heap.size,0,eL⟩) 6 6) pV):=PartsAt.new cw5 [(.opens,⟨Aa,Ab,Ac,Ae,Af,Ag⟩),(.operand,⟨PY,PZ,P4,P5,P6,P7⟩),(.offset,⟨P8,P9,Qa,Qb,Qc,Qd⟩),(.shut,⟨Qe,Qf,Qg,Qh,Qi,Qj⟩),(.comma,⟨Qk,Ql,Qm,Qn,Qo,Qp⟩),(.number,⟨Qq,Qr,Qs,Qt,Qu,Qv⟩)] (by
  simp only[ar,al,or_false];rintro x (rfl|rfl|rfl|rfl|rfl|rfl)
  ·exact(((((ck0.ai cm1).ai cm2).ai cm3).ai cm4).ai Zt)
  ·exact((((ck1.ai cm2).ai cm3).ai cm4).ai Zt)
  ·exact(((ck2.ai cm3).ai cm4).ai Zt)
  ·exact((ck3.ai cm4).ai Zt)
  ·exact(ck4.ai Zt)
  ·exact ck5) _ rfl 6 rfl (by decide)
 have Zk:=aq (((((((bHM.o.trans Zj).trans cm1).trans cm2).trans cm3).trans cm4).trans Zt).alloc (fL #[vI 0,fN Aa #[] Ab,fN (.func Ac) #[] Ae,fN (.func Af) #[] Ag,vI 1,fN PY #[] PZ,fN (.func P4) #[] P5,fN (.func P6) #[] P7,vI 4,fN P8 #[] P9,fN (.func Qa) #[] Qb,fN (.func Qc) #[] Qd,vI 0,fN Qe #[] Qf,fN (.func Qg) #[] Qh,fN (.func Qi) #[] Qj,vI 0,fN Qk #[] Ql,fN (.func Qm) #[] Qn,fN (.func Qo) #[] Qp,vI 8,fN Qq #[] Qr,fN (.func Qs) #[] Qt,fN (.func Qu) #[] Qv] 205));have Fq:ah (PartsAt (cw5.alloc (fL #[vI 0,fN Aa #[] Ab,fN (.func Ac) #[] Ae,fN (.func Af) #[] Ag,vI 1,fN PY #[] PZ,fN (.func P4) #[] P5,fN (.func P6) #[] P7,vI 4,fN P8 #[] P9,fN (.func Qa) #[] Qb,fN (.func Qc) #[] Qd,vI 0,fN Qe #[] Qf,fN (.func Qg) #[] Qh,fN (.func Qi) #[] Qj,vI 0,fN Qk #[] Ql,fN (.func Qm) #[] Qn,fN (.func Qo) #[] Qp,vI 8,fN Qq #[] Qr,fN (.func Qs) #[] Qt,fN (.func Qu) #[] Qv] 205)) (eS (eK ⟨g1,0,eL⟩) 6 6) ui):=I4.o.ai ((((((((aa.refl af _).trans Zj).trans cm1).trans cm2).trans cm3).trans cm4).trans Zt).alloc _);have PX:ah (PartsAt (cw5.alloc (fL #[vI 0,fN Aa #[] Ab,fN (.func Ac) #[] Ae,fN (.func Af) #[] Ag,vI 1,fN PY #[] PZ,fN (.func P4) #[] P5,fN (.func P6) #[] P7,vI 4,fN P8 #[] P9,fN (.func Qa) #[] Qb,fN (.func Qc) #[] Qd,vI 0,fN Qe #[] Qf,fN (.func Qg) #[] Qh,fN (.func Qi) #[] Qj,vI 0,fN Qk #[] Ql,fN (.func Qm) #[] Qn,fN (.func Qo) #[] Qp,vI 8,fN Qq #[] Qr,fN (.func Qs) #[] Qt,fN (.func Qu) #[] Qv] 205)) (eS (eK ⟨g2,0,eL⟩) 6 6) qF):=bHP.o.ai ((((((((aa.refl af _).trans Zj).trans cm1).trans cm2).trans cm3).trans cm4).trans Zt).alloc _);clear I4 bHP ck0 Zj ck1 cm1 ck2 cm2 ck3 cm3 ck4 cm4 ck5 Zt;simp only[PV.cells,PK.fills,ao];clear bHM;have cE:=HE.o.ai Zk.o;have e0:=cE.c0;have e1:=cE.c1;have e2:=cE.c2;have e3:=cE.c3;clear cE;have HI:=aq UH;go_upto_block 0 with fail;generalize cw5.alloc (fL #[vI 0,fN Aa #[] Ab,fN (.func Ac) #[] Ae,fN (.func Af) #[] Ag,vI 1,fN PY #[] PZ,fN (.func P4) #[] P5,fN (.func P6) #[] P7,vI 4,fN P8 #[] P9,fN (.func Qa) #[] Qb,fN (.func Qc) #[] Qd,vI 0,fN Qe #[] Qf,fN (.func Qg) #[] Qh,fN (.func Qi) #[] Qj,vI 0,fN Qk #[] Ql,fN (.func Qm) #[] Qn,fN (.func Qo) #[] Qp,vI 8,fN Qq #[] Qr,fN (.func Qs) #[] Qt,fN (.func Qu) #[] Qv] 205)=W3 at *;generalize cw5.heap.size=g3 at *;clear e0 e1 e2 e3;go_cut [4] (λo wl=>∃bs,aM w.heap.size wl o bs (Tt 4)/\aa af w wl)
 case first =>
  go_wp2_with fail;go_loopw [4,31] (λo i wl=>∃(k:Nat) (bs:tLN),k<=4/\i=vI k/\aM w.heap.size wl o bs (Tt k)/\PartsAt wl (eS (eK ⟨g1,0,eL⟩) 6 6) ui/\PartsAt wl (eS (eK ⟨g2,0,eL⟩) 6 6) qF/\PartsAt wl (eS (eK ⟨g3,0,eL⟩) 6 6) pV/\aa af w wl) (λ_ i _=>4-(intOf i).toNat)
  case atStart=>exact⟨0,[],by omega,rfl,aM.nil _ _,Fq.o,PX.o,cHP.o,Zk.o⟩
  case round =>
   obtain⟨k,bs,hk,rfl,hO,hP1,hP2,hP3,hM⟩:=hrel;clear Fq PX cHP Zk;by_cases hlt:k<4
   ·have hidx:=HI.o k hlt;have HST:ah (Tt (k+1)=Tt k++[gU (128+k) ([108,100]++pW[k]) ui,gU (132+k) ([115,116]++pW[k]) qF,gU (136+k) ([115,116]++pW[k]) pV]):=UG k hlt;have HW:=aq (Lt k hlt);have Ir:=aq (YX k hlt);have Lv:=aq (adb k hlt);generalize pW[k]=wd at *;have HO:ah _:=hO;have um:ah _:=hP1;have lU:ah _:=hP2;have HP3:ah _:=hP3;have HM:ah _:=hM;clear hO hP1 hP2 hP3 hM;have hwd:=HW.o;have HL:ah (eJ bs<=100):=by have:=HO.o.len;rw[Zl k (by omega)]at this;exact(by omega:eJ bs<=100)
    go_wp2_with fail;go_quiet (fail);go_wp2_with fail;have X0:ah (aa af wr (wr.drewN nq)):=ax.drewN _;refine(PO _ _ (2 ^ k) Lv.o).mono ?_;rintro e v0 ⟨fb0,cb0,rfl,I5,hd0⟩;have HD0:=aq hd0;clear hd0;have X1:=aq (X0.o.trans I5);have MB0:ah _:=I5;clear I5;go_wp2_with fail;refine(jR _ _ (128+k) (by omega) _ ([108,100]++wd) (Fb _ wd).symm _ ui _ _ (um.o.ai X1.o) (by have:=HW.o;rw[di]at this;simp;omega) (by decide) _ Ir.o.1 HD0.o).mono ?_;rintro e r0 ⟨b0,rfl,hr0,hb0,I6⟩;have X2:=aq (X1.o.trans I6);have gq:ah _:=hr0;have MR0:ah _:=I6;have HB0:=aq hb0;clear hr0 hb0 I6;go_wp2_with fail;refine(Cy _ _ (2 ^ k) fR Lv.o).mono ?_;rintro e v1 ⟨fb1,cb1,rfl,I7,hd1⟩;have HD1:=aq hd1;clear hd1;have X3:=aq (X2.o.trans I7);have UC:ah _:=I7;clear I7;go_wp2_with fail;refine(jR _ _ (132+k) (by omega) _ ([115,116]++wd) (Fb _ wd).symm _ qF _ _ (lU.o.ai X3.o) (by have:=HW.o;rw[di]at this;simp;omega) (by decide) _ Ir.o.2.1 HD1.o).mono ?_;rintro e r1 ⟨b1,rfl,hr1,hb1,I8⟩;have X4:=aq (X3.o.trans I8);have yT:ah _:=hr1;have MR1:ah _:=I8;have HB1:=aq hb1;clear hr1 hb1 I8;go_wp2_with fail;refine(Cy _ _ (2 ^ k) fj Lv.o).mono ?_;rintro e v2 ⟨fb2,cb2,rfl,mb2,hd2⟩;have HD2:=aq hd2;clear hd2;have X5:=aq (X4.o.trans mb2);have MB2:ah _:=mb2;clear mb2;go_wp2_with fail;refine(jR _ _ (136+k) (by omega) _ ([115,116]++wd) (Fb _ wd).symm _ pV _ _ (HP3.o.ai X5.o) (by have:=HW.o;rw[di]at this;simp;omega) (by decide) _ Ir.o.2.2 HD2.o).mono ?_;rintro e r2 ⟨b2,rfl,hr2,hb2,mr2⟩;have X6:=aq (X5.o.trans mr2);have jh:ah _:=hr2;have MR2:ah _:=mr2;have HB2:=aq hb2;clear hr2 hb2 mr2;go_wp2_with (at_builtin;refine aQ _ rfl (.tmp 40) (.tmp 64) 93 rfl 135 iP (vO) 1 8 underlying93 hiP sP hsP xz rfl (by decide) u4 (eJ bs) (bs.map gH) rfl (HO.o.ai (X6.o.alloc _)).sl ⟨r2.heap.size,0,eL⟩ 3 3 [gH b0,gH b1,gH b2] rfl rfl (bH _ _ _ _ rfl) (uz [b0,b1,b2]) (by have:=HL.o;unfold jz;omega) (by have:=HL.o;omega) ?_;intro vA wA sA mA lA;obtain⟨oA,cA,rfl,_⟩:=Sl.view sA);have H01:b0<b1:=by have:=gq.o.lt;have:=UC.o.size;have:=HB1.o;omega
    have H12:b1<b2:=by have:=yT.o.lt;have:=MB2.o.size;have:=HB2.o;omega
    have H0:wr.heap.size<=b0:=by have:=HB0.o;have:=X1.o.size;omega
    have HG:ah (aM w.heap.size wA (eS oA (eJ bs+3) cA) (bs++[b0,b1,b2]) (Tt k++[gU (128+k) ([108,100]++wd) ui,gU (132+k) ([115,116]++wd) qF,gU (136+k) ([115,116]++wd) pV])) :=
     aM.grow [b0,b1,b2] _ HO.o (X6.o.alloc _) rfl (by simp;omega) (by simp;omega) (λi h h'=>by
      have hi:i=0\/i=1\/i=2:=by simp at h;omega
      rcases hi with rfl|rfl|rfl
      ·exact((((gq.o.ai UC.o).ai MR1.o).ai MB2.o).ai MR2.o).ai aw
      ·exact((yT.o.ai MB2.o).ai MR2.o).ai aw
      ·exact jh.o.ai aw) sA mA lA HM.o.size
    have Gr:=aq ((HM.o.trans (X6.o.alloc _)).step mA (λi hi h=>by have:=HO.o.own i h;omega));have HK:=aq ((X6.o.alloc _).kp.trans (aa.Gm (HO.o.ai (X6.o.alloc _)).sl mA));rw[<-HST.o]at HG;clear H01 H12 H0 hidx;go_roundw
    case rel=>exact⟨k+1,_,by omega,by go_num,HG.o,um.o.kp HK.o,lU.o.kp HK.o,HP3.o.kp HK.o,Gr.o⟩
    case measure=>simp[intOf];omega
   ·obtain rfl:k=4:=by omega
    go_wp2_with fail;go_meet;exact⟨bs,hO,hM⟩
 case rest =>
 obtain⟨bs,hO,hM⟩:=hcut;have HO:=aq hO;have HM:=aq hM;clear hO hM Fq PX cHP Zk;go_wp2_with fail;go_ret;exact⟨_,_,rfl,HO.o,HM.o⟩
abbrev Jc:tAV:=#[eR (T [103,101,116]),fN (.func 289) #[] #[],eR (T [112,117,116]),fN (.func 290) #[] #[],eR (T [100,101,108]),fN (.func 291) #[] #[],eR (T [108,111,103]),fN (.func 292) #[] #[]]
theorem fV(w:tW):fS prog 242 #[] w λe w'=>e=fW (fY Jc)/\aa af w w':=by go_in;go_wp2_with fail;exact bodyPost_ret (results_cell_row results242 _ _ w.heap.size 295 _ (0,0) _ rfl (au.new _ _ _) underlying295 rfl (by kernel_rfl)) rfl ⟨rfl,aw⟩
theorem UO(W:tW):(Instr.index 295 (fY Jc) (vJ 0)).run prog W=.ok (fY #[eR (T [103,101,116]),fN (.func 289) #[] #[]]) W:=rfl
theorem UQ(W:tW):(Instr.index 295 (fY Jc) (vJ 1)).run prog W=.ok (fY #[eR (T [112,117,116]),fN (.func 290) #[] #[]]) W:=rfl
theorem UR(W:tW):(Instr.index 295 (fY Jc) (vJ 2)).run prog W=.ok (fY #[eR (T [100,101,108]),fN (.func 291) #[] #[]]) W:=rfl
theorem GI(o:fO)(ho:o.call=fR)(x:dM)(hx:x.Fit)(w:tW):fS prog 130 #[fY x.cells] w λe w'=>e=fW (fX (o.needs x))/\aa af w w':=by
 have hw:o.needs x=(gT x 10&&(decide (x.s=1)||(decide (x.s=0)&&decide (1<=x.num)&&decide (x.num<5)))):=by unfold fO.needs;rw[ho,iP9 rfl]
 rw[hw];clear hw ho;have hO:=Cv x 10 (by decide);obtain⟨op,d,s,jump,num,high,label,name⟩:=x;generalize hob:gT ⟨op,d,s,jump,num,high,label,name⟩ 10=ob at *;clear hob;have hs:=hx.s;have n0:=hx.n0;have n1:=hx.n1;clear hx;unfold dM.cells at *;simp only at *;have HO:ah _:=hO;clear hO;cases ob with
 |false =>go_in;go_wp2_with fail;refine(HO.o _).mono ?_;rintro e w1 ⟨rfl,m1⟩;go_wp2_with fail;go_ret;exact⟨by simp,aw.trans m1⟩
 |true =>
  have hq:=au.new w #[op,vB d,vB s,.int .i16 jump,vJ num,vJ high,eR label,eR name] 138;by_cases h1:s=1
  ·subst h1;go_in;go_wp2_with fail;refine(HO.o _).mono ?_;rintro e w1 ⟨rfl,m1⟩;have hq1:=hq.ai m1 id;have z2:=hq1.cell 2;simp at z2;go_wp2_with fail;go_ret;exact⟨by simp,aw.trans m1⟩
  ·have q1:decide ((s:Int)=1)=fj:=by simp;omega
   go_in;go_wp2_with fail;refine(HO.o _).mono ?_;rintro e w1 ⟨rfl,m1⟩;have hq1:=hq.ai m1 id;have z2:=hq1.cell 2;simp at z2;have y2:∀g:Ext af w1,g.w.cell? ⟨w.heap.size,2,eL⟩=eK (vB s):=λg=>g.cell hq1 id 2;have y4:∀g:Ext af w1,g.w.cell? ⟨w.heap.size,4,eL⟩=eK (vJ num):=λg=>g.cell hq1 id 4;have ne1:=Ext.ne af w1;clear hq hq1;by_cases h0:s=0
   ·subst h0;by_cases ha:1<=num
    ·by_cases hb:num<5
     ·go_wp2_with fail;refine ig af (by kernel_rfl) (by kernel_rfl) ?_
      repeat(go_big_quiet_step ((go_at_call 242;exact Calls.oZ (fV _))))
      refine mS ?_;rintro w2 ⟨⟨wx,m2⟩,hwx⟩;simp only at hwx;subst hwx;go_wp2_with fail;go_ret;exact⟨by simp,(aw.trans m1).trans m2⟩
     ·have hb':decide (num<5)=fj:=by simp;omega
      go_wp2_with fail;refine ig af (by kernel_rfl) (by kernel_rfl) ?_
      repeat(go_big_quiet_step ((go_at_call 242;exact Calls.oZ (fV _))))
      refine mS ?_;rintro w2 ⟨⟨wx,m2⟩,hwx⟩;simp only at hwx;subst hwx;go_wp2_with fail;go_ret;exact⟨by simp,(aw.trans m1).trans m2⟩
    ·have ha':decide (1<=num)=fj:=by simp;omega
     go_wp2_with fail;refine ig af (by kernel_rfl) (by kernel_rfl) ?_
     repeat(go_big_quiet_step ((go_at_call 242;exact Calls.oZ (fV _))))
     refine mS ?_;rintro w2 ⟨⟨wx,m2⟩,hwx⟩;simp only at hwx;subst hwx;go_wp2_with fail;go_ret;exact⟨by simp,(aw.trans m1).trans m2⟩
   ·have h0':((s:Int)==0)=fj:=by simp;omega
    go_wp2_with fail;refine ig af (by kernel_rfl) (by kernel_rfl) ?_
    repeat(go_big_quiet_step ((go_at_call 242;exact Calls.oZ (fV _))))
    refine mS ?_;rintro w2 ⟨⟨wx,m2⟩,hwx⟩;simp only at hwx;subst hwx;go_wp2_with fail;go_ret;exact⟨by simp[h0,h1],(aw.trans m1).trans m2⟩
theorem Qw{r:dH}(h:r.word=[99,97,108,108]):r.call=if nameB (aK r.rest).1 then eK {r with s:=1,name:=(aK r.rest).1,rest:=(aK r.rest).2}else eL:=by unfold dH.call;rw[iP9 h]
theorem Fs{r:dH}(h:r.word≠[99,97,108,108]):r.call=(oq.findIdx? (λh=>h==(aK r.rest).1)).map (λn=>{r with num:=(1+n:Nat),rest:=(aK r.rest).2}):=by unfold dH.call;rw[iN9 h]
theorem Qx(b:Nat)(op:fa)(r:dH)(w:tW)(h:au w b (r.cells op) 269)(hl:eJ r.rest<=1000000)(hm:r.word=[99,97,108,108]):fS prog 128 #[vP b] w λe w'=>bV w b op r.call e w':=by
 have hq:((T r.word).toList==[99,97,108,108])=fR:=xO (by rw[hm]);have HN:ah (∀w',au w' b ({r with s:=1}.cells op) 269->fS prog 142 #[.pointer (eK ⟨b,1,eL⟩)] w' λe w''=>e=fW (jl #[eR (T (aK r.rest).1),fX (nameB (aK r.rest).1)])/\aW w' b 1 ({r with s:=1}.cells op) 269 (aK r.rest).2 w''):=λw' h'=>pY _ 1 _ _ _ w' (lM (r:={r with s:=1}) h') hl
 have uq:ah (∀e w',e=fW (fX (nameB (aK r.rest).1))->aa (Only b) w w'->au w' b ({r with s:=1,name:=(aK r.rest).1,rest:=(aK r.rest).2}.cells op) 269->bV w b op r.call e w'):=λe w' he hmd hbk=>by
  rw[Qw hm];cases hn:nameB (aK r.rest).1 with
  |true=>rw[hn]at he;exact⟨by rw[he];rfl,hmd,λr' hr'=>by cases hr';exact hbk⟩
  |false=>rw[hn]at he;exact⟨by rw[he];rfl,hmd,λr' hr'=>by cases hr'⟩
 generalize bV w b op r.call=RP at *;generalize nameB (aK r.rest).1=nb at *;generalize aK r.rest=w1 at *;obtain⟨n1,l1⟩:=w1;dsimp only at *;have c0:=h.c0;have c4:=h.c4;have zf:=h.frozen;have HB0:ah (au (w.setCell ⟨b,4,eL⟩ (vB 1)) b ({r with s:=1}.cells op) 269):=h.set 4 _;have eW:ah (aa (Only b) w (w.setCell ⟨b,4,eL⟩ (vB 1))):=ax.bA 4 _;clear h hl hm;go_in;go_wp2_with fail;refine(HN.o _ HB0.o).mono ?_;rintro e wa ⟨rfl,hp1⟩;have HB1:=aq hp1.rd;have bU:=aq (eW.o.trans hp1.2);clear hp1 HB0 eW HN c0 c4 zf;have z9:wa.cell? ⟨b,9,eL⟩=eK (eR (T r.name)):=HB1.o.cell 9;have zf:=HB1.o.frozen;go_wp2_with fail;exact uq.o _ _ rfl (bU.o.bA 9 _) (HB1.o.set 9 _)
theorem ado(k:Nat)(hk:k<4):∃f c,∀W,(Instr.index 295 (fY Jc) (vI k)).run prog W=.ok (fY #[eR (T (oq[k]?.getD [])),fN f #[] c]) W:=by
 obtain rfl|rfl|rfl|rfl:k=0\/k=1\/k=2\/k=3:=by omega
 ·exact⟨_,_,λW=>rfl⟩
 ·exact⟨_,_,λW=>rfl⟩
 ·exact⟨_,_,λW=>rfl⟩
 ·exact⟨_,_,λW=>rfl⟩
def xV(x:tLB)(k:Nat):Prop:=∀j,j<k->oq[j]?.getD []≠x
theorem US{x:tLB}{k:Nat}(hk:k<4)(h:xV x k)(e:oq[k]?.getD []=x):oq.findIdx? (λh=>h==x)=eK k:=by
 have hl:eJ oq=4:=rfl;rw[List.findIdx?_eq_some_iff_getElem];refine⟨by omega,?_,λj hj=>?_⟩
 ·rw[List.getElem?_eq_getElem (by omega)]at e
  simpa using e
 ·have:=h j hj;rw[List.getElem?_eq_getElem (by omega)]at this
  simpa using this
theorem Qy{x:tLB}(h:xV x 4):oq.findIdx? (λh=>h==x)=eL:=by
 rw[List.findIdx?_eq_none_iff];intro y hy;obtain⟨j,hj,rfl⟩:=cw hy;have:=h j (by simpa [oq]using hj);rw[List.getElem?_eq_getElem hj]at this
 simpa using this
theorem Qz(b:Nat)(op:fa)(r:dH)(w:tW)(h:au w b (r.cells op) 269)(hl:eJ r.rest<=1000000)(hm:r.word≠[99,97,108,108]):fS prog 128 #[vP b] w λe w'=>bV w b op r.call e w':=by
 have hq:=tZ (λe=>hm (pg e));have hwl:=jP r.rest;have HW:=aq (il b 1 _ _ r.rest w (lM h) hl);have uq:ah (∀e w' k,k<4->e=fW (fX fR)->aa (Only b) w w'->xV (aK r.rest).1 k->oq[k]?.getD []=(aK r.rest).1->au w' b ({r with num:=(1+k:Nat),rest:=(aK r.rest).2}.cells op) 269->bV w b op r.call e w'):=λe w' k hk he hmd h1 h2 hbk=>by rw[Fs hm,US hk h1 h2];exact⟨by rw[he];rfl,hmd,λr' hr'=>by cases hr';exact hbk⟩
 have HPZ:ah (∀e w',e=fW (fX fj)->aa (Only b) w w'->xV (aK r.rest).1 4->bV w b op r.call e w'):=λe w' he hmd h1=>by rw[Fs hm,Qy h1];exact⟨by rw[he];rfl,hmd,λr' hr'=>by cases hr'⟩
 generalize bV w b op r.call=RP at *;generalize aK r.rest=w1 at *;obtain⟨x,l1⟩:=w1;dsimp only at *;have c0:=h.c0;clear h hl;go_in;go_wp2_with fail;refine HW.o.mono ?_;rintro e wa ⟨rfl,hp1⟩;have HB1:=aq hp1.rd;have bU:=aq (hp1.2);clear hp1 HW c0 hq hm;go_wp2_with fail;refine(fV _).mono ?_;rintro e wb ⟨rfl,m2⟩;have HB2:=aq (HB1.o.ai m2 id);have bP:=aq (bU.o.trans m2.of_nil);clear m2 HB1 bU;go_wp2_with fail;go_loopg [33] 4 (λq v wx=>∃k:Nat,k<=4/\v=vI k/\au wx b ({r with rest:=l1}.cells op) 269/\aa (Only b) w wx/\xV x k/\q=4-k)
 case atStart=>exact⟨0,by omega,rfl,HB2.o,bP.o,λj hj=>absurd hj (Nat.not_lt_zero _),rfl⟩
 case round =>
  obtain⟨k,hk,rfl,hbk,hmk,hto,rfl⟩:=hrel;have pQ:=aq hbk;have xQ:=aq hmk;have HTo:=aq hto;clear hbk hmk hto HB2 bP;by_cases hlt:k<4
  ·obtain⟨f,c,hI⟩:=ado k hlt;have afh:=aq (λe w'=>uq.o e w' k hlt)
   have HTs:ah (oq[k]?.getD []≠x->xV x (k+1)):=λhne j hj=>by
    rcases Nat.lt_or_ge j k with e|e
    ·exact HTo.o j e
    ·have:j=k:=by omega
     subst this;exact hne
   generalize oq[k]?.getD []=hw at *;have HB3:ah (au (wr.alloc (fL #[eR (T hw),fN f #[] c] 294)) b ({r with rest:=l1}.cells op) 269):=pQ.o.alloc _;have dF:=aq (xQ.o.alloc (fL #[eR (T hw),fN f #[] c] 294));have hbl:=pQ.o.lt;have z6:wr.cell? ⟨b,6,eL⟩=eK (vJ r.num):=pQ.o.cell 6;have zf:=pQ.o.frozen;by_cases hx:hw=x
   ·have hq:((T x).toList==(T hw).toList)=fR:=Gh (by rw[hx]);have gG:ah (aa (Only b) w ((wr.setCell ⟨b,6,eL⟩ (vJ (1+(k:Int)))).alloc (fL #[eR (T hw),fN f #[] c] 294))):=(xQ.o.bA 6 _).alloc _
    have iH:ah (au ((wr.setCell ⟨b,6,eL⟩ (vJ (1+(k:Int)))).alloc (fL #[eR (T hw),fN f #[] c] 294)) b ({r with num:=(1+k:Nat),rest:=l1}.cells op) 269):=by
     have e:((1+k:Nat):Int)=1+(k:Int):=by omega
     have:=(pQ.o.set 6 (vJ (1+(k:Int)))).alloc (fL #[eR (T hw),fN f #[] c] 294);unfold dH.cells;dsimp only;rw[e];exact this
    have HX:=aq hx;clear hx;go_wp2_with fail;exact afh.o _ _ rfl gG.o HTo.o HX.o iH.o
   ·have hq:=tY (λe=>hx (pg e).symm);have HT2:=aq (HTs.o hx);clear hx;go_wp2_with fail;go_roundg (4-(k+1))
    case measure=>omega
    case rel=>exact⟨k+1,by omega,by go_num,HB3.o,dF.o,HT2.o,rfl⟩
  ·have hke:k=4:=by omega
   subst hke;go_wp2_with fail;exact HPZ.o _ _ rfl xQ.o HTo.o
theorem Lw(b:Nat)(op:fa)(r:dH)(w:tW)(h:au w b (r.cells op) 269)(hl:eJ r.rest<=1000000):fS prog 128 #[vP b] w λe w'=>bV w b op r.call e w':=by
 by_cases hm:r.word=[99,97,108,108]
 ·exact Qx b op r w h hl hm
 ·exact Qz b op r w h hl hm
def Jd:fO:=⟨193,[],[],1,fj,fj,1,fR⟩
theorem UT(w:tW)(b1:Nat)(hb:au w b1 #[eR ⟨#[104,101,108,112]⟩,eR ⟨#[99,97,108,108]⟩] 9):Cw w (eS (eK ⟨b1,0,eL⟩) 2 2) (.func 128) #[] 129 #[] 130 #[] (.func 131) #[] Jd where
 wr:=trivial
 nd:=λw' x _ hx=>by simpa using GI Jd rfl x hx w'
 e7:=enters_of func129 (by kernel_rfl) rfl
 e8:=enters_of func130 (by kernel_rfl) rfl
 ws:=Sl.fresh hb rfl (by decide)
 rd:=⟨_,rfl,enters_of func128 (by kernel_rfl) rfl,λw' b op r _ _ h hl=>by simpa [fO.read,Jd]using Lw b op r w' h hl⟩
 dn:=⟨rfl,rfl⟩
theorem PartsAt.none(w:tW):PartsAt w (vN) []:=⟨[],rfl,λx h=>(by cases h),Sl.nil _ _ _⟩
theorem GJ(w:tW):fS prog 67 #[] w λe w'=>∃v bs,e=fW v/\aM w.heap.size w' v bs Gj/\aa af w w':=by
 go_in;go_wp2_with fail;refine(lg _).mono ?_;rintro e aw0 ⟨⟨qM,qN,qO,qP,qQ,qR⟩,rfl,Uw,Ux⟩;go_wp2_with fail;refine(gi _).mono ?_;rintro e aw1 ⟨⟨qU,qV,qW,qX,qY,qZ⟩,rfl,Uy,Lj⟩;go_wp2_with fail;refine(Pz _).mono ?_;rintro e Ll ⟨⟨ra,rj,rq,ru,ry,rz⟩,rfl,Uz,Gq⟩
 have UA:ah (PartsAt (Ll.alloc (fL #[vI 1,fN qM #[] qN,fN (.func qO) #[] qP,fN (.func qQ) #[] qR,vI 0,fN qU #[] qV,fN (.func qW) #[] qX,fN (.func qY) #[] qZ,vI 10,fN ra #[] rj,fN (.func rq) #[] ru,fN (.func ry) #[] rz] 205)) (eS (eK ⟨Ll.heap.size,0,eL⟩) 3 3) [.result,.comma,.wide]):=PartsAt.new Ll [(.result,⟨qM,qN,qO,qP,qQ,qR⟩),(.comma,⟨qU,qV,qW,qX,qY,qZ⟩),(.wide,⟨ra,rj,rq,ru,ry,rz⟩)] (by
  simp only[ar,al,or_false];rintro x (rfl|rfl|rfl)
  ·exact((Uw.ai Lj).ai Gq)
  ·exact(Uy.ai Gq)
  ·exact Uz) _ rfl 3 rfl (by decide)
 have Tp:ah (aa af w (Ll.alloc (fL #[vI 1,fN qM #[] qN,fN (.func qO) #[] qP,fN (.func qQ) #[] qR,vI 0,fN qU #[] qV,fN (.func qW) #[] qX,fN (.func qY) #[] qZ,vI 10,fN ra #[] rj,fN (.func rq) #[] ru,fN (.func ry) #[] rz] 205))):=((((aa.refl af w).trans Ux).trans Lj).trans Gq).alloc _;clear Uw Ux Uy Lj Uz Gq;simp only[PV.cells,PK.fills,ao];go_wp2_with fail;generalize Ll.alloc (fL #[vI 1,fN qM #[] qN,fN (.func qO) #[] qP,fN (.func qQ) #[] qR,vI 0,fN qU #[] qV,fN (.func qW) #[] qX,fN (.func qY) #[] qZ,vI 10,fN ra #[] rj,fN (.func rq) #[] ru,fN (.func ry) #[] rz] 205)=W1 at *;generalize Ll.heap.size=g1 at *;refine(jR _ _ 192 rfl _ [119,105,100,101] rfl _ [.result,.comma,.wide] _ _ UA.o (by decide) (by decide) _ rfl ⟨rfl,rfl⟩).mono ?_;rintro e w4 ⟨b4,rfl,h4,l4,m4⟩;have h5:=(h4.slots 2).bD 2;have NQ:ah (w.heap.size<=b4):=by have:=Tp.o.size;exact(by omega:w.heap.size<=b4)
 have jo:ah (aa af w ((w4.setCell ⟨b4,2,eL⟩ (vI 2)).setCell ⟨b4,5,eL⟩ (vI 2))):=((Tp.o.trans m4).set (.inr NQ.o) _).set (.inr NQ.o) _;have H5:=aq h5;obtain⟨o1,n1,c1,f6,c6,k7,c7,k8,c8,f9,c9,hblk,_⟩:=h4.ex;have z2:=hblk.cell 2;have fz2:=hblk.frozen 2;have hblk2:=hblk.set 2 (vI 2);have z5:=hblk2.cell 5;have fz5:=hblk2.frozen 5;simp at z2 z5;have HZ:ah (((w4.setCell ⟨b4,2,eL⟩ (vI 2)).setCell ⟨b4,5,eL⟩ (vI 2)).heap.size=w4.heap.size):=by simp[ah,World.setCell]
 have iH:=aq h4.lt;clear hblk hblk2 h4 h5 UA Tp m4 l4;go_wp2_with fail;generalize(w4.setCell ⟨b4,2,eL⟩ (vI 2)).setCell ⟨b4,5,eL⟩ (vI 2)=W5 at *
 have HC:ah (dO ((W5.alloc (fL #[eR ⟨#[104,101,108,112]⟩,eR ⟨#[99,97,108,108]⟩] 9)).alloc (fL #[vB 193,eS (eK ⟨w4.heap.size,0,eL⟩) 2 2,vI 1,fX fj,fX fj,vI 1,fN (.func 128) #[] #[],fN (.func 129) #[] #[],fN (.func 130) #[] #[],fN (.func 131) #[] #[]] 146)) (w4.heap.size+1) Jd):=by
  have hb:au ((W5.alloc (fL #[eR ⟨#[104,101,108,112]⟩,eR ⟨#[99,97,108,108]⟩] 9)).alloc (fL #[vB 193,eS (eK ⟨w4.heap.size,0,eL⟩) 2 2,vI 1,fX fj,fX fj,vI 1,fN (.func 128) #[] #[],fN (.func 129) #[] #[],fN (.func 130) #[] #[],fN (.func 131) #[] #[]] 146)) (w4.heap.size+1) #[vB 193,eS (eK ⟨w4.heap.size,0,eL⟩) 2 2,vI 1,fX fj,fX fj,vI 1,fN (.func 128) #[] #[],fN (.func 129) #[] #[],fN (.func 130) #[] #[],fN (.func 131) #[] #[]] 146:=by
   have:=au.new (W5.alloc (fL #[eR ⟨#[104,101,108,112]⟩,eR ⟨#[99,97,108,108]⟩] 9)) #[vB 193,eS (eK ⟨w4.heap.size,0,eL⟩) 2 2,vI 1,fX fj,fX fj,vI 1,fN (.func 128) #[] #[],fN (.func 129) #[] #[],fN (.func 130) #[] #[],fN (.func 131) #[] #[]] 146;have e:(W5.alloc (fL #[eR ⟨#[104,101,108,112]⟩,eR ⟨#[99,97,108,108]⟩] 9)).heap.size=w4.heap.size+1:=by have:=HZ.o;simp;omega
   rw[e]at this;exact this
  have hb5:au ((W5.alloc (fL #[eR ⟨#[104,101,108,112]⟩,eR ⟨#[99,97,108,108]⟩] 9)).alloc (fL #[vB 193,eS (eK ⟨w4.heap.size,0,eL⟩) 2 2,vI 1,fX fj,fX fj,vI 1,fN (.func 128) #[] #[],fN (.func 129) #[] #[],fN (.func 130) #[] #[],fN (.func 131) #[] #[]] 146)) w4.heap.size #[eR ⟨#[104,101,108,112]⟩,eR ⟨#[99,97,108,108]⟩] 9:=by have:=(au.new W5 #[eR ⟨#[104,101,108,112]⟩,eR ⟨#[99,97,108,108]⟩] 9).alloc (fL #[vB 193,eS (eK ⟨w4.heap.size,0,eL⟩) 2 2,vI 1,fX fj,fX fj,vI 1,fN (.func 128) #[] #[],fN (.func 129) #[] #[],fN (.func 130) #[] #[],fN (.func 131) #[] #[]] 146);rw[HZ.o]at this;exact this
  exact⟨_,_,_,_,_,_,_,_,_,_,_,hb,UT _ _ hb5⟩
 have H6:ah (dO ((W5.alloc (fL #[eR ⟨#[104,101,108,112]⟩,eR ⟨#[99,97,108,108]⟩] 9)).alloc (fL #[vB 193,eS (eK ⟨w4.heap.size,0,eL⟩) 2 2,vI 1,fX fj,fX fj,vI 1,fN (.func 128) #[] #[],fN (.func 129) #[] #[],fN (.func 130) #[] #[],fN (.func 131) #[] #[]] 146)) b4 _):=H5.o.ai (aw.alloc _);have xW:ah (aa af w ((W5.alloc (fL #[eR ⟨#[104,101,108,112]⟩,eR ⟨#[99,97,108,108]⟩] 9)).alloc (fL #[vB 193,eS (eK ⟨w4.heap.size,0,eL⟩) 2 2,vI 1,fX fj,fX fj,vI 1,fN (.func 128) #[] #[],fN (.func 129) #[] #[],fN (.func 130) #[] #[],fN (.func 131) #[] #[]] 146))):=(jo.o.alloc _).alloc _;have NR:ah (((W5.alloc (fL #[eR ⟨#[104,101,108,112]⟩,eR ⟨#[99,97,108,108]⟩] 9)).alloc (fL #[vB 193,eS (eK ⟨w4.heap.size,0,eL⟩) 2 2,vI 1,fX fj,fX fj,vI 1,fN (.func 128) #[] #[],fN (.func 129) #[] #[],fN (.func 130) #[] #[],fN (.func 131) #[] #[]] 146)).heap.size=w4.heap.size+2):=by have:=HZ.o;simp[ah];omega
 clear H5 jo HZ;generalize(W5.alloc (fL #[eR ⟨#[104,101,108,112]⟩,eR ⟨#[99,97,108,108]⟩] 9)).alloc (fL #[vB 193,eS (eK ⟨w4.heap.size,0,eL⟩) 2 2,vI 1,fX fj,fX fj,vI 1,fN (.func 128) #[] #[],fN (.func 129) #[] #[],fN (.func 130) #[] #[],fN (.func 131) #[] #[]] 146)=W6 at *;refine(jR _ _ 194 rfl _ [101,120,105,116] rfl _ [] _ _ (PartsAt.none W6) (by decide) (by decide) _ rfl ⟨rfl,rfl⟩).mono ?_;rintro e w7 ⟨b7,rfl,h7,l7,m7⟩;have h8:=h7.ends;have HL7:ah (w4.heap.size+2<=b7):=by have:=NR.o;exact(by omega:w4.heap.size+2<=b7)
 have HLW:ah (w.heap.size<=b7):=by have:=NQ.o;have:=iH.o;have:=HL7.o;exact(by omega:w.heap.size<=b7)
 have Iu:ah (aa af w (w7.setCell ⟨b7,4,eL⟩ (fX fR))):=(xW.o.trans m7).set (.inr HLW.o) _;have H8:=aq h8;have H84:ah (dO (w7.setCell ⟨b7,4,eL⟩ (fX fR)) b4 _):=(H6.o.ai m7).other h7.yV (by have:=iH.o;have:=HL7.o;omega) 4 _;have H8C:ah (dO (w7.setCell ⟨b7,4,eL⟩ (fX fR)) (w4.heap.size+1) Jd):=(HC.o.ai m7).other h7.yV (by have:=HL7.o;omega) 4 _;obtain⟨o2,n2,c2',f6',c6',k7',c7',k8',c8',f9',c9',hblk',_⟩:=h7.ex;have y4:=hblk'.cell 4;have fy4:=hblk'.frozen 4;simp at y4;have HZ8:ah ((w7.setCell ⟨b7,4,eL⟩ (fX fR)).heap.size=w7.heap.size):=by simp[ah,World.setCell]
 clear hblk' h7 h8 m7 l7 HC H6 xW;go_wp2_with fail;go_ret;refine⟨_,[b4,w4.heap.size+1,b7],rfl,?_,Iu.o.alloc _⟩;show aM w.heap.size _ (eS (eK ⟨w7.heap.size,0,eL⟩) 3 3) _ _
 rw[<-HZ8.o];refine aM.fresh [b4,w4.heap.size+1,b7] Gj rfl ?_ ?_ ?_ _ rfl 3 rfl (by decide) Iu.o.size
 ·have:=iH.o;have:=HL7.o;simp;omega
 ·have:=NQ.o;have:=iH.o;have:=HL7.o;simp;omega
 ·intro i h h';have hi:i=0\/i=1\/i=2:=by simp at h;omega
  rcases hi with rfl|rfl|rfl
  ·exact H84.o
  ·exact H8C.o
  ·exact H8.o
theorem UU(w:tW)(n:Nat)(h0:0<n)(hn:n<=1000):fS prog 103 #[vN,vI n] w λe w'=>∃cap,e=fW (eS (eK ⟨w.heap.size,0,eL⟩) 0 cap)/\Sl w' 135 1 (eS (eK ⟨w.heap.size,0,eL⟩) 0 cap) 0 []/\aa af w w':=by
 obtain⟨iP,hiP,sP,hsP,xz⟩:=oY uy;have hold:(Builtin.firstCells iP.size 0 (vN)).run prog w.drew=.ok ([]:tLV).toArray w.drew:=run_firstCells_none w.drew iP.size 0 0 0
 have hrz:=λty=>by
  have h:=Lib.run_append_grow_zeros w 93 3 ty 135 iP (vO) .i64 .i64 underlying93 underlying3 hiP sP eL 0 0 [] hold n h0 (by rw[hsP];decide) (by omega) (by omega) (by rw[xz];omega)
   (by rw[xz,cx];exact growslice_fits (by omega) (by omega))
  rw[cx]at h;exact h
 have hGn:n<=pS w n 0 135:=grownCap_ge w _ _ _;have hGm:=grownCap_le_maxLen w n 0 135 (by unfold jz;omega);have hsz:(([]:tLV).toArray++Builtin.zeroCells (Value.pointer eL).cells n++Builtin.zeroCells (Value.pointer eL).cells (pS w n 0 135-n)).size=pS w n 0 135:=by simp[Builtin.zeroCells,Value.cells];omega
 generalize([]:tLV).toArray++Builtin.zeroCells (Value.pointer eL).cells n++Builtin.zeroCells (Value.pointer eL).cells (pS w n 0 135-n)=cs at *;generalize pS w n 0 135=G at *;have hS:Sl (w.drew.alloc (fL cs 135)) 135 1 (eS (eK ⟨w.heap.size,0,eL⟩) 0 G) 0 []:=Yn.sl ⟨bh _,hGm,by omega,by simp,rfl⟩ (au.new w.drew cs 135);have HS:ah _:=hS;unfold jz at hGm;clear hold hS;go_in;go_wp2_with (at_builtin;refine Lib.wpList_append_run _ rfl _ _ _ _ rfl _ _ rfl rfl _ _ (hrz _) ?_)
 all_goals
  go_ret;exact⟨G,rfl,HS.o,aN.alloc _⟩
structure Seg where
 g:Nat
 c:Nat
 bs:tLN
 os:List fO
def Seg.val(s:Seg):fa:=eS (eK ⟨s.g,0,eL⟩) (eJ s.bs) s.c
theorem aM.keep{base:Nat}{w w':tW}{v u:fa}{bs:tLN}{os:List fO}{n:Nat}{xs:tLV}(h:aM base w v bs os)(hu:Sl w 135 1 u n xs)(m:aa (λk=>u.ownBlock=eK k) w w')(hne:∀k,v.ownBlock=eK k->u.ownBlock≠eK k):aM base w' v bs os:=by have hk:=aa.Gm hu m;refine⟨h.len,h.nd,h.sl.ai m (λk hk' e=>hne k hk' e),λi h1 h2=>?_,h.lo,h.own⟩;have ha:=h.at' i h1 h2;exact ha.kpb hk (m.block _ ha.lt (λe=>ha.Li hu e))
structure QB(w0:tW)(bB:List Seg)(k:Nat)(v:fa)(w:tW):Prop where
 acc:aM 0 w v ((bB.take k).flatMap Seg.bs) ((bB.take k).flatMap Seg.os)
 each:∀s∈bB,aM 0 w s.val s.bs s.os
 own:∀s∈bB,v.ownBlock≠eK s.g
 new:∀j,v.ownBlock=eK j->w0.heap.size<=j
 md:aa af w0 w
theorem Lx(bB:List Seg)(k:Nat)(hs:∀s∈bB,eJ s.bs<=100):eJ ((bB.take k).flatMap Seg.bs)<=100*eJ bB:=by
 have h:∀l:List Seg,(∀s∈l,eJ s.bs<=100)->eJ (l.flatMap Seg.bs)<=100*eJ l:=by
  intro l;induction l with
  |nil=>intro _;simp
  |cons x l ih =>intro hl;have h1:=hl x (by simp);have h2:=ih (λs hs=>hl s (List.mem_cons_of_mem _ hs));rw[bt,b5,cG];omega
 have h1:=h (bB.take k) (λs hs'=>hs s (List.mem_of_mem_take hs'));have h2:eJ (bB.take k)<=eJ bB:=by simp;omega
 omega
theorem GK(bB:List Seg)(k:Nat)(h:k<eJ bB):eJ ((bB.take (k+1)).flatMap Seg.bs)=eJ ((bB.take k).flatMap Seg.bs)+eJ bB[k].bs:=by rw[ab h,ba,b5];simp
theorem Zu(bB:List Seg)(h0:0<eJ bB)(h:∀s∈bB,0<eJ s.bs):0<eJ (bB.flatMap Seg.bs):=by
 match bB,h0,h with
 |s::l,_,h =>have:=h s List.mem_cons_self;rw[bt,b5];omega
theorem QB.step{w0 w w':tW}{bB:List Seg}{k:Nat}{v v':fa}(h:QB w0 bB k v w)(hk:k<eJ bB)(hnd:(bB.flatMap Seg.bs).Nodup)(hsl:Sl w' 135 1 v' (eJ ((bB.take k).flatMap Seg.bs)+eJ bB[k].bs) (((bB.take k).flatMap Seg.bs).map gH++bB[k].bs.map gH)) (m:aa (λj=>v.ownBlock=eK j) w w') (ho:∀j,v'.ownBlock=eK j->v.ownBlock=eK j\/w.heap.size<=j):QB w0 bB (k+1) v' w':=by
 have e1:(bB.take (k+1)).flatMap Seg.bs=(bB.take k).flatMap Seg.bs++bB[k].bs:=by rw[ab hk,ba];simp
 have e2:(bB.take (k+1)).flatMap Seg.os=(bB.take k).flatMap Seg.os++bB[k].os:=by rw[ab hk,ba];simp
 have hs:=h.each bB[k] (bj hk);refine⟨?_,λs hs'=>?_,λs hs' e=>?_,λj hj=>?_,h.md.step m (λi hi e=>by have:=h.new i e;omega)⟩
 ·rw[e1,e2];refine h.acc.app hs.len ?_ hs.at' hs.lo hsl m ho (bh _);rw[<-e1];have e3:bB.flatMap Seg.bs=(bB.take (k+1)).flatMap Seg.bs++(bB.drop (k+1)).flatMap Seg.bs:=by rw[<-ba,List.take_append_drop]
  rw[e3]at hnd;exact(List.nodup_append.1 hnd).1
 ·exact(h.each s hs').keep h.acc.sl m (λj hj e=>h.own s hs' (by rw[e];cases hj;rfl))
 ·rcases ho _ e with e'|e'
  ·exact h.own s hs' e'
  ·have:=(h.each s hs').sl.lt s.g rfl;omega
 ·rcases ho j hj with e|e
  ·exact h.new j e
  ·have:=h.md.size;omega
theorem LA(w:tW)(g c:Nat)(bB:List Seg)(hS:Sl w 93 1 (eS (eK ⟨g,0,eL⟩) (eJ bB) c) (eJ bB) (bB.map Seg.val))(he:∀s∈bB,aM 0 w s.val s.bs s.os)(hb:∀s∈bB,0<eJ s.bs/\s.bs.length<=100)(hl:eJ bB<=10)(h0:0<eJ bB)(hnd:(bB.flatMap Seg.bs).Nodup):fS prog 63 #[eS (eK ⟨g,0,eL⟩) (eJ bB) c] w λe w'=>∃v,e=fW v/\aM 0 w' v (bB.flatMap Seg.bs) (bB.flatMap Seg.os)/\aa af w w':=by
 obtain⟨iP,hiP,sP,hsP,xz⟩:=oY uy;have hcell:∀(k:Nat) (hk:k<eJ bB),w.cell? ⟨g,k,eL⟩=eK (eS (eK ⟨bB[k].g,0,eL⟩) (eJ bB[k].bs) bB[k].c):=by intro k hk;obtain⟨g',hg',cs⟩:=hS.at rfl k hk;cases hg';rw[cs k hk];simp[hk,Seg.val]
 have agn:=hS.lt g rfl
 have afi:∀s∈bB,g≠s.g:=by
  intro s hs e;have h1:=(he s hs).sl;rcases h1.2 with⟨h1,_⟩ |⟨g1,_,_,hv,_,hb1,_⟩
  ·cases h1
  ·cases hv;rcases hS.2 with⟨h2,_⟩ |⟨g2,_,_,hv2,_,hb2,_⟩
   ·cases h2
   ·cases hv2;rw[e]at hb2;rw[hb1]at hb2;cases hb2
 have HC:=aq hcell;have HE:=aq he;have HB:=aq hb;have HND:ah _:=hnd;obtain⟨F,HF⟩:∃F:Nat->Nat,ah (∀k,F k=eJ ((bB.take k).flatMap Seg.bs)):=⟨λk=>eJ ((bB.take k).flatMap Seg.bs),λ_=>rfl⟩
 obtain⟨X,HX⟩:∃X:Nat->tLV,ah (∀k,X k=((bB.take k).flatMap Seg.bs).map gH):=⟨λk=>((bB.take k).flatMap Seg.bs).map gH,λ_=>rfl⟩
 have UW:ah (∀k,F k<=1000):=λk=>by have:=Lx bB k (λs hs=>(HB.o s hs).2);rw[HF.o k];omega
 have HST:ah (∀k (hk:k<eJ bB),F (k+1)=F k+eJ bB[k].bs):=λk hk=>by rw[HF.o,HF.o];exact GK bB k hk
 have HF0:ah (F 0=0):=by rw[ah,HF.o];rfl
 have HP:ah (0<F (eJ bB)):=by rw[ah,HF.o,cH];exact Zu bB h0 (λs hs=>(HB.o s hs).1)
 clear hcell he hb hnd hS afi;go_in;go_upto_block 0 with fail;go_cut [3] (λsv wl=>sv=vI (F (eJ bB))/\wl=w)
 case first =>
  go_wp2_with fail;go_loop [3,11] (λsv i=>∃k:Nat,k<=eJ bB/\i=vI k/\sv=vI (F k)) (λ_ i=>eJ bB-(intOf i).toNat)
  case atStart=>exact⟨0,bh _,rfl,by rw[HF0.o];rfl⟩
  case round =>
   obtain⟨k,hk,rfl,rfl⟩:=hrel;by_cases hlt:k<eJ bB
   ·have ck:=HC.o k hlt;have e1:=HST.o k hlt;have e2:=UW.o k;have e3:=UW.o (k+1);have HK:=aq e1;rw[e1]at e3;clear e1;generalize eJ bB[k].bs=sn at *;generalize bB[k].g=sg at *;generalize bB[k].c=sc at *;go_wp2_with fail;go_round
    case rel=>exact⟨k+1,by omega,by go_num,by rw[HK.o];go_num⟩
    case measure=>simp[intOf];omega
   ·obtain rfl:k=eJ bB:=by omega
    go_wp2_with fail;go_meet;exact⟨rfl,rfl⟩
 case rest =>
 obtain⟨rfl,hw⟩:=hcut;have hw':=hw.symm;clear hw;subst hw';have hp:=HP.o;have hm:=UW.o (eJ bB);go_wp2_with fail;refine(UU _ _ hp hm).mono ?_;rintro e w1 ⟨cap,rfl,s1,m1⟩;have HR:ah (QB w bB 0 (eS (eK ⟨w.heap.size,0,eL⟩) 0 cap) w1):=⟨⟨rfl,List.nodup_nil,s1,λi h=>absurd h (by simp),λb h=>(by cases h),λ_ _=>bh _⟩,λs hs=>(HE.o s hs).ai m1,λs hs e=>by have h1:=(HE.o s hs).sl.lt s.g rfl;have h2:w.heap.size=s.g:=Option.some.inj e;omega,λj hj=>by cases hj;exact cD _,m1⟩
 clear s1 m1;generalize F (eJ bB)=FL at *;go_wp2_with fail;go_loopw [6,27] (λv i wl=>∃k:Nat,k<=eJ bB/\i=vI k/\QB w bB k v wl) (λ_ i _=>eJ bB-(intOf i).toNat)
 case atStart=>exact⟨0,bh _,rfl,HR.o⟩
 case round =>
  obtain⟨k,hk,rfl,hr⟩:=hrel;clear HR;have HR:=aq hr;by_cases hlt:k<eJ bB
  ·have hlt':=hlt;have ck:=qc hr.md (HC.o k hlt);have HSg:=aq (hr.each bB[k] (bj hlt'));have hbk:=HB.o bB[k] (bj hlt')
   have HNw:ah (∀j u,(bB[k].bs.map gH)[j]?=eK u->wr.cell? ((⟨bB[k].g,0,eL⟩:Addr).add j)=eK u):=λj u hu=>by
    obtain⟨g',hg',cs⟩:=HSg.o.sl.at rfl 0 hbk.1;cases hg';have hadd:(⟨bB[k].g,0,eL⟩:Addr).add j=⟨bB[k].g,j,eL⟩:=by unfold Addr.add;split<;>simp_all
    have hj:j<eJ bB[k].bs:=by
     have:=(List.getElem?_eq_some_iff.1 hu).1
     simpa using this
    rw[hadd,cs j hj];exact hu
   have e2:=UW.o k;have e3:=UW.o (k+1);rw[HST.o k hlt']at e3;have HSl:ah (Sl wr 135 1 u6 (F k) (X k)):=by have:=hr.acc.sl;rw[ah,HF.o,HX.o];exact this
   have adp:ah (∀v' w',Sl w' 135 1 v' (F k+eJ bB[k].bs) (X k++bB[k].bs.map gH)->aa (λj=>u6.ownBlock=eK j) wr w'->(∀j,v'.ownBlock=eK j->u6.ownBlock=eK j\/wr.heap.size<=j)->QB w bB (k+1) v' w'):=λv' w' s m l=>by rw[HF.o,HX.o]at s;exact HR.o.step hlt' HND.o s m l
   have Io:ah (eJ (bB[k].bs.map gH)=eJ bB[k].bs*1):=by simp[ah]
   have Cr:ah (∀u∈bB[k].bs.map gH,u.oneCell'=fR):=uz _;clear hr HSg;generalize bB[k].bs.map gH=nws at *;generalize eJ bB[k].bs=sn at *;generalize bB[k].g=sg at *;generalize bB[k].c=sc at *;generalize X k=xk at *;generalize F k=fk at *;go_wp2_with (at_builtin;refine aQ _ rfl (.tmp 31) (.tmp 32) 93 rfl 135 iP (vO) 1 8 underlying93 hiP sP hsP xz rfl (by decide) u6 fk xk rfl HSl.o ⟨sg,0,eL⟩ sn sc nws rfl Io.o HNw.o Cr.o (by unfold jz;omega) (by omega) ?_;intro vA wA sA mA lA;obtain⟨oA,cA,rfl,_⟩:=Sl.view sA);go_roundw
   case rel=>exact⟨k+1,by omega,by go_num,adp.o _ _ sA mA lA⟩
   case measure=>simp[intOf];omega
  ·obtain rfl:k=eJ bB:=by omega
   have hA:=HR.o.acc;rw[cH]at hA;have HA:ah _:=hA;clear hA hr;go_wp2_with fail;go_ret;exact⟨_,rfl,HA.o,HR.o.md⟩
theorem aM.base{base b2:Nat}{w:tW}{v:fa}{bs:tLN}{os:List fO}(h:aM base w v bs os)(hb:b2<=base):aM b2 w v bs os :=
 ⟨h.len,h.nd,h.sl,h.at',λb hb'=>Nat.le_trans hb (h.lo b hb'),λk hk=>Nat.le_trans hb (h.own k hk)⟩
theorem aM.CR{base:Nat}{w:tW}{v:fa}{bs:tLN}{os:List fO}(h:aM base w v bs os)(h0:0<eJ os):∃g c,v=eS (eK ⟨g,0,eL⟩) (eJ bs) c:=by obtain⟨o,c,rfl,hh⟩:=h.sl.view;obtain⟨g,cs,rfl,_⟩:=hh (by rw[h.len];exact h0);exact⟨g,c,rfl⟩
theorem Ah(w:tW)(hE:uS w):fS prog 37 #[] w λe w'=>∃v bs,e=fW v/\aM 0 w' v bs az/\aa af w w':=by
 have HE:=aq hE;clear hE;go_in;go_wp2_with fail;refine(Gp _).mono ?_;rintro e w1 ⟨v1,bs1,rfl,o1,m1⟩;obtain⟨g1,c1,rfl⟩:=o1.CR (by decide);have O1:ah _:=o1;have M1:ah _:=m1;clear o1 m1;go_wp2_with fail;refine(Jb _).mono ?_;rintro e w2 ⟨v2,bs2,rfl,o2,m2⟩;obtain⟨g2,c2,rfl⟩:=o2.CR (by decide);have O2:ah _:=o2;have M2:ah _:=m2;clear o2 m2;go_wp2_with fail;refine(Lu _ (HE.o.ai (M1.o.trans M2.o))).mono ?_;rintro e w3 ⟨v3,bs3,rfl,o3,m3⟩;obtain⟨g3,c3,rfl⟩:=o3.CR (by decide);have O3:ah _:=o3;have M3:ah _:=m3;clear o3 m3;go_wp2_with fail;refine(GJ _).mono ?_;rintro e w4 ⟨v4,bs4,rfl,o4,m4⟩;obtain⟨g4,c4,rfl⟩:=o4.CR (by decide);have O4:ah _:=o4;have M4:ah _:=m4;clear o4 m4;have l1:eJ bs1=50:=O1.o.len.trans (by decide);have l2:eJ bs2=23:=O2.o.len.trans (by decide);have l3:eJ bs3=12:=O3.o.len.trans (by decide);have l4:eJ bs4=3:=O4.o.len.trans (by decide)
 have HK:ah (∃bB:List Seg,bB=[⟨g1,c1,bs1,La⟩,⟨g2,c2,bs2,NG⟩,⟨g3,c3,bs3,abu⟩,⟨g4,c4,bs4,Gj⟩]/\(∀s∈bB,aM 0 w4 s.val s.bs s.os)/\(∀s∈bB,0<eJ s.bs/\s.bs.length<=100)/\(bB.flatMap Seg.bs).Nodup):=by
  refine⟨_,rfl,?_,?_,?_⟩
  ·simp only[ar,al,or_false];rintro s (rfl|rfl|rfl|rfl)
   ·exact(((O1.o.ai M2.o).ai M3.o).ai M4.o).base (bh _)
   ·exact((O2.o.ai M3.o).ai M4.o).base (bh _)
   ·exact(O3.o.ai M4.o).base (bh _)
   ·exact O4.o.base (bh _)
  ·simp only[ar,al,or_false];rintro s (rfl|rfl|rfl|rfl)<;>simp only<;>omega
  ·have a1:=O1.o.lt;have a2:=O2.o.lt;have a3:=O3.o.lt;have b2:=O2.o.lo;have b3:=O3.o.lo;have b4:=O4.o.lo;have s2:=M2.o.size;have s3:=M3.o.size;simp only[bt,cI,List.append_nil];rw[b9,b9,b9];refine⟨O1.o.nd,⟨O2.o.nd,⟨O3.o.nd,O4.o.nd,λa ha b hb e=>?_⟩,λa ha b hb e=>?_⟩,λa ha b hb e=>?_⟩
   ·have:=a3 a ha;have:=b4 b hb;omega
   ·rcases List.mem_append.1 hb with hb|hb
    ·have:=a2 a ha;have:=b3 b hb;omega
    ·have:=a2 a ha;have:=b4 b hb;omega
   ·rcases List.mem_append.1 hb with hb|hb
    ·have:=a1 a ha;have:=b2 b hb;omega
    ·rcases List.mem_append.1 hb with hb|hb
     ·have:=a1 a ha;have:=b3 b hb;omega
     ·have:=a1 a ha;have:=b4 b hb;omega
 have HM:=aq (((M1.o.trans M2.o).trans M3.o).trans M4.o);rw[l1,l2,l3,l4]
 have HS:ah (Sl (w4.alloc (fL #[eS (eK ⟨g1,0,eL⟩) 50 c1,eS (eK ⟨g2,0,eL⟩) 23 c2,eS (eK ⟨g3,0,eL⟩) 12 c3,eS (eK ⟨g4,0,eL⟩) 3 c4] 93)) 93 1 (eS (eK ⟨w4.heap.size,0,eL⟩) 4 4) 4 [eS (eK ⟨g1,0,eL⟩) 50 c1,eS (eK ⟨g2,0,eL⟩) 23 c2,eS (eK ⟨g3,0,eL⟩) 12 c3,eS (eK ⟨g4,0,eL⟩) 3 c4]) :=
  Yn.sl ⟨cD _,by unfold jz;decide,rfl,rfl,rfl⟩ (au.new w4 _ 93)
 clear O1 O2 O3 O4 M1 M2 M3 M4 HE;go_wp2_with fail;obtain⟨bB,he,h1,h2,h3⟩:=HK.o;have hS:Sl (w4.alloc (fL #[eS (eK ⟨g1,0,eL⟩) 50 c1,eS (eK ⟨g2,0,eL⟩) 23 c2,eS (eK ⟨g3,0,eL⟩) 12 c3,eS (eK ⟨g4,0,eL⟩) 3 c4] 93)) 93 1 (eS (eK ⟨w4.heap.size,0,eL⟩) (eJ bB) 4) (eJ bB) (bB.map Seg.val):=by rw[he];simp only[List.map_cons,List.map_nil,Seg.val,l1,l2,l3,l4];exact HS.o
 have hC:=LA _ _ _ bB hS (λs hs=>(h1 s hs).ai aw) h2 (by rw[he];simp) (by rw[he];simp) h3;have e4:eJ bB=4:=by rw[he];rfl
 rw[e4]at hC;refine hC.mono ?_;rintro e w5 ⟨v5,rfl,o5,m5⟩
 have O5:ah (aM 0 w5 v5 (bB.flatMap Seg.bs) az):=by
  have e5:bB.flatMap Seg.os=az:=by rw[he];simp only[bt,cI,List.append_nil,az,cy]
  rw[ah,<-e5];exact o5
 have M5:=aq ((HM.o.alloc _).trans m5);clear o5 m5 hC hS;go_wp2_with fail;go_ret;exact⟨_,_,rfl,O5.o,M5.o⟩
theorem contains_eq(ws:List tLB)(x:tLB):Lib.containsS (ws.map T) (T x)=ws.contains x:=by
 rw[Bool.eq_iff_iff,Lib.containsS_iff,List.contains_iff_mem,List.mem_map];constructor
 ·rintro⟨a,ha,e⟩;rw[<-pg e];exact ha
 ·intro h;exact⟨x,h,rfl⟩
theorem xA(ws:List tLB)(x:tLB)(v:fa)(w:tW)(h:Sl w 9 1 v (eJ ws) (ws.map (λt=>eR (T t))))(hn:0<eJ ws)(hl:eJ ws<=1000):fS prog 255 #[v,eR (T x)] w λe w'=>e=fW (fX (ws.contains x))/\w'=w:=by
 obtain⟨o,c,rfl,h2⟩:=h.view;obtain⟨g,cs,rfl,hb,ht,_,_⟩:=h2 hn
 have:=Any.slices_Contains_string lk g 0 (eJ ws) c (ws.map T) (T x) w (by simp) (by omega) (λj hj=>by
  have hj':j<eJ ws:=by simpa using hj
  rw[cx,aV hb ht j (by omega)];simp[hj'])
 rw[cq (by simp),contains_eq]at this;exact this
theorem Fu(o:fO):0<eJ o.words/\o.words.length<=2:=by unfold fO.words;split<;>simp
theorem dO.abz{w:tW}{b:Nat}{o:fO}(h:dO w b o)(x:tLB):∃v1:fa,(∃a n c,v1=eS a n c)/\(∀w',aa af w w'->w'.cell? ⟨b,1,eL⟩=eK v1)/\∀w',aa af w w'->fS prog 255 #[v1,eR (T x)] w' λe w''=>e=fW (fX (o.words.contains x))/\w''=w':=by obtain⟨o1,n1,c1,f6,c6,k7,c7,k8,c8,f9,c9,hblk,GL⟩:=h.ex;have hw:=Fu o;exact⟨_,⟨_,_,_,rfl⟩,λw' m=>(hblk.ai m id).cell 1,λw' m=>xA _ x _ w' (GL.ws.ai m (λ_ _=>id)) hw.1 (by omega)⟩
theorem Je{w:tW}{v:fa}{bs:tLN}{os:List fO}(h:aM 0 w v bs os):∃o c,v=eS o (eJ os) c/\∀k (hk:k<eJ os),∃g,o=eK ⟨g,0,eL⟩/\∀w',aa af w w'->w'.cell? ⟨g,k,eL⟩=eK (vP (bs[k]?.getD 0)):=by
 obtain⟨o,c,hv,h2⟩:=h.sl.view;rw[h.len]at hv;refine⟨o,c,hv,λk hk=>?_⟩;have hkb:k<eJ bs:=by rw[h.len];exact hk
 obtain⟨g,cs,ho,hb,ht,_,_⟩:=h2 (by omega);refine⟨g,ho,λw' m=>?_⟩;rw[aV (hb.ai m id) ht k (by omega),List.getElem?_map,List.getElem?_eq_getElem hkb];rfl
theorem UX{w:tW}{v:fa}{bs:tLN}{os:List fO}(h:aM 0 w v bs os)(k:Nat)(hk:k<eJ os):dO w (bs[k]?.getD 0) os[k]:=by
 have hkb:k<eJ bs:=by rw[h.len];exact hk
 have:=h.at' k hkb hk;rw[List.getElem?_eq_getElem hkb];exact this
theorem LB(wT w:tW)(v:fa)(bs:tLN)(x:tLB)(hO:aM 0 wT v bs az)(m:aa af wT w):fS prog 254 #[v,eR (T x)] w λe w'=>e=fW (fX (kQ x))/\w'=w:=by
 have hO1:=hO.ai m;obtain⟨o,c,rfl,hcell⟩:=Je hO1;have HAT:=aq (λk hk=>UX hO1 k hk);have HB:ah (∀k,(∀j (hj:j<k) (h:j<eJ az),az[j].words.contains x=fj)->eJ az<=k->kQ x=fj):=λk h1 h2=>by unfold kQ;rw[List.any_eq_false];intro y hy;obtain⟨j,hj,rfl⟩:=cw hy;rw[h1 j (by omega) hj];simp
 have HB1:ah (∀k (h:k<eJ az),az[k].words.contains x=fR->kQ x=fR):=λk h h1=>by unfold kQ;rw[List.any_eq_true];exact⟨_,bj h,h1⟩
 have adq:eJ az<=1000:=by rw[fF];omega
 have HC:=aq hcell;clear hO hO1 m hcell;generalize kQ x=bx at *;generalize az=os at *;go_in;go_wp2_with fail;go_loop [9] (λv=>∃k:Nat,k<=eJ os/\v=vI k/\∀j (hj:j<k) (h:j<eJ os),os[j].words.contains x=fj) (λv=>eJ os-(intOf v).toNat)
 case atStart=>exact⟨0,bh _,rfl,λj hj=>absurd hj (Nat.not_lt_zero _)⟩
 case round =>
  obtain⟨k,hk,rfl,hj⟩:=hrel;have HJ:=aq hj;clear hj;by_cases hlt:k<eJ os
  ·obtain⟨g,rfl,hg⟩:=HC.o k hlt;have q0:=hg w ax;obtain⟨v1,⟨va,vn,vc,rfl⟩,hv1,hct⟩:=(HAT.o k hlt).abz x;have q1:=hv1 w ax;have Yp:=aq (hct w ax);clear hg hv1 hct HC;cases hc:os[k].words.contains x with
   |true =>have HX:=aq (HB1.o k hlt hc);go_wp2_with fail;refine Yp.o.mono ?_;rintro e w1 ⟨rfl,rfl⟩;rw[hc];go_wp2_with fail;go_ret;rw[HX.o];exact⟨rfl,rfl⟩
   |false =>
    have Iw:ah (∀j (hj:j<k+1) (h:j<eJ os),os[j].words.contains x=fj):=λj hj h=>by
     rcases Nat.lt_or_ge j k with e|e
     ·exact HJ.o j e h
     ·have:j=k:=by omega
      subst this;exact hc
    go_wp2_with fail;refine Yp.o.mono ?_;rintro e w1 ⟨rfl,rfl⟩;rw[hc];go_wp2_with fail;go_round
    case rel=>exact⟨k+1,by omega,by go_num,Iw.o⟩
    case measure=>simp[intOf];omega
  ·have HX:=aq (HB.o k HJ.o (by omega));go_wp2_with fail;go_ret;rw[HX.o];exact⟨rfl,rfl⟩
theorem jS{P:Program}{fn:Func}{p u1 u2:Tmp}{ty:ju}(h:fn.results=#[.cell p ty,.tmp u1,.tmp u2])(tmps:tAV)(w:tW)(g:Nat)(t:ju)(cs:tAV)(fr:Nat×Nat)(d:TypeDesc)(v1 v2:fa)(hp:tmps.getD p kO=vP g) (hv1:tmps.getD u1 kO=v1) (hv2:tmps.getD u2 kO=v2) (hg:w.heap[g]?=eK (fL cs t fr))(hu:P.underlying ty=eK d) (hd:(match d with|.struct _|.array _ _=>fR|_=>fj)=fR) (hi:(P.info? ty).map (·.size)=eK cs.size):(results fn tmps).run P w=.ok (jl #[fY cs,v1,v2]) w:=by
 have hp':tmps[p]?.getD kO=vP g:=by simpa using hp
 have h1':tmps[u1]?.getD kO=v1:=by simpa using hv1
 have h2':tmps[u2]?.getD kO=v2:=by simpa using hv2
 simp only[results,h];simp[hp',h1',h2',asAddr,run_loadVar_row w g t ty cs fr d hg hu hd hi]
structure dH.rA(r:dH):Prop where
 d:r.d<=15
 s:r.s<=15
 j0:-32768<=r.jump
 j1:r.jump<=32767
 n0:-2147483648<=r.num
 n1:r.num<=2147483647
 h0:-2147483648<=r.high
 h1:r.high<=2147483647
 l:eJ r.label<=100
 m:eJ r.name<=300
theorem xX{l:tLB}(h:nameB l=fR):eJ l<=16:=by unfold nameB at h;simp only[Bool.and_eq_true,decide_eq_true_eq]at h;exact h.1.1
theorem Jf{w:tLB}{n:Nat}(h:dw w=eK n):n<=10:=by unfold dw at h;have h2:=List.mem_of_find?_eq_some h;simp at h2;omega
theorem Fv(v:Nat):-2147483648<=uj v/\uj v<=2147483647:=by unfold uj;omega
theorem UY(p:PK)(r r':dH)(h:p.read r=eK r')(hf:r.rA):r'.rA:=by
 obtain⟨fd,fs,UZ,U0,fn0,Yq,Tu,Tv,fl,fm⟩:=hf
 have hm:∀c:UInt8,r.mark c=eK r'->r'.rA:=λc h=>by
  unfold dH.mark at h;split at h
  ·cases h;exact⟨fd,fs,UZ,U0,fn0,Yq,Tu,Tv,fl,fm⟩
  ·cases h
 have hd:r.Co=eK r'->r'.rA:=λh=>by unfold dH.Co at h;obtain⟨v,hv,rfl⟩:=Option.map_eq_some_iff.1 h;exact⟨by have:=Jf hv;show v<=15;omega,fs,UZ,U0,fn0,Yq,Tu,Tv,fl,fm⟩
 have hs:r.EA=eK r'->r'.rA:=λh=>by unfold dH.EA at h;obtain⟨v,hv,rfl⟩:=Option.map_eq_some_iff.1 h;exact⟨fd,by have:=Jf hv;show v<=15;omega,UZ,U0,fn0,Yq,Tu,Tv,fl,fm⟩
 have hn:r.number=eK r'->r'.rA:=λh=>by unfold dH.number at h;obtain⟨v,hv,rfl⟩:=Option.map_eq_some_iff.1 h;have:=mK v.1 2147483648 (by omega);exact⟨fd,fs,UZ,U0,this.1,by have:=this.2;show(v.1.dC 2147483648).getD 0<=2147483647;omega,Tu,Tv,fl,fm⟩
 have hl:r.lab=eK r'->r'.rA:=λh=>by
  unfold dH.lab at h;split at h
  ·rename_i hb
   cases h;exact⟨fd,fs,UZ,U0,fn0,Yq,Tu,Tv,by have:=xX hb;show(aK r.rest).1.length<=100;omega,fm⟩
  ·cases h
 have ho:r.off=eK r'->r'.rA:=λh=>by
  unfold dH.off at h;split at h
  ·obtain⟨v,hv,rfl⟩:=Option.map_eq_some_iff.1 h;have:=mK ⟨v,fR⟩ 32768 (by omega);exact⟨fd,fs,this.1,by have:=this.2;show((bI.mk v fR).dC 32768).getD 0<=32767;omega,fn0,Yq,Tu,Tv,fl,fm⟩
  ·split at h
   ·obtain⟨v,hv,rfl⟩:=Option.map_eq_some_iff.1 h;have:=mK ⟨v,fj⟩ 32768 (by omega);exact⟨fd,fs,this.1,by have:=this.2;show((bI.mk v fj).dC 32768).getD 0<=32767;omega,fn0,Yq,Tu,Tv,fl,fm⟩
   ·cases h;exact⟨fd,fs,UZ,U0,fn0,Yq,Tu,Tv,fl,fm⟩
 have hwd:r.wide=eK r'->r'.rA:=λh=>by
  unfold dH.wide at h;split at h
  ·split at h
   ·rename_i hb
    cases h;exact⟨fd,by show 1<=15;omega,UZ,U0,fn0,Yq,Tu,Tv,fl,by have:=xX hb;show(aK (aK r.rest).2).1.length<=300;omega⟩
   ·cases h
  ·obtain⟨v,hv,rfl⟩:=Option.map_eq_some_iff.1 h;have h1:=Fv (v.1.eX.getD 0);have h2:=Fv (v.1.eX.getD 0/4294967296);exact⟨fd,fs,UZ,U0,h1.1,h1.2,h2.1,h2.2,fl,fm⟩
 unfold PK.read at h;split at h
 ·exact hm _ h
 ·exact hm _ h
 ·exact hm _ h
 ·exact hd h
 ·exact hd h
 ·exact hs h
 ·exact hn h
 ·exact hl h
 ·exact ho h
 ·exact hwd h
 ·cases h
theorem CT:∀(ps:List PK) (r r':dH),readPs ps r=eK r'->r.rA->r'.rA
 |[],r,r',h,hf=>by cases h;exact hf
 |p::ps,r,r',h,hf=>by obtain⟨r1,h1,h2⟩:=Option.bind_eq_some_iff.1 (show(p.read r).bind (readPs ps)=eK r' from h);exact CT ps r1 r' h2 (UY p r r1 h1 hf)
theorem U1(r r':dH)(h:r.call=eK r')(hf:r.rA):r'.rA:=by
 obtain⟨fd,fs,UZ,U0,fn0,Yq,Tu,Tv,fl,fm⟩:=hf;unfold dH.call at h;split at h
 ·split at h
  ·rename_i hb
   cases h;exact⟨fd,by show 1<=15;omega,UZ,U0,fn0,Yq,Tu,Tv,fl,by have:=xX hb;show(aK r.rest).1.length<=300;omega⟩
  ·cases h
 ·obtain⟨v,hv,rfl⟩:=Option.map_eq_some_iff.1 h;rw[List.findIdx?_eq_some_iff_getElem]at hv;obtain⟨hv,_⟩:=hv;have hv':v<4:=hv;exact⟨fd,fs,UZ,U0,by show -2147483648<=((1+v:Nat):Int);omega,by show((1+v:Nat):Int)<=2147483647;omega,Tu,Tv,fl,fm⟩
theorem QC(o:fO)(r r':dH)(h:o.read r=eK r')(hf:r.rA):r'.rA:=by
 unfold fO.read at h;split at h
 ·exact U1 r r' h hf
 ·exact CT _ r r' h hf
def BP(x l:tLB):dH:=⟨x,l,0,0,0,0,0,[],[],fj⟩
theorem U2(x l:tLB):(BP x l).rA:=by constructor<;>simp[BP]
def fD.cells(bs:tLN)(x:fD):tAV:=#[vP (bs[x.k]?.getD 0),vB x.r.d,vB x.r.s,.int .i16 x.r.jump,vJ x.r.num,vJ x.r.high,eR (T x.r.label),eR (T x.r.name)]
def yZ:tAV:=#[vO,vB 0,vB 0,.int .i16 0,vJ 0,vJ 0,eR ⟨#[]⟩,eR ⟨#[]⟩]
def uT(w:tW)(bs:tLN)(o:Option fD)(e:Ending)(w':tW):Prop :=
 aa af w w'/\e=fW (match o with|none=>jl #[fY yZ,fX fj,fX fj]|some x=>jl #[fY (x.cells bs),fX x.fits,fX fR])
theorem QD(o:fO)(x y:dM)(h:x.d=y.d/\x.s=y.s/\x.jump=y.jump/\x.num=y.num/\x.high=y.high):o.needs x=o.needs y:=by
 obtain⟨h1,h2,h3,h4,h5⟩:=h;have hr:PK.right x=PK.right y:=by funext p;unfold PK.right;rw[h1,h2,h5]
 unfold fO.needs gT;rw[hr,h1,h2,h3,h4]
def xY(o:fO)(x l:tLB)(k:Nat):Option fD :=
 if o.words.contains x then(match o.read (BP x l)with|none=>eL|some r=>if aC r.rest=[]then eK ⟨k,{r with rest:=[]}⟩else eL)else eL
theorem EE(x l:tLB)(k:Nat)(hk:k<eJ az):readFrom x l k (az.drop k)=match xY az[k] x l k with|some y=>eK y|none=>readFrom x l (k+1) (az.drop (k+1)):=by
 rw[cj hk,readFrom];unfold xY BP;by_cases h1:az[k].words.contains x=fR
 ·rw[iP9 h1,iP9 h1];cases az[k].read ⟨x,l,0,0,0,0,0,[],[],fj⟩with
  |none=>rfl
  |some r =>
   dsimp only;by_cases h2:aC r.rest=[]
   ·rw[iP9 h2,iP9 h2]
   ·rw[iN9 h2,iN9 h2]
 ·rw[iN9 h1,iN9 h1]
section
variable {P : Program} {ops : Array iz} {C : World -> Prop} {es : List Nat}
theorem Jg{Q:Act->tW->Prop}{k:Nat}{o:iz}{rest:List iz}{a:Act}{w:tW}(hw:Region.wanted o (yielded ops a.tmps)=fj)(h:wpMix P ops C es Q (k+1) rest (a.put o.dst kO) w):wpMix P ops C es Q k (o::rest) a w:=by unfold wpMix;rw[hw];exact h
theorem y9{Q:Act->tW->Prop}{k:Nat}{o:iz}{rest:List iz}{a:Act}{w:tW}(hgd:o.guard=eL)(hE:es.contains k=fj)(c x y:Operand)(bv:Bool)(ho:o.op=.pick c x y)(hx:a.eval c=fX bv)(h:wpMix P ops C es Q (k+1) rest (a.put o.dst (if bv then a.eval x else a.eval y)) w):wpMix P ops C es Q k (o::rest) a w:=by unfold wpMix;rw[iP9 (fC hgd _),hE];refine⟨_,λw _=>?_,h⟩;unfold iL;simp only[execOp,ho,hx];exact⟨rfl,rfl⟩
end
def lH(n:Int):List Int:=[n%256,n/256%256]
def oG(n:Int):List Int:=[n%256,n/256%256,n/65536%256,n/16777216%256]
theorem mQ(s:tBA):∀(l:List tBA),-1<=placeM s l/\placeM s l<eJ l
 |[]=>by simp[placeM]
 |x::l=>by
  have:=mQ s l;rw[placeM,cG];split
  ·omega
  ·split
   ·omega
   ·omega
theorem au.apart{w:tW}{a b:Nat}{cs ds:tAV}{t u:ju}(h:au w a cs t)(k:au w b ds u)(ht:t≠u):a≠b:=by rintro rfl;have e:=(show w.heap[a]?=_ from h).symm.trans k;injection e with e;injection e with e1 e2 e3;exact ht e2

theorem au.dJ{w:tW}{g:Nat}{cs ds:tAV}{t:ju}(h:au w g cs t):au (w.setRow g ds) g ds t:=setRow_heap w g cs ds t (0,0) h
theorem aa.dJ{S:Nat->Prop}{w w':tW}{g:Nat}{ds:tAV}(h:aa S w w')(hg:S g\/w.heap.size<=g):aa S w (w'.setRow g ds) :=
 ⟨h.os,h.tape,h.output,by have:=h.size;rw[size_setRow];exact this,λk hk hs=>by rw[setRow_other _ _ _ _ (by rintro rfl;rcases hg with hg|hg;exact hs hg;omega)];exact h.block k hk hs⟩
