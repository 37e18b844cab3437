import Derived.Test.YthnphhgpfedeeaaGreatDoorCF13
namespace Go.Proofs.YthnphhgpfedeeaaGreatDoor
open Go.RowKit Tryz
open Int renaming cast_ofNat_Int->ab
open List renaming not_mem_nil->al,take_succ_eq_append_getElem->an,mem_cons->ao,flatMap_append->ar
set_option linter.all false
set_option maxRecDepth 100000
set_option maxHeartbeats 2000000
def Gv(k:Nat):List dY:={fK 64 [106,97] [.label]with ends:=true}::(nU.zipIdx.take k).flatMap λx=>Eo x.2 x.1
theorem Sq(k:Nat)(h:k<11):Gv (k+1)=Gv k++Eo k (nU[k]'h):=by
 have:∀k:Fin 11,Gv (k.1+1)=Gv k.1++Eo k.1 (nU[k.1]'k.2):=by intro k;unfold Gv;rw[an (by simp;exact k.2),ar];simp;rfl
 exact this ⟨k,h⟩
theorem zQ(k:Nat)(h:k<=11):(Gv k).length=2*k+1:=by
 have:∀k:Fin 12,(Gv k.1).length=2*k.1+1:=by decide +kernel
 exact this ⟨k,by omega⟩
theorem aal(uI:List JV)(hl:uI.length=11)(k:Nat)(hk:k<11)(w:tW):(Instr.index 221 (.agg (juC uI).toArray) (.int .i64 k)).run prog w=.ok (.agg (JV.cells (nU[k]'hk) (uI[k]'(by omega))).toArray) w:=by
 match uI,hl with
 |[a0,a1,a2,a3,a4,a5,a6,a7,a8,a9,a10],_ =>
  have:k=0\/k=1\/k=2\/k=3\/k=4\/k=5\/k=6\/k=7\/k=8\/k=9\/k=10:=by omega
  rcases this with rfl|rfl|rfl|rfl|rfl|rfl|rfl|rfl|rfl|rfl|rfl<;>rfl
theorem JP(k:Nat)(h:k<11):(T (nU[k]'h)).size<=90:=by
 have:∀k:Fin 11,(T (nU[k.1]'k.2)).size<=90:=by decide +kernel
 exact this ⟨k,h⟩
theorem aH.fresh{base:Nat}{w:tW}(cs:List Nat)(os:List dY)(hlen:cs.length=os.length)(hc:cs.Pairwise (·<·))(hlo:∀c∈cs,base<=c)(hat:∀i (h:i<cs.length) (h':i<os.length),bY w cs[i] os[i])(arr:tAV)(ha:arr.toList=cs.map fF)(n:Nat) (hn:cs.length=n) (aeU:n<=100) (hb:base<=w.heap.size):aH base (w.alloc (.cells arr 135)) (.slice (some ⟨w.heap.size,0,none⟩) n n) cs os:=by
 subst hn;refine⟨hlen,hc.imp (λh=>Nat.ne_of_lt h),?_,λi h h'=>(hat i h h').ag aj,hlo,λk hk=>?_⟩
 ·refine VR.sl ⟨Nat.le_refl _,by unfold maxLen;omega,?_,?_,by simp⟩ (ak.new w arr 135)
  ·rw[<-Array.length_toList,ha];simp
  ·rw[ha,List.take_of_length_le (by simp)]
 ·cases hk;exact hb
def dY.asJ(o:dY):dY:={o with jumps:=true}
def om(os:List dY)(k:Nat):List dY:=(os.take k).map dY.asJ++os.drop k
theorem JQ(os:List dY):om os 0=os:=by simp[om]
theorem NV(os:List dY):om os os.length=os.map dY.asJ:=by simp[om]
theorem ue(os:List dY)(k:Nat):(om os k).length=os.length:=by simp[om];omega
theorem JR(os:List dY)(k:Nat)(h:k<os.length):om os (k+1)=(om os k).set k os[k].asJ:=by
 unfold om;rw[an h,List.drop_eq_getElem_cons h,List.map_append];have hl:((os.take k).map dY.asJ).length=k:=by simp;omega
 rw[List.set_append,iN9 (by omega),hl,Nat.sub_self,List.append_assoc];rfl
theorem Sr(os:List dY)(k:Nat)(h:k<os.length):(om os k)[k]'(by rw[ue];exact h)=os[k]:=by
 have hl:((os.take k).map dY.asJ).length=k:=by simp;omega
 have:(om os k)[k]?=some os[k]:=by unfold om;rw[List.getElem?_append_right (by omega),hl,Nat.sub_self,List.getElem?_drop];simp[h]
 rw[List.getElem?_eq_getElem (by rw[ue];exact h)]at this;exact Option.some.inj this
theorem aH.adV{base:Nat}{w:tW}{v:Value}{bs:List Nat}{os:List dY}(h:aH base w v bs os)(k:Nat)(hk:k<bs.length)(hk':k<os.length):aH base (w.setCell ⟨bs[k],3,none⟩ (.bool true)) v bs (os.set k os[k].asJ):=by
 have hO:=h.at' k hk hk';have hsl:Sl (w.setCell ⟨bs[k],3,none⟩ (.bool true)) 135 1 v bs.length (bs.map fF):=by refine h.sl.ag ((aa.refl (Only bs[k]) w).aY 3 _) (λj hj e=>?_);rw[show j=bs[k]from e]at hj;exact hO.JM h.sl hj
 refine⟨by simp[h.len],h.nd,hsl,λi h1 h2=>?_,h.lo,h.own⟩;by_cases e:i=k
 ·subst e;rw[List.getElem_set_self];exact hO.jumps
 ·rw[List.getElem_set_ne (Ne.symm e)];exact(h.at' i h1 (by simpa using h2)).other hO.wV (λe2=>e (((List.getElem_inj h.nd).1 e2).symm)) 3 _
def Gw(w:tW)(uI:List JV):Prop:=∀k (_:k<11) (h:k<uI.length),ajp w uI[k].f1 uI[k].c1 (jmM k) (jmK k)
theorem Gw.kp{w w':tW}{uI:List JV}(h:Gw w uI)(m:Kp w w'):Gw w' uI:=λk a b=>(h k a b).blk m.alG
theorem Gw.ag{w w':tW}{uI:List JV}(h:Gw w uI)(m:aa ae w w'):Gw w' uI:=h.kp m.kp
theorem Gx(w:tW):Calls prog 65 #[] w λe w'=>∃v bs,e=.returned v/\aH w.heap.size w' v bs LA/\aa ae w w':=by
 obtain⟨iP,hiP,rX,hsP,wj⟩:=info_parts rV;go_enter func65,ntmps65;go_wp2_with fail;refine(kV _).mono ?_;rintro e aw0 ⟨⟨qb,qc,qd,qe,qg,qh⟩,rfl,Sg,Sh⟩;go_wp2_with fail;refine(eT _).mono ?_;rintro e aw1 ⟨⟨qi,qj,qk,ql,qm,qo⟩,rfl,Si,JN⟩;go_wp2_with fail;refine(mO _).mono ?_;rintro e JO ⟨⟨qp,qt,qu,qw,qx,qy⟩,rfl,Sj,Ex⟩;go_wp2_with fail;refine(eT _).mono ?_;rintro e aw3 ⟨⟨Ey,Ez,EA,EB,EC,ED⟩,rfl,ak3,Su⟩;go_wp2_with fail;refine(uX _).mono ?_;rintro e aw4 ⟨⟨EE,EF,EG,EH,EJ,EK⟩,rfl,ak4,NW⟩
 have Sk:af (PartsAt (aw4.alloc (.cells #[.int .i64 1,.func qb #[] qc,.func (.func qd) #[] qe,.func (.func qg) #[] qh,.int .i64 0,.func qi #[] qj,.func (.func qk) #[] ql,.func (.func qm) #[] qo,.int .i64 2,.func qp #[] qt,.func (.func qu) #[] qw,.func (.func qx) #[] qy,.int .i64 0,.func Ey #[] Ez,.func (.func EA) #[] EB,.func (.func EC) #[] ED,.int .i64 4,.func EE #[] EF,.func (.func EG) #[] EH,.func (.func EJ) #[] EK] 205)) (.slice (some ⟨aw4.heap.size,0,none⟩) 5 5) uE):=PartsAt.new aw4 [(.operand,⟨qb,qc,qd,qe,qg,qh⟩),(.comma,⟨qi,qj,qk,ql,qm,qo⟩),(.source,⟨qp,qt,qu,qw,qx,qy⟩),(.comma,⟨Ey,Ez,EA,EB,EC,ED⟩),(.label,⟨EE,EF,EG,EH,EJ,EK⟩)] (by
  simp only[ao,al,or_false];rintro x (rfl|rfl|rfl|rfl|rfl)
  ·exact((((Sg.ag JN).ag Ex).ag Su).ag NW)
  ·exact(((Si.ag Ex).ag Su).ag NW)
  ·exact((Sj.ag Su).ag NW)
  ·exact(ak3.ag NW)
  ·exact ak4) _ rfl 5 rfl (by decide)
 have Rc:af (aa ae w (aw4.alloc (.cells #[.int .i64 1,.func qb #[] qc,.func (.func qd) #[] qe,.func (.func qg) #[] qh,.int .i64 0,.func qi #[] qj,.func (.func qk) #[] ql,.func (.func qm) #[] qo,.int .i64 2,.func qp #[] qt,.func (.func qu) #[] qw,.func (.func qx) #[] qy,.int .i64 0,.func Ey #[] Ez,.func (.func EA) #[] EB,.func (.func EC) #[] ED,.int .i64 4,.func EE #[] EF,.func (.func EG) #[] EH,.func (.func EJ) #[] EK] 205))):=((((((aa.refl ae w).trans Sh).trans JN).trans Ex).trans Su).trans NW).alloc _;clear Sg Sh Si JN Sj Ex ak3 Su ak4 NW;simp only[PV.cells,PK.fills,ab];go_wp2_with fail;generalize aw4.alloc (.cells #[.int .i64 1,.func qb #[] qc,.func (.func qd) #[] qe,.func (.func qg) #[] qh,.int .i64 0,.func qi #[] qj,.func (.func qk) #[] ql,.func (.func qm) #[] qo,.int .i64 2,.func qp #[] qt,.func (.func qu) #[] qw,.func (.func qx) #[] qy,.int .i64 0,.func Ey #[] Ez,.func (.func EA) #[] EB,.func (.func EC) #[] ED,.int .i64 4,.func EE #[] EF,.func (.func EG) #[] EH,.func (.func EJ) #[] EK] 205)=W1 at *;generalize aw4.heap.size=g1 at *;refine(kV _).mono ?_;rintro e bw0 ⟨⟨rY,rZ,r9,si,sj,af1⟩,rfl,Zi,Sm⟩;go_wp2_with fail;refine(eT _).mono ?_;rintro e bw1 ⟨⟨sD,sG,sH,sI,sJ,sK⟩,rfl,Zj,LJ⟩;go_wp2_with fail;refine(rT _).mono ?_;rintro e WL ⟨⟨sN,sO,sP,sQ,sS,sU⟩,rfl,Zk,Gp⟩;go_wp2_with fail;refine(eT _).mono ?_;rintro e bw3 ⟨⟨Aq,Ar,Au,Av,Aw,Ay⟩,rfl,bk3,NX⟩;go_wp2_with fail;refine(uX _).mono ?_;rintro e Zq ⟨⟨Az,AA,AB,AF,AJ,AL⟩,rfl,bk4,JS⟩
 have Zl:af (PartsAt (Zq.alloc (.cells #[.int .i64 1,.func rY #[] rZ,.func (.func r9) #[] si,.func (.func sj) #[] af1,.int .i64 0,.func sD #[] sG,.func (.func sH) #[] sI,.func (.func sJ) #[] sK,.int .i64 8,.func sN #[] sO,.func (.func sP) #[] sQ,.func (.func sS) #[] sU,.int .i64 0,.func Aq #[] Ar,.func (.func Au) #[] Av,.func (.func Aw) #[] Ay,.int .i64 4,.func Az #[] AA,.func (.func AB) #[] AF,.func (.func AJ) #[] AL] 205)) (.slice (some ⟨Zq.heap.size,0,none⟩) 5 5) wN):=PartsAt.new Zq [(.operand,⟨rY,rZ,r9,si,sj,af1⟩),(.comma,⟨sD,sG,sH,sI,sJ,sK⟩),(.number,⟨sN,sO,sP,sQ,sS,sU⟩),(.comma,⟨Aq,Ar,Au,Av,Aw,Ay⟩),(.label,⟨Az,AA,AB,AF,AJ,AL⟩)] (by
  simp only[ao,al,or_false];rintro x (rfl|rfl|rfl|rfl|rfl)
  ·exact((((Zi.ag LJ).ag Gp).ag NX).ag JS)
  ·exact(((Zj.ag Gp).ag NX).ag JS)
  ·exact((Zk.ag NX).ag JS)
  ·exact(bk3.ag JS)
  ·exact bk4) _ rfl 5 rfl (by decide)
 have Zm:af (aa ae w (Zq.alloc (.cells #[.int .i64 1,.func rY #[] rZ,.func (.func r9) #[] si,.func (.func sj) #[] af1,.int .i64 0,.func sD #[] sG,.func (.func sH) #[] sI,.func (.func sJ) #[] sK,.int .i64 8,.func sN #[] sO,.func (.func sP) #[] sQ,.func (.func sS) #[] sU,.int .i64 0,.func Aq #[] Ar,.func (.func Au) #[] Av,.func (.func Aw) #[] Ay,.int .i64 4,.func Az #[] AA,.func (.func AB) #[] AF,.func (.func AJ) #[] AL] 205))):=(((((Rc.o.trans Sm).trans LJ).trans Gp).trans NX).trans JS).alloc _;have Gq:af (PartsAt (Zq.alloc (.cells #[.int .i64 1,.func rY #[] rZ,.func (.func r9) #[] si,.func (.func sj) #[] af1,.int .i64 0,.func sD #[] sG,.func (.func sH) #[] sI,.func (.func sJ) #[] sK,.int .i64 8,.func sN #[] sO,.func (.func sP) #[] sQ,.func (.func sS) #[] sU,.int .i64 0,.func Aq #[] Ar,.func (.func Au) #[] Av,.func (.func Aw) #[] Ay,.int .i64 4,.func Az #[] AA,.func (.func AB) #[] AF,.func (.func AJ) #[] AL] 205)) (.slice (some ⟨g1,0,none⟩) 5 5) uE):=Sk.o.ag (((((((aa.refl ae _).trans Sm).trans LJ).trans Gp).trans NX).trans JS).alloc _);clear Sk Zi Sm Zj LJ Zk Gp bk3 NX bk4 JS;simp only[PV.cells,PK.fills,ab];clear Rc;go_wp2_with fail;generalize Zq.alloc (.cells #[.int .i64 1,.func rY #[] rZ,.func (.func r9) #[] si,.func (.func sj) #[] af1,.int .i64 0,.func sD #[] sG,.func (.func sH) #[] sI,.func (.func sJ) #[] sK,.int .i64 8,.func sN #[] sO,.func (.func sP) #[] sQ,.func (.func sS) #[] sU,.int .i64 0,.func Aq #[] Ar,.func (.func Au) #[] Av,.func (.func Aw) #[] Ay,.int .i64 4,.func Az #[] AA,.func (.func AB) #[] AF,.func (.func AJ) #[] AL] 205)=W2 at *;generalize Zq.heap.size=g2 at *;refine(uX _).mono ?_;rintro e WN ⟨⟨yu,yw,yx,yz,yA,yB⟩,rfl,ck0,WO⟩;have cHP:af (PartsAt (WN.alloc (.cells #[.int .i64 4,.func yu #[] yw,.func (.func yx) #[] yz,.func (.func yA) #[] yB] 205)) (.slice (some ⟨WN.heap.size,0,none⟩) 1 1) [.label]):=PartsAt.new WN [(.label,⟨yu,yw,yx,yz,yA,yB⟩)] (by simp only[ao,al,or_false];rintro x rfl;exact ck0) _ rfl 1 rfl (by decide);have WQ:af (aa ae w (WN.alloc (.cells #[.int .i64 4,.func yu #[] yw,.func (.func yx) #[] yz,.func (.func yA) #[] yB] 205))):=(Zm.o.trans WO).alloc _;have Dg:af (PartsAt (WN.alloc (.cells #[.int .i64 4,.func yu #[] yw,.func (.func yx) #[] yz,.func (.func yA) #[] yB] 205)) (.slice (some ⟨g1,0,none⟩) 5 5) uE):=Gq.o.ag (((aa.refl ae _).trans WO).alloc _);have NY:af (PartsAt (WN.alloc (.cells #[.int .i64 4,.func yu #[] yw,.func (.func yx) #[] yz,.func (.func yA) #[] yB] 205)) (.slice (some ⟨g2,0,none⟩) 5 5) wN):=Zl.o.ag (((aa.refl ae _).trans WO).alloc _);clear Gq Zl ck0 WO;simp only[PV.cells,PK.fills,ab];clear Zm;go_wp2_with fail;generalize WN.alloc (.cells #[.int .i64 4,.func yu #[] yw,.func (.func yx) #[] yz,.func (.func yA) #[] yB] 205)=W3 at *;generalize WN.heap.size=g3 at *;refine(jq _ _ 64 rfl _ [106,97] rfl _ [.label] _ _ cHP.o (by decide) (by decide) _ rfl ⟨rfl,rfl⟩).mono ?_;rintro e w4 ⟨b4,rfl,h4,l4,m4⟩;have h4e:=h4.ends;have hs4:aa ae w (w4.setCell ⟨b4,4,none⟩ (.bool true)):=(WQ.o.trans m4).set (.inr (by have:=WQ.o.size;simp only;omega)) _;have qQ:af (PartsAt (w4.setCell ⟨b4,4,none⟩ (.bool true)) (.slice (some ⟨g1,0,none⟩) 5 5) uE):=(Dg.o.ag m4).kp (Kp.set h4.wV 4 _);have kD:af (PartsAt (w4.setCell ⟨b4,4,none⟩ (.bool true)) (.slice (some ⟨g2,0,none⟩) 5 5) wN):=(NY.o.ag m4).kp (Kp.set h4.wV 4 _);have H4:=ai h4e;have HM:=ai hs4;obtain⟨o1,n1,c1,f6,c6,k7,c7,k8,c8,f9,c9,hblk,_⟩:=h4.ex;have z4:=hblk.cell 4;have fz4:=hblk.frozen 4;simp at z4;have Gy:af (w.heap.size<=b4):=by have:=WQ.o.size;exact(by omega:w.heap.size<=b4)
 clear hblk h4 h4e hs4 Dg NY cHP WQ m4 l4;have HZ:af ((w4.setCell ⟨b4,4,none⟩ (.bool true)).heap.size=w4.heap.size):=by simp[af,World.setCell]
 go_wp2_with fail;generalize w4.setCell ⟨b4,4,none⟩ (.bool true)=W4 at *
 have VT:af (aH w.heap.size (W4.alloc (.cells #[.pointer (some ⟨b4,0,none⟩)] 135)) (.slice (some ⟨w4.heap.size,0,none⟩) 1 1) [b4] (Gv 0)):=by
  rw[af,<-HZ.o]
  exact aH.fresh [b4] (Gv 0) rfl (by simp) (by have:=Gy.o;simpa using this) (λi h h'=>by
   have:i=0:=by simp at h;omega
   subst this;exact H4.o) _ rfl 1 rfl (by decide) HM.o.size
 have abO:af (PartsAt (W4.alloc (.cells #[.pointer (some ⟨b4,0,none⟩)] 135)) (.slice (some ⟨g1,0,none⟩) 5 5) uE):=qQ.o.ag aj;have abP:af (PartsAt (W4.alloc (.cells #[.pointer (some ⟨b4,0,none⟩)] 135)) (.slice (some ⟨g2,0,none⟩) 5 5) wN):=kD.o.ag aj;have iC:af (aa ae w (W4.alloc (.cells #[.pointer (some ⟨b4,0,none⟩)] 135))):=HM.o.alloc _;clear qQ kD H4 HM Gy z4 fz4;generalize W4.alloc (.cells #[.pointer (some ⟨b4,0,none⟩)] 135)=W5 at *;clear HZ;generalize w4.heap.size=g5 at *;refine(NT _).mono ?_;rintro e w7 ⟨uI,hlen,rfl,m7,hjr⟩;have Re:=ai hjr;clear hjr;have HI:af (∀(k:Nat) (hk:k<11) (W:tW),(Instr.index 221 (.agg (juC uI).toArray) (.int .i64 k)).run prog W=.ok (.agg (JV.cells (nU[k]'hk) (uI[k]'(by omega))).toArray) W):=λk hk W=>aal uI hlen k hk W;have qQ:=ai (abO.o.ag m7);have kD:=ai (abP.o.ag m7);have HO7:=ai (VT.o.ag m7);have HM:=ai (iC.o.trans m7);clear abO abP VT iC m7;generalize(juC uI).toArray=AC at *;go_upto_block 0 with fail;go_cut [4] (λo wl=>∃bs,aH w.heap.size wl o bs (Gv 11)/\aa ae w wl)
 case first =>
  go_wp2_with fail;go_loopw [4,31] (λo i wl=>∃(k:Nat) (bs:List Nat),k<=11/\i=.int .i64 k/\aH w.heap.size wl o bs (Gv k)/\PartsAt wl (.slice (some ⟨g1,0,none⟩) 5 5) uE/\PartsAt wl (.slice (some ⟨g2,0,none⟩) 5 5) wN/\aa ae w wl/\Gw wl uI) (λ_ i _=>11-(intOf i).toNat)
  case atStart=>exact⟨0,[b4],by omega,rfl,HO7.o,qQ.o,kD.o,HM.o,Re.o⟩
  case round =>
   obtain⟨k,bs,hk,rfl,hO,hP1,hP2,hM,hAr⟩:=hrel;clear qQ kD HM HO7 Re;have Re:=ai hAr;clear hAr;by_cases hlt:k<11
   ·have hidx:=HI.o k hlt;have HST:af (Gv (k+1)=Gv k++[fK (65+k) (nU[k]) uE,fK (97+k) (nU[k]) wN]):=Sq k hlt;have HW:af ((T (nU[k])).size<=90):=JP k hlt;have LF:=Re.o k hlt (by omega);have FU:=ai (WA k hlt);generalize nU[k]=wd at *;generalize uI[k]=jv at *;obtain⟨f1,c1⟩:=jv;have tZ:=ai LF;clear LF;simp only[JV.cells]at hidx;have HO:af _:=hO;have qQ:af _:=hP1;have kD:af _:=hP2;have HM:af _:=hM;clear hO hP1 hP2 hM;have hwd:(T wd).size<=90:=HW.o;have HL:af (bs.length<=100):=by have:=HO.o.len;rw[zQ k (by omega)]at this;exact(by omega:bs.length<=100)
    go_upto_region 10 with fail;have hA:=ak.new wr #[.string (T wd),.func f1 #[] c1] 220;have Zn:af (u4.ownBlock≠some wr.heap.size):=λe=>by have:=HO.o.sl.lt _ e;simp at this
    have q0:∀g:Ext (λk=>u4.ownBlock=some k) (wr.alloc (.cells #[.string (T wd),.func f1 #[] c1] 220)),g.w.cell? ⟨wr.heap.size,0,none⟩=some (.string (T wd)):=λg=>g.cell hA Zn.o 0;have q1:∀g:Ext (λk=>u4.ownBlock=some k) (wr.alloc (.cells #[.string (T wd),.func f1 #[] c1] 220)),g.w.cell? ⟨wr.heap.size,1,none⟩=some (.func f1 #[] c1):=λg=>g.cell hA Zn.o 1;have ne1:=Ext.ne (λk=>u4.ownBlock=some k) (wr.alloc (.cells #[.string (T wd),.func f1 #[] c1] 220));refine bE [7,8,16,17,18,19] (λw'=>∃g:Ext (λk=>u4.ownBlock=some k) (wr.alloc (.cells #[.string (T wd),.func f1 #[] c1] 220)),w'=g.w) (by kernel_rfl) (by kernel_rfl) (by kernel_rfl) ⟨⟨_,aJ⟩,rfl⟩ ?_;have X0:af (aa ae wr (wr.alloc (.cells #[.string (T wd),.func f1 #[] c1] 220)).drew):=aj.drew;have Y0:af (aa ae (wr.alloc (.cells #[.string (T wd),.func f1 #[] c1] 220)) (wr.alloc (.cells #[.string (T wd),.func f1 #[] c1] 220)).drew):=aJ
    iterate 7 (refine aA rfl rfl rfl ?_;intro K hK;go_big_quiet_op;go_big_quiet_on)
    refine aF rfl rfl ?_;intro K hK;go_big_op;refine(Am _ _ _ _ _ true (tZ.o.ag X0.o)).mono ?_;rintro e v0 ⟨fb0,cb0,rfl,Gr,hd0⟩;have HD0:=ai hd0;clear hd0;have X1:=ai (X0.o.trans Gr);have Y1:=ai (Y0.o.trans Gr);refine hK _ _ rfl ⟨⟨_,Y1.o.mono (λ_ _ h=>h.elim)⟩,rfl⟩ ?_;have MB0:af _:=Gr;clear hK K Gr;refine aF rfl rfl ?_;intro K hK;go_big_op;refine(jq _ _ (65+k) (by omega) _ wd rfl _ uE _ _ (qQ.o.ag X1.o) (by have:=HW.o;rw[bG]at this;omega) (by decide) _ FU.o.1 HD0.o).mono ?_;rintro e r0 ⟨b0,rfl,hr0,hb0,Gs⟩;have X2:=ai (X1.o.trans Gs);have Y2:=ai (Y1.o.trans Gs);have iA:af _:=hr0;have MR0:af _:=Gs;have HB0:=ai hb0;refine hK _ _ rfl ⟨⟨_,Y2.o.mono (λ_ _ h=>h.elim)⟩,rfl⟩ ?_;clear hK K hr0 hb0 Gs
    iterate 7 (refine aA rfl rfl rfl ?_;intro K hK;go_big_quiet_op;go_big_quiet_on)
    refine aF rfl rfl ?_;intro K hK;go_big_op;refine(Am _ _ _ _ _ false (tZ.o.ag X2.o)).mono ?_;rintro e v1 ⟨fb1,cb1,rfl,Gt,hd1⟩;have HD1:=ai hd1;clear hd1;have X3:=ai (X2.o.trans Gt);have Y3:=ai (Y2.o.trans Gt);refine hK _ _ rfl ⟨⟨_,Y3.o.mono (λ_ _ h=>h.elim)⟩,rfl⟩ ?_;have Sn:af _:=Gt;clear hK K Gt;refine aF rfl rfl ?_;intro K hK;go_big_op;refine(jq _ _ (97+k) (by omega) _ wd rfl _ wN _ _ (kD.o.ag X3.o) (by have:=HW.o;rw[bG]at this;omega) (by decide) _ FU.o.2 HD1.o).mono ?_;rintro e r1 ⟨b1,rfl,hr1,hb1,Gu⟩;have X4:=ai (X3.o.trans Gu);have Y4:=ai (Y3.o.trans Gu);have Cs:af _:=hr1;have MR1:af _:=Gu;have HB1:=ai hb1;refine hK _ _ rfl ⟨⟨_,Y4.o.mono (λ_ _ h=>h.elim)⟩,rfl⟩ ?_;clear hK K hr1 hb1 Gu;refine aF rfl rfl ?_;intro K hK;go_big_op;refine hK _ _ rfl ⟨⟨_,(Y4.o.alloc _).mono (λ_ _ h=>h.elim)⟩,rfl⟩ ?_;clear hK K;refine aF rfl rfl ?_;intro K hK;refine eO _ (.tmp 38) (.tmp 56) 93 rfl 135 iP (.pointer none) 1 8 underlying93 hiP rX hsP wj rfl (by decide) u4 bs.length (bs.map fF) rfl (HO.o.ag (X4.o.alloc _)).sl ⟨r1.heap.size,0,none⟩ 2 2 [fF b0,fF b1] rfl rfl (aV _ _ _ _ rfl) (rW [b0,b1]) (by have:=HL.o;unfold maxLen;omega) (by have:=HL.o;omega) ?_;intro vA wA sA mA lA;obtain⟨oA,cA,rfl,_⟩:=Sl.view sA;refine hK _ _ rfl ⟨⟨_,((Y4.o.alloc _).mono (λ_ _ h=>h.elim)).step mA (λ_ _ h=>h)⟩,rfl⟩ ?_;clear hK K;simp only[Act.put,sA9,sB9,sC9]
    iterate 1 (refine aA rfl rfl rfl ?_;intro K hK;go_big_quiet_op;go_big_quiet_on)
    refine bX ?_;have H01:b0<b1:=by have:=iA.o.lt;have:=Sn.o.size;have:=HB1.o;omega
    have H0:wr.heap.size<=b0:=by have:=HB0.o;have:=X1.o.size;omega
    have HG:af (aH w.heap.size wA (.slice oA (bs.length+2) cA) (bs++[b0,b1]) (Gv k++[fK (65+k) wd uE,fK (97+k) wd wN])) :=
     aH.grow [b0,b1] _ HO.o (X4.o.alloc _) rfl (by simp;omega) (by simp;omega) (λi h h'=>by
      have hi:i=0\/i=1:=by simp at h;omega
      rcases hi with rfl|rfl
      ·exact((iA.o.ag Sn.o).ag MR1.o).ag aj
      ·exact Cs.o.ag aj) sA mA lA HM.o.size
    simp only[Exit.inBlock,Exit.then];have Ct:af (aa ae w wA):=(HM.o.trans (X4.o.alloc _)).step mA (λi hi h=>by have:=HO.o.own i h;omega);have HQ1:af (PartsAt wA (.slice (some ⟨g1,0,none⟩) 5 5) uE):=(qQ.o.ag (X4.o.alloc _)).kp (aa.Eu (HO.o.ag (X4.o.alloc _)).sl mA);have WM:af (PartsAt wA (.slice (some ⟨g2,0,none⟩) 5 5) wN):=(kD.o.ag (X4.o.alloc _)).kp (aa.Eu (HO.o.ag (X4.o.alloc _)).sl mA);have HQ3:af (Gw wA uI):=(Re.o.ag (X4.o.alloc _)).kp (aa.Eu (HO.o.ag (X4.o.alloc _)).sl mA);rw[<-HST.o]at HG;clear q0 q1 ne1 hA hidx H01 H0;go_wp2_with fail;go_roundw
    case rel=>exact⟨k+1,_,by omega,by go_num,HG.o,HQ1.o,WM.o,Ct.o,HQ3.o⟩
    case measure=>simp[intOf];omega
   ·obtain rfl:k=11:=by omega
    go_wp2_with fail;go_meet;exact⟨bs,hO,hM⟩
 case rest =>
 obtain⟨bs,hO,hM⟩:=hcut;have hlen':=hO.len;rw[zQ 11 (by omega)]at hlen';have HO:=ai hO;have HM:=ai hM;obtain⟨oV,cV,hv,_⟩:=hO.sl.view;subst hv;clear hO hM qQ kD HO7 Re;go_wp2_with fail;go_loopw [61] (λi wl=>∃(k:Nat),k<=bs.length/\i=.int .i64 k/\aH w.heap.size wl (.slice oV bs.length cV) bs (om (Gv 11) k)/\aa ae w wl) (λi _=>bs.length-(intOf i).toNat)
 case atStart=>exact⟨0,by omega,rfl,by rw[JQ];exact HO.o,HM.o⟩
 case round =>
  obtain⟨k,hk,rfl,hO,hM⟩:=hrel;clear HO HM;by_cases hlt:k<bs.length
  ·obtain⟨g,rfl,cs⟩:=hO.sl.at rfl k hlt;have ck:=cs k hlt;have e1:(bs.map fF)[k]?=some (.pointer (some ⟨bs[k],0,none⟩)):=by simp[hlt,fF]
   rw[e1]at ck;have hk':k<(Gv 11).length:=by rw[zQ 11 (by omega)];omega
   have hat:=hO.at' k hlt (by rw[ue];exact hk');obtain⟨o1,n1,c1,f6,c6,k7,c7,k8,c8,f9,c9,hblk,_⟩:=hat.ex;have z3:=hblk.cell 3;have fz3:=hblk.frozen 3;simp at z3;have hset:=hO.adV k hlt (by rw[ue];exact hk');rw[Sr _ _ hk',<-JR _ _ hk']at hset;have HS:af _:=hset;have HMs:af (aa ae w (wr.setCell ⟨bs[k],3,none⟩ (.bool true))):=hM.set (.inr (hO.lo _ (List.getElem_mem hlt))) _;clear hset hat hblk hO hM cs e1;generalize bs[k]=bk at *;go_wp2_with fail;go_roundw
   case rel=>exact⟨k+1,by omega,by go_num,HS.o,HMs.o⟩
   case measure=>simp[intOf];omega
  ·obtain rfl:k=bs.length:=by omega
   have HS:af (aH w.heap.size wr (.slice oV bs.length cV) bs LA):=by
    have h:=hO;have e:bs.length=(Gv 11).length:=by rw[zQ 11 (by omega)];omega
    rw[e,NV]at h;rw[e];exact h
   have HMs:af _:=hM;clear hO hM;go_wp2_with fail;go_ret;exact⟨_,_,rfl,HS.o,HMs.o⟩
structure sV(w:tW):Prop where
 c0:w.cell? ⟨0,0,none⟩=some (.string (T [49]))
 c1:w.cell? ⟨0,1,none⟩=some (.string (T [50]))
 c2:w.cell? ⟨0,2,none⟩=some (.string (T [52]))
 c3:w.cell? ⟨0,3,none⟩=some (.string (T [56]))
theorem oo{w w':tW}(m:aa ae w w'){b i:Nat}{v:Value}(h:w.cell? ⟨b,i,none⟩=some v):w'.cell? ⟨b,i,none⟩=some v:=by
 have hb:b<w.heap.size:=by refine Classical.byContradiction λhn=>?_;simp[World.cell?,Array.getElem?_eq_none (Nat.le_of_not_lt hn)]at h
 have e:=m.block b hb id;simp only[World.cell?]at h ⊢;rw[e];exact h
theorem sV.ag{w w':tW}(h:sV w)(m:aa ae w w'):sV w':=⟨oo m h.c0,oo m h.c1,oo m h.c2,oo m h.c3⟩
def Rf(k:Nat):List dY:=(nX.zipIdx.take k).flatMap λx=>LB x.2 x.1
theorem Sv(k:Nat)(h:k<4):Rf (k+1)=Rf k++LB k (nX[k]'h):=by
 have:∀k:Fin 4,Rf (k.1+1)=Rf k.1++LB k.1 (nX[k.1]'k.2):=by intro k;unfold Rf;rw[an (by simp;exact k.2),ar];simp;rfl
 exact this ⟨k,h⟩
theorem WR(k:Nat)(h:k<=4):(Rf k).length=3*k:=by
 have:∀k:Fin 5,(Rf k.1).length=3*k.1:=by decide +kernel
 exact this ⟨k,by omega⟩
theorem Sw(k:Nat)(hk:k<4)(w:tW):(Instr.index 224 (.agg #[.string (T [49]),.string (T [50]),.string (T [52]),.string (T [56])]) (.int .i64 k)).run prog w=.ok (.string (T (nX[k]'hk))) w:=by
 have:k=0\/k=1\/k=2\/k=3:=by omega
 rcases this with rfl|rfl|rfl|rfl<;>rfl
theorem JT(k:Nat)(h:k<4):(T (nX[k]'h)).size<=90:=by
 have:∀k:Fin 4,(T (nX[k.1]'k.2)).size<=90:=by decide +kernel
 exact this ⟨k,h⟩
theorem JU(w:tW)(hE:sV w):Calls prog 66 #[] w λe w'=>∃v bs,e=.returned v/\aH w.heap.size w' v bs aah/\aa ae w w':=by
 obtain⟨iP,hiP,rX,hsP,wj⟩:=info_parts rV;have HE:=ai hE;clear hE;go_enter func66,ntmps66;go_wp2_with fail;refine(kg _).mono ?_;rintro e aw0 ⟨⟨qb,qc,qd,qe,qg,qh⟩,rfl,Sg,Sh⟩;go_wp2_with fail;refine(eT _).mono ?_;rintro e aw1 ⟨⟨qi,qj,qk,ql,qm,qo⟩,rfl,Si,JN⟩;go_wp2_with fail;refine(uY _).mono ?_;rintro e JO ⟨⟨qp,qt,qu,qw,qx,qy⟩,rfl,Sj,Ex⟩;go_wp2_with fail;refine(mO _).mono ?_;rintro e aw3 ⟨⟨Ey,Ez,EA,EB,EC,ED⟩,rfl,ak3,Su⟩;go_wp2_with fail;refine(rU _).mono ?_;rintro e aw4 ⟨⟨EE,EF,EG,EH,EJ,EK⟩,rfl,ak4,NW⟩;go_wp2_with fail;refine(yt _).mono ?_;rintro e aw5 ⟨⟨WS,WT,WU,WV,WW,WX⟩,rfl,ak5,am5⟩
 have Sk:af (PartsAt (aw5.alloc (.cells #[.int .i64 1,.func qb #[] qc,.func (.func qd) #[] qe,.func (.func qg) #[] qh,.int .i64 0,.func qi #[] qj,.func (.func qk) #[] ql,.func (.func qm) #[] qo,.int .i64 0,.func qp #[] qt,.func (.func qu) #[] qw,.func (.func qx) #[] qy,.int .i64 2,.func Ey #[] Ez,.func (.func EA) #[] EB,.func (.func EC) #[] ED,.int .i64 4,.func EE #[] EF,.func (.func EG) #[] EH,.func (.func EJ) #[] EK,.int .i64 0,.func WS #[] WT,.func (.func WU) #[] WV,.func (.func WW) #[] WX] 205)) (.slice (some ⟨aw5.heap.size,0,none⟩) 6 6) rG):=PartsAt.new aw5 [(.result,⟨qb,qc,qd,qe,qg,qh⟩),(.comma,⟨qi,qj,qk,ql,qm,qo⟩),(.opens,⟨qp,qt,qu,qw,qx,qy⟩),(.source,⟨Ey,Ez,EA,EB,EC,ED⟩),(.offset,⟨EE,EF,EG,EH,EJ,EK⟩),(.shut,⟨WS,WT,WU,WV,WW,WX⟩)] (by
  simp only[ao,al,or_false];rintro x (rfl|rfl|rfl|rfl|rfl|rfl)
  ·exact(((((Sg.ag JN).ag Ex).ag Su).ag NW).ag am5)
  ·exact((((Si.ag Ex).ag Su).ag NW).ag am5)
  ·exact(((Sj.ag Su).ag NW).ag am5)
  ·exact((ak3.ag NW).ag am5)
  ·exact(ak4.ag am5)
  ·exact ak5) _ rfl 6 rfl (by decide)
 have Rc:af (aa ae w (aw5.alloc (.cells #[.int .i64 1,.func qb #[] qc,.func (.func qd) #[] qe,.func (.func qg) #[] qh,.int .i64 0,.func qi #[] qj,.func (.func qk) #[] ql,.func (.func qm) #[] qo,.int .i64 0,.func qp #[] qt,.func (.func qu) #[] qw,.func (.func qx) #[] qy,.int .i64 2,.func Ey #[] Ez,.func (.func EA) #[] EB,.func (.func EC) #[] ED,.int .i64 4,.func EE #[] EF,.func (.func EG) #[] EH,.func (.func EJ) #[] EK,.int .i64 0,.func WS #[] WT,.func (.func WU) #[] WV,.func (.func WW) #[] WX] 205))):=(((((((aa.refl ae w).trans Sh).trans JN).trans Ex).trans Su).trans NW).trans am5).alloc _;clear Sg Sh Si JN Sj Ex ak3 Su ak4 NW ak5 am5;simp only[PV.cells,PK.fills,ab];go_wp2_with fail;generalize aw5.alloc (.cells #[.int .i64 1,.func qb #[] qc,.func (.func qd) #[] qe,.func (.func qg) #[] qh,.int .i64 0,.func qi #[] qj,.func (.func qk) #[] ql,.func (.func qm) #[] qo,.int .i64 0,.func qp #[] qt,.func (.func qu) #[] qw,.func (.func qx) #[] qy,.int .i64 2,.func Ey #[] Ez,.func (.func EA) #[] EB,.func (.func EC) #[] ED,.int .i64 4,.func EE #[] EF,.func (.func EG) #[] EH,.func (.func EJ) #[] EK,.int .i64 0,.func WS #[] WT,.func (.func WU) #[] WV,.func (.func WW) #[] WX] 205)=W1 at *;generalize aw5.heap.size=g1 at *;refine(uY _).mono ?_;rintro e bw0 ⟨⟨rY,rZ,r9,si,sj,af1⟩,rfl,Zi,Sm⟩;go_wp2_with fail;refine(kV _).mono ?_;rintro e bw1 ⟨⟨sD,sG,sH,sI,sJ,sK⟩,rfl,Zj,LJ⟩;go_wp2_with fail;refine(rU _).mono ?_;rintro e WL ⟨⟨sN,sO,sP,sQ,sS,sU⟩,rfl,Zk,Gp⟩;go_wp2_with fail;refine(yt _).mono ?_;rintro e bw3 ⟨⟨Aq,Ar,Au,Av,Aw,Ay⟩,rfl,bk3,NX⟩;go_wp2_with fail;refine(eT _).mono ?_;rintro e Zq ⟨⟨Az,AA,AB,AF,AJ,AL⟩,rfl,bk4,JS⟩;go_wp2_with fail;refine(mO _).mono ?_;rintro e bw5 ⟨⟨Sy,Sz,SA,SB,SC,SE⟩,rfl,bk5,Zr⟩
 have Zl:af (PartsAt (bw5.alloc (.cells #[.int .i64 0,.func rY #[] rZ,.func (.func r9) #[] si,.func (.func sj) #[] af1,.int .i64 1,.func sD #[] sG,.func (.func sH) #[] sI,.func (.func sJ) #[] sK,.int .i64 4,.func sN #[] sO,.func (.func sP) #[] sQ,.func (.func sS) #[] sU,.int .i64 0,.func Aq #[] Ar,.func (.func Au) #[] Av,.func (.func Aw) #[] Ay,.int .i64 0,.func Az #[] AA,.func (.func AB) #[] AF,.func (.func AJ) #[] AL,.int .i64 2,.func Sy #[] Sz,.func (.func SA) #[] SB,.func (.func SC) #[] SE] 205)) (.slice (some ⟨bw5.heap.size,0,none⟩) 6 6) pU):=PartsAt.new bw5 [(.opens,⟨rY,rZ,r9,si,sj,af1⟩),(.operand,⟨sD,sG,sH,sI,sJ,sK⟩),(.offset,⟨sN,sO,sP,sQ,sS,sU⟩),(.shut,⟨Aq,Ar,Au,Av,Aw,Ay⟩),(.comma,⟨Az,AA,AB,AF,AJ,AL⟩),(.source,⟨Sy,Sz,SA,SB,SC,SE⟩)] (by
  simp only[ao,al,or_false];rintro x (rfl|rfl|rfl|rfl|rfl|rfl)
  ·exact(((((Zi.ag LJ).ag Gp).ag NX).ag JS).ag Zr)
  ·exact((((Zj.ag Gp).ag NX).ag JS).ag Zr)
  ·exact(((Zk.ag NX).ag JS).ag Zr)
  ·exact((bk3.ag JS).ag Zr)
  ·exact(bk4.ag Zr)
  ·exact bk5) _ rfl 6 rfl (by decide)
 have Zm:af (aa ae w (bw5.alloc (.cells #[.int .i64 0,.func rY #[] rZ,.func (.func r9) #[] si,.func (.func sj) #[] af1,.int .i64 1,.func sD #[] sG,.func (.func sH) #[] sI,.func (.func sJ) #[] sK,.int .i64 4,.func sN #[] sO,.func (.func sP) #[] sQ,.func (.func sS) #[] sU,.int .i64 0,.func Aq #[] Ar,.func (.func Au) #[] Av,.func (.func Aw) #[] Ay,.int .i64 0,.func Az #[] AA,.func (.func AB) #[] AF,.func (.func AJ) #[] AL,.int .i64 2,.func Sy #[] Sz,.func (.func SA) #[] SB,.func (.func SC) #[] SE] 205))):=((((((Rc.o.trans Sm).trans LJ).trans Gp).trans NX).trans JS).trans Zr).alloc _;have Gq:af (PartsAt (bw5.alloc (.cells #[.int .i64 0,.func rY #[] rZ,.func (.func r9) #[] si,.func (.func sj) #[] af1,.int .i64 1,.func sD #[] sG,.func (.func sH) #[] sI,.func (.func sJ) #[] sK,.int .i64 4,.func sN #[] sO,.func (.func sP) #[] sQ,.func (.func sS) #[] sU,.int .i64 0,.func Aq #[] Ar,.func (.func Au) #[] Av,.func (.func Aw) #[] Ay,.int .i64 0,.func Az #[] AA,.func (.func AB) #[] AF,.func (.func AJ) #[] AL,.int .i64 2,.func Sy #[] Sz,.func (.func SA) #[] SB,.func (.func SC) #[] SE] 205)) (.slice (some ⟨g1,0,none⟩) 6 6) rG):=Sk.o.ag ((((((((aa.refl ae _).trans Sm).trans LJ).trans Gp).trans NX).trans JS).trans Zr).alloc _);clear Sk Zi Sm Zj LJ Zk Gp bk3 NX bk4 JS bk5 Zr;simp only[PV.cells,PK.fills,ab];clear Rc;go_wp2_with fail;generalize bw5.alloc (.cells #[.int .i64 0,.func rY #[] rZ,.func (.func r9) #[] si,.func (.func sj) #[] af1,.int .i64 1,.func sD #[] sG,.func (.func sH) #[] sI,.func (.func sJ) #[] sK,.int .i64 4,.func sN #[] sO,.func (.func sP) #[] sQ,.func (.func sS) #[] sU,.int .i64 0,.func Aq #[] Ar,.func (.func Au) #[] Av,.func (.func Aw) #[] Ay,.int .i64 0,.func Az #[] AA,.func (.func AB) #[] AF,.func (.func AJ) #[] AL,.int .i64 2,.func Sy #[] Sz,.func (.func SA) #[] SB,.func (.func SC) #[] SE] 205)=W2 at *;generalize bw5.heap.size=g2 at *;refine(uY _).mono ?_;rintro e WN ⟨⟨yu,yw,yx,yz,yA,yB⟩,rfl,ck0,WO⟩;go_wp2_with fail;refine(kV _).mono ?_;rintro e cw1 ⟨⟨NZ,N0,N7,N8,N9,Oa⟩,rfl,ck1,cm1⟩;go_wp2_with fail;refine(rU _).mono ?_;rintro e cw2 ⟨⟨Ob,Oc,Od,Oe,Og,Oh⟩,rfl,ck2,cm2⟩;go_wp2_with fail;refine(yt _).mono ?_;rintro e cw3 ⟨⟨Oi,Oj,Ol,Om,Oo,Oq⟩,rfl,ck3,cm3⟩;go_wp2_with fail;refine(eT _).mono ?_;rintro e cw4 ⟨⟨Ot,Ou,Ov,Ow,Ox,Oy⟩,rfl,ck4,Zt⟩;go_wp2_with fail;refine(rT _).mono ?_;rintro e Zu ⟨⟨Oz,OA,OB,OC,OD,OE⟩,rfl,ck5,WY⟩
 have cHP:af (PartsAt (Zu.alloc (.cells #[.int .i64 0,.func yu #[] yw,.func (.func yx) #[] yz,.func (.func yA) #[] yB,.int .i64 1,.func NZ #[] N0,.func (.func N7) #[] N8,.func (.func N9) #[] Oa,.int .i64 4,.func Ob #[] Oc,.func (.func Od) #[] Oe,.func (.func Og) #[] Oh,.int .i64 0,.func Oi #[] Oj,.func (.func Ol) #[] Om,.func (.func Oo) #[] Oq,.int .i64 0,.func Ot #[] Ou,.func (.func Ov) #[] Ow,.func (.func Ox) #[] Oy,.int .i64 8,.func Oz #[] OA,.func (.func OB) #[] OC,.func (.func OD) #[] OE] 205)) (.slice (some ⟨Zu.heap.size,0,none⟩) 6 6) nW):=PartsAt.new Zu [(.opens,⟨yu,yw,yx,yz,yA,yB⟩),(.operand,⟨NZ,N0,N7,N8,N9,Oa⟩),(.offset,⟨Ob,Oc,Od,Oe,Og,Oh⟩),(.shut,⟨Oi,Oj,Ol,Om,Oo,Oq⟩),(.comma,⟨Ot,Ou,Ov,Ow,Ox,Oy⟩),(.number,⟨Oz,OA,OB,OC,OD,OE⟩)] (by
  simp only[ao,al,or_false];rintro x (rfl|rfl|rfl|rfl|rfl|rfl)
  ·exact(((((ck0.ag cm1).ag cm2).ag cm3).ag Zt).ag WY)
  ·exact((((ck1.ag cm2).ag cm3).ag Zt).ag WY)
  ·exact(((ck2.ag cm3).ag Zt).ag WY)
  ·exact((ck3.ag Zt).ag WY)
  ·exact(ck4.ag WY)
  ·exact ck5) _ rfl 6 rfl (by decide)
 have WQ:af (aa ae w (Zu.alloc (.cells #[.int .i64 0,.func yu #[] yw,.func (.func yx) #[] yz,.func (.func yA) #[] yB,.int .i64 1,.func NZ #[] N0,.func (.func N7) #[] N8,.func (.func N9) #[] Oa,.int .i64 4,.func Ob #[] Oc,.func (.func Od) #[] Oe,.func (.func Og) #[] Oh,.int .i64 0,.func Oi #[] Oj,.func (.func Ol) #[] Om,.func (.func Oo) #[] Oq,.int .i64 0,.func Ot #[] Ou,.func (.func Ov) #[] Ow,.func (.func Ox) #[] Oy,.int .i64 8,.func Oz #[] OA,.func (.func OB) #[] OC,.func (.func OD) #[] OE] 205))):=((((((Zm.o.trans WO).trans cm1).trans cm2).trans cm3).trans Zt).trans WY).alloc _;have Dg:af (PartsAt (Zu.alloc (.cells #[.int .i64 0,.func yu #[] yw,.func (.func yx) #[] yz,.func (.func yA) #[] yB,.int .i64 1,.func NZ #[] N0,.func (.func N7) #[] N8,.func (.func N9) #[] Oa,.int .i64 4,.func Ob #[] Oc,.func (.func Od) #[] Oe,.func (.func Og) #[] Oh,.int .i64 0,.func Oi #[] Oj,.func (.func Ol) #[] Om,.func (.func Oo) #[] Oq,.int .i64 0,.func Ot #[] Ou,.func (.func Ov) #[] Ow,.func (.func Ox) #[] Oy,.int .i64 8,.func Oz #[] OA,.func (.func OB) #[] OC,.func (.func OD) #[] OE] 205)) (.slice (some ⟨g1,0,none⟩) 6 6) rG):=Gq.o.ag ((((((((aa.refl ae _).trans WO).trans cm1).trans cm2).trans cm3).trans Zt).trans WY).alloc _);have NY:af (PartsAt (Zu.alloc (.cells #[.int .i64 0,.func yu #[] yw,.func (.func yx) #[] yz,.func (.func yA) #[] yB,.int .i64 1,.func NZ #[] N0,.func (.func N7) #[] N8,.func (.func N9) #[] Oa,.int .i64 4,.func Ob #[] Oc,.func (.func Od) #[] Oe,.func (.func Og) #[] Oh,.int .i64 0,.func Oi #[] Oj,.func (.func Ol) #[] Om,.func (.func Oo) #[] Oq,.int .i64 0,.func Ot #[] Ou,.func (.func Ov) #[] Ow,.func (.func Ox) #[] Oy,.int .i64 8,.func Oz #[] OA,.func (.func OB) #[] OC,.func (.func OD) #[] OE] 205)) (.slice (some ⟨g2,0,none⟩) 6 6) pU):=Zl.o.ag ((((((((aa.refl ae _).trans WO).trans cm1).trans cm2).trans cm3).trans Zt).trans WY).alloc _);clear Gq Zl ck0 WO ck1 cm1 ck2 cm2 ck3 cm3 ck4 Zt ck5 WY;simp only[PV.cells,PK.fills,ab];clear Zm;have cE:=HE.o.ag WQ.o;have e0:=cE.c0;have e1:=cE.c1;have e2:=cE.c2;have e3:=cE.c3;clear cE;have HI:af (∀(k:Nat) (hk:k<4) (W:tW),(Instr.index 224 (.agg #[.string (T [49]),.string (T [50]),.string (T [52]),.string (T [56])]) (.int .i64 k)).run prog W=.ok (.string (T (nX[k]'hk))) W):=Sw;go_upto_block 0 with fail;generalize Zu.alloc (.cells #[.int .i64 0,.func yu #[] yw,.func (.func yx) #[] yz,.func (.func yA) #[] yB,.int .i64 1,.func NZ #[] N0,.func (.func N7) #[] N8,.func (.func N9) #[] Oa,.int .i64 4,.func Ob #[] Oc,.func (.func Od) #[] Oe,.func (.func Og) #[] Oh,.int .i64 0,.func Oi #[] Oj,.func (.func Ol) #[] Om,.func (.func Oo) #[] Oq,.int .i64 0,.func Ot #[] Ou,.func (.func Ov) #[] Ow,.func (.func Ox) #[] Oy,.int .i64 8,.func Oz #[] OA,.func (.func OB) #[] OC,.func (.func OD) #[] OE] 205)=W3 at *;generalize Zu.heap.size=g3 at *;clear e0 e1 e2 e3;go_cut [4] (λo wl=>∃bs,aH w.heap.size wl o bs (Rf 4)/\aa ae w wl)
 case first =>
  go_wp2_with fail;go_loopw [4,31] (λo i wl=>∃(k:Nat) (bs:List Nat),k<=4/\i=.int .i64 k/\aH w.heap.size wl o bs (Rf k)/\PartsAt wl (.slice (some ⟨g1,0,none⟩) 6 6) rG/\PartsAt wl (.slice (some ⟨g2,0,none⟩) 6 6) pU/\PartsAt wl (.slice (some ⟨g3,0,none⟩) 6 6) nW/\aa ae w wl) (λ_ i _=>4-(intOf i).toNat)
  case atStart=>exact⟨0,[],by omega,rfl,aH.nil _ _,Dg.o,NY.o,cHP.o,WQ.o⟩
  case round =>
   obtain⟨k,bs,hk,rfl,hO,hP1,hP2,hP3,hM⟩:=hrel;clear Dg NY cHP WQ;by_cases hlt:k<4
   ·have hidx:=HI.o k hlt;have HST:af (Rf (k+1)=Rf k++[fK (128+k) ([108,100]++nX[k]) rG,fK (132+k) ([115,116]++nX[k]) pU,fK (136+k) ([115,116]++nX[k]) nW]):=Sv k hlt;have HW:af ((T (nX[k])).size<=90):=JT k hlt;have FU:=ai (WB k hlt);have JW:=ai (abF k hlt);generalize nX[k]=wd at *;have HO:af _:=hO;have qQ:af _:=hP1;have kD:af _:=hP2;have HP3:af _:=hP3;have HM:af _:=hM;clear hO hP1 hP2 hP3 hM;have hwd:(T wd).size<=90:=HW.o;have HL:af (bs.length<=100):=by have:=HO.o.len;rw[WR k (by omega)]at this;exact(by omega:bs.length<=100)
    go_wp2_with fail;go_quiet (fail);go_wp2_with fail;have X0:af (aa ae wr (wr.drewN nq)):=ax.drewN _;refine(NS _ _ (2 ^ k) JW.o).mono ?_;rintro e v0 ⟨fb0,cb0,rfl,Gr,hd0⟩;have HD0:=ai hd0;clear hd0;have X1:=ai (X0.o.trans Gr);have MB0:af _:=Gr;clear Gr;go_wp2_with fail;refine(jq _ _ (128+k) (by omega) _ ([108,100]++wd) (rF _ wd).symm _ rG _ _ (qQ.o.ag X1.o) (by have:=HW.o;rw[bG]at this;simp;omega) (by decide) _ FU.o.1 HD0.o).mono ?_;rintro e r0 ⟨b0,rfl,hr0,hb0,Gs⟩;have X2:=ai (X1.o.trans Gs);have iA:af _:=hr0;have MR0:af _:=Gs;have HB0:=ai hb0;clear hr0 hb0 Gs;go_wp2_with fail;refine(Ao _ _ (2 ^ k) true JW.o).mono ?_;rintro e v1 ⟨fb1,cb1,rfl,Gt,hd1⟩;have HD1:=ai hd1;clear hd1;have X3:=ai (X2.o.trans Gt);have Sn:af _:=Gt;clear Gt;go_wp2_with fail;refine(jq _ _ (132+k) (by omega) _ ([115,116]++wd) (rF _ wd).symm _ pU _ _ (kD.o.ag X3.o) (by have:=HW.o;rw[bG]at this;simp;omega) (by decide) _ FU.o.2.1 HD1.o).mono ?_;rintro e r1 ⟨b1,rfl,hr1,hb1,Gu⟩;have X4:=ai (X3.o.trans Gu);have Cs:af _:=hr1;have MR1:af _:=Gu;have HB1:=ai hb1;clear hr1 hb1 Gu;go_wp2_with fail;refine(Ao _ _ (2 ^ k) false JW.o).mono ?_;rintro e v2 ⟨fb2,cb2,rfl,Zo,hd2⟩;have HD2:=ai hd2;clear hd2;have X5:=ai (X4.o.trans Zo);have MB2:af _:=Zo;clear Zo;go_wp2_with fail;refine(jq _ _ (136+k) (by omega) _ ([115,116]++wd) (rF _ wd).symm _ nW _ _ (HP3.o.ag X5.o) (by have:=HW.o;rw[bG]at this;simp;omega) (by decide) _ FU.o.2.2 HD2.o).mono ?_;rintro e r2 ⟨b2,rfl,hr2,hb2,Zp⟩;have X6:=ai (X5.o.trans Zp);have kE:af _:=hr2;have MR2:af _:=Zp;have HB2:=ai hb2;clear hr2 hb2 Zp;go_wp2_with (at_builtin;refine aL _ rfl (.tmp 40) (.tmp 64) 93 rfl 135 iP (.pointer none) 1 8 underlying93 hiP rX hsP wj rfl (by decide) u4 bs.length (bs.map fF) rfl (HO.o.ag (X6.o.alloc _)).sl ⟨r2.heap.size,0,none⟩ 3 3 [fF b0,fF b1,fF b2] rfl rfl (aV _ _ _ _ rfl) (rW [b0,b1,b2]) (by have:=HL.o;unfold maxLen;omega) (by have:=HL.o;omega) ?_;intro vA wA sA mA lA;obtain⟨oA,cA,rfl,_⟩:=Sl.view sA);have H01:b0<b1:=by have:=iA.o.lt;have:=Sn.o.size;have:=HB1.o;omega
    have H12:b1<b2:=by have:=Cs.o.lt;have:=MB2.o.size;have:=HB2.o;omega
    have H0:wr.heap.size<=b0:=by have:=HB0.o;have:=X1.o.size;omega
    have HG:af (aH w.heap.size wA (.slice oA (bs.length+3) cA) (bs++[b0,b1,b2]) (Rf k++[fK (128+k) ([108,100]++wd) rG,fK (132+k) ([115,116]++wd) pU,fK (136+k) ([115,116]++wd) nW])) :=
     aH.grow [b0,b1,b2] _ HO.o (X6.o.alloc _) rfl (by simp;omega) (by simp;omega) (λi h h'=>by
      have hi:i=0\/i=1\/i=2:=by simp at h;omega
      rcases hi with rfl|rfl|rfl
      ·exact((((iA.o.ag Sn.o).ag MR1.o).ag MB2.o).ag MR2.o).ag aj
      ·exact((Cs.o.ag MB2.o).ag MR2.o).ag aj
      ·exact kE.o.ag aj) sA mA lA HM.o.size
    have Ct:af (aa ae w wA):=(HM.o.trans (X6.o.alloc _)).step mA (λi hi h=>by have:=HO.o.own i h;omega);have HK:af (Kp wr wA):=(X6.o.alloc _).kp.trans (aa.Eu (HO.o.ag (X6.o.alloc _)).sl mA);rw[<-HST.o]at HG;clear H01 H12 H0 hidx;go_roundw
    case rel=>exact⟨k+1,_,by omega,by go_num,HG.o,qQ.o.kp HK.o,kD.o.kp HK.o,HP3.o.kp HK.o,Ct.o⟩
    case measure=>simp[intOf];omega
   ·obtain rfl:k=4:=by omega
    go_wp2_with fail;go_meet;exact⟨bs,hO,hM⟩
 case rest =>
 obtain⟨bs,hO,hM⟩:=hcut;have HO:=ai hO;have HM:=ai hM;clear hO hM Dg NY cHP WQ;go_wp2_with fail;go_ret;exact⟨_,_,rfl,HO.o,HM.o⟩
abbrev Zv:tAV:=#[.string (T [103,101,116]),.func (.func 289) #[] #[],.string (T [112,117,116]),.func (.func 290) #[] #[],.string (T [100,101,108]),.func (.func 291) #[] #[],.string (T [108,111,103]),.func (.func 292) #[] #[]]
theorem jt(w:tW):Calls prog 242 #[] w λe w'=>e=.returned (.agg Zv)/\aa ae w w':=by go_enter func242,ntmps242;go_wp2_with fail;exact bodyPost_ret (results_cell_row results242 _ _ w.heap.size 295 _ (0,0) _ rfl (ak.new _ _ _) underlying295 rfl (by kernel_rfl)) rfl ⟨rfl,aj⟩
theorem al9(W:tW):(Instr.index 295 (.agg Zv) (.int .i32 0)).run prog W=.ok (.agg #[.string (T [103,101,116]),.func (.func 289) #[] #[]]) W:=rfl
theorem ama(W:tW):(Instr.index 295 (.agg Zv) (.int .i32 1)).run prog W=.ok (.agg #[.string (T [112,117,116]),.func (.func 290) #[] #[]]) W:=rfl
theorem amb(W:tW):(Instr.index 295 (.agg Zv) (.int .i32 2)).run prog W=.ok (.agg #[.string (T [100,101,108]),.func (.func 291) #[] #[]]) W:=rfl
theorem ag0(W:tW):(Instr.index 295 (.agg Zv) (.int .i32 3)).run prog W=.ok (.agg #[.string (T [108,111,103]),.func (.func 292) #[] #[]]) W:=rfl
theorem EL(o:dY)(ho:o.call=true)(x:di)(hx:x.Fit)(w:tW):Calls prog 130 #[.agg x.cells] w λe w'=>e=.returned (.bool (o.needs x))/\aa ae w w':=by
 have hw:o.needs x=(fJ x 10&&(decide (x.s=1)||(decide (x.s=0)&&decide (1<=x.num)&&decide (x.num<5)))):=by unfold dY.needs;rw[ho,iP9 rfl]
 rw[hw];clear hw ho;have hO:=Ak x 10 (by decide);obtain⟨op,d,s,jump,num,high,label,name⟩:=x;generalize hob:fJ ⟨op,d,s,jump,num,high,label,name⟩ 10=ob at *;clear hob;have hs:=hx.s;have n0:=hx.n0;have n1:=hx.n1;clear hx;unfold di.cells at *;simp only at *;have HO:af _:=hO;clear hO;cases ob with
 |false =>go_enter func130,ntmps130;go_wp2_with fail;refine(HO.o _).mono ?_;rintro e w1 ⟨rfl,m1⟩;go_wp2_with fail;go_ret;exact⟨by simp,aj.trans m1⟩
 |true =>
  have hq:=ak.new w #[op,.int .u8 d,.int .u8 s,.int .i16 jump,.int .i32 num,.int .i32 high,.string label,.string name] 138;by_cases h1:s=1
  ·subst h1;go_enter func130,ntmps130;go_wp2_with fail;refine(HO.o _).mono ?_;rintro e w1 ⟨rfl,m1⟩;have hq1:=hq.ag m1 id;have z2:=hq1.cell 2;simp at z2;go_wp2_with fail;go_ret;exact⟨by simp,aj.trans m1⟩
  ·have q1:decide ((s:Int)=1)=false:=by simp;omega
   go_enter func130,ntmps130;go_wp2_with fail;refine(HO.o _).mono ?_;rintro e w1 ⟨rfl,m1⟩;have hq1:=hq.ag m1 id;have z2:=hq1.cell 2;simp at z2;have y2:∀g:Ext ae w1,g.w.cell? ⟨w.heap.size,2,none⟩=some (.int .u8 s):=λg=>g.cell hq1 id 2;have y4:∀g:Ext ae w1,g.w.cell? ⟨w.heap.size,4,none⟩=some (.int .i32 num):=λg=>g.cell hq1 id 4;have ne1:=Ext.ne ae w1;clear hq hq1;by_cases h0:s=0
   ·subst h0;by_cases ha:1<=num
    ·by_cases hb:num<5
     ·go_wp2_with fail;refine gm ae (by kernel_rfl) (by kernel_rfl) ?_
      repeat(go_big_quiet_step ((go_at_call 242;exact Calls.nu (jt _))))
      refine wpQuiet_nil ?_;rintro w2 ⟨⟨wx,m2⟩,hwx⟩;simp only at hwx;subst hwx;go_wp2_with fail;go_ret;exact⟨by simp,(aj.trans m1).trans m2⟩
     ·have hb':decide (num<5)=false:=by simp;omega
      go_wp2_with fail;refine gm ae (by kernel_rfl) (by kernel_rfl) ?_
      repeat(go_big_quiet_step ((go_at_call 242;exact Calls.nu (jt _))))
      refine wpQuiet_nil ?_;rintro w2 ⟨⟨wx,m2⟩,hwx⟩;simp only at hwx;subst hwx;go_wp2_with fail;go_ret;exact⟨by simp,(aj.trans m1).trans m2⟩
    ·have ha':decide (1<=num)=false:=by simp;omega
     go_wp2_with fail;refine gm ae (by kernel_rfl) (by kernel_rfl) ?_
     repeat(go_big_quiet_step ((go_at_call 242;exact Calls.nu (jt _))))
     refine wpQuiet_nil ?_;rintro w2 ⟨⟨wx,m2⟩,hwx⟩;simp only at hwx;subst hwx;go_wp2_with fail;go_ret;exact⟨by simp,(aj.trans m1).trans m2⟩
   ·have h0':((s:Int)==0)=false:=by simp;omega
    go_wp2_with fail;refine gm ae (by kernel_rfl) (by kernel_rfl) ?_
    repeat(go_big_quiet_step ((go_at_call 242;exact Calls.nu (jt _))))
    refine wpQuiet_nil ?_;rintro w2 ⟨⟨wx,m2⟩,hwx⟩;simp only at hwx;subst hwx;go_wp2_with fail;go_ret;exact⟨by simp[h0,h1],(aj.trans m1).trans m2⟩
theorem OG{r:bD}(h:r.word=[99,97,108,108]):r.call=if nameB (aG r.rest).1 then some {r with s:=1,name:=(aG r.rest).1,rest:=(aG r.rest).2}else none:=by unfold bD.call;rw[iP9 h]
theorem Dh{r:bD}(h:r.word≠[99,97,108,108]):r.call=(lN.findIdx? (λh=>h==(aG r.rest).1)).map (λn=>{r with num:=(1+n:Nat),rest:=(aG r.rest).2}):=by unfold bD.call;rw[iN9 h]
theorem OH(b:Nat)(op:Value)(r:bD)(w:tW)(h:ak w b (r.cells op) 269)(hl:r.rest.length<=1000000)(hm:r.word=[99,97,108,108]):Calls prog 128 #[.pointer (some ⟨b,0,none⟩)] w λe w'=>bz w b op r.call e w':=by
 have hq:((T r.word).toList==[99,97,108,108])=true:=yn (by rw[hm]);have HN:af (∀w',ak w' b ({r with s:=1}.cells op) 269->Calls prog 142 #[.pointer (some ⟨b,1,none⟩)] w' λe w''=>e=.returned (.tuple #[.string (T (aG r.rest).1),.bool (nameB (aG r.rest).1)])/\aQ w' b 1 ({r with s:=1}.cells op) 269 (aG r.rest).2 w''):=λw' h'=>tY _ 1 _ _ _ w' (kM (r:={r with s:=1}) h') hl
 have rQ:af (∀e w',e=.returned (.bool (nameB (aG r.rest).1))->aa (Only b) w w'->ak w' b ({r with s:=1,name:=(aG r.rest).1,rest:=(aG r.rest).2}.cells op) 269->bz w b op r.call e w'):=λe w' he hmd hbk=>by
  rw[OG hm];cases hn:nameB (aG r.rest).1 with
  |true=>rw[hn]at he;exact⟨by rw[he];rfl,hmd,λr' hr'=>by cases hr';exact hbk⟩
  |false=>rw[hn]at he;exact⟨by rw[he];rfl,hmd,λr' hr'=>by cases hr'⟩
 generalize bz w b op r.call=RP at *;generalize nameB (aG r.rest).1=nb at *;generalize aG r.rest=w1 at *;obtain⟨n1,l1⟩:=w1;dsimp only at *;have c0:w.cell? ⟨b,0,none⟩=some (.string (T r.word)):=h.cell 0;have c4:w.cell? ⟨b,4,none⟩=some (.int .u8 (r.s:Int)):=h.cell 4;have zf:=h.frozen;have HB0:af (ak (w.setCell ⟨b,4,none⟩ (.int .u8 1)) b ({r with s:=1}.cells op) 269):=h.set 4 _;have eX:af (aa (Only b) w (w.setCell ⟨b,4,none⟩ (.int .u8 1))):=ax.aY 4 _;clear h hl hm;go_enter func128,ntmps128;go_wp2_with fail;refine(HN.o _ HB0.o).mono ?_;rintro e wa ⟨rfl,hp1⟩;have HB1:=ai hp1.rd;have dh:=ai (eX.o.trans hp1.2);clear hp1 HB0 eX HN c0 c4 zf;have z9:wa.cell? ⟨b,9,none⟩=some (.string (T r.name)):=HB1.o.cell 9;have zf:=HB1.o.frozen;go_wp2_with fail;exact rQ.o _ _ rfl (dh.o.aY 9 _) (HB1.o.set 9 _)
theorem abQ(k:Nat)(hk:k<4):∃f c,∀W,(Instr.index 295 (.agg Zv) (.int .i64 k)).run prog W=.ok (.agg #[.string (T (lN[k]?.getD [])),.func f #[] c]) W:=by
 obtain rfl|rfl|rfl|rfl:k=0\/k=1\/k=2\/k=3:=by omega
 ·exact⟨_,_,λW=>rfl⟩
 ·exact⟨_,_,λW=>rfl⟩
 ·exact⟨_,_,λW=>rfl⟩
 ·exact⟨_,_,λW=>rfl⟩
def uZ(x:tLB)(k:Nat):Prop:=∀j,j<k->lN[j]?.getD []≠x
theorem SF{x:tLB}{k:Nat}(hk:k<4)(h:uZ x k)(e:lN[k]?.getD []=x):lN.findIdx? (λh=>h==x)=some k:=by
 have hl:lN.length=4:=rfl;rw[List.findIdx?_eq_some_iff_getElem];refine⟨by omega,?_,λj hj=>?_⟩
 ·rw[List.getElem?_eq_getElem (by omega)]at e
  simpa using e
 ·have:=h j hj;rw[List.getElem?_eq_getElem (by omega)]at this
  simpa using this
theorem OI{x:tLB}(h:uZ x 4):lN.findIdx? (λh=>h==x)=none:=by
 rw[List.findIdx?_eq_none_iff];intro y hy;obtain⟨j,hj,rfl⟩:=List.getElem_of_mem hy;have:=h j (by simpa [lN]using hj);rw[List.getElem?_eq_getElem hj]at this
 simpa using this
theorem OJ(b:Nat)(op:Value)(r:bD)(w:tW)(h:ak w b (r.cells op) 269)(hl:r.rest.length<=1000000)(hm:r.word≠[99,97,108,108]):Calls prog 128 #[.pointer (some ⟨b,0,none⟩)] w λe w'=>bz w b op r.call e w':=by
 have hq:((T r.word).toList==[99,97,108,108])=false:=rD (λe=>hm (nz e));have hwl:=kK r.rest;have HW:af (Calls prog 137 #[.pointer (some ⟨b,1,none⟩)] w λe w'=>e=.returned (.string (T (aG r.rest).1))/\aQ w b 1 (r.cells op) 269 (aG r.rest).2 w'):=il b 1 _ _ r.rest w (kM h) hl;have rQ:af (∀e w' k,k<4->e=.returned (.bool true)->aa (Only b) w w'->uZ (aG r.rest).1 k->lN[k]?.getD []=(aG r.rest).1->ak w' b ({r with num:=(1+k:Nat),rest:=(aG r.rest).2}.cells op) 269->bz w b op r.call e w'):=λe w' k hk he hmd h1 h2 hbk=>by rw[Dh hm,SF hk h1 h2];exact⟨by rw[he];rfl,hmd,λr' hr'=>by cases hr';exact hbk⟩
 have HPZ:af (∀e w',e=.returned (.bool false)->aa (Only b) w w'->uZ (aG r.rest).1 4->bz w b op r.call e w'):=λe w' he hmd h1=>by rw[Dh hm,OI h1];exact⟨by rw[he];rfl,hmd,λr' hr'=>by cases hr'⟩
 generalize bz w b op r.call=RP at *;generalize aG r.rest=w1 at *;obtain⟨x,l1⟩:=w1;dsimp only at *;have c0:w.cell? ⟨b,0,none⟩=some (.string (T r.word)):=h.cell 0;clear h hl;go_enter func128,ntmps128;go_wp2_with fail;refine HW.o.mono ?_;rintro e wa ⟨rfl,hp1⟩;have HB1:=ai hp1.rd;have dh:=ai hp1.2;clear hp1 HW c0 hq hm;go_wp2_with fail;refine(jt _).mono ?_;rintro e wb ⟨rfl,m2⟩;have HB2:=ai (HB1.o.ag m2 id);have dD:=ai (dh.o.trans m2.of_nil);clear m2 HB1 dh;go_wp2_with fail;go_loopg [33] 4 (λq v wx=>∃k:Nat,k<=4/\v=.int .i64 k/\ak wx b ({r with rest:=l1}.cells op) 269/\aa (Only b) w wx/\uZ x k/\q=4-k)
 case atStart=>exact⟨0,by omega,rfl,HB2.o,dD.o,λj hj=>absurd hj (Nat.not_lt_zero _),rfl⟩
 case round =>
  obtain⟨k,hk,rfl,hbk,hmk,hto,rfl⟩:=hrel;have zP:=ai hbk;have uV:=ai hmk;have HTo:=ai hto;clear hbk hmk hto HB2 dD;by_cases hlt:k<4
  ·obtain⟨f,c,hI⟩:=abQ k hlt;have adW:af (∀e w',e=.returned (.bool true)->aa (Only b) w w'->uZ x k->lN[k]?.getD []=x->ak w' b ({r with num:=(1+k:Nat),rest:=l1}.cells op) 269->RP e w'):=λe w'=>rQ.o e w' k hlt
   have HTs:af (lN[k]?.getD []≠x->uZ x (k+1)):=λhne j hj=>by
    rcases Nat.lt_or_ge j k with e|e
    ·exact HTo.o j e
    ·have:j=k:=by omega
     subst this;exact hne
   generalize lN[k]?.getD []=hw at *;have HB3:af (ak (wr.alloc (.cells #[.string (T hw),.func f #[] c] 294)) b ({r with rest:=l1}.cells op) 269):=zP.o.alloc _;have dw:af (aa (Only b) w (wr.alloc (.cells #[.string (T hw),.func f #[] c] 294))):=uV.o.alloc _;have hbl:b<wr.heap.size:=zP.o.lt;have z6:wr.cell? ⟨b,6,none⟩=some (.int .i32 r.num):=zP.o.cell 6;have zf:=zP.o.frozen;by_cases hx:hw=x
   ·have hq:((T x).toList==(T hw).toList)=true:=En (by rw[hx]);have fU:af (aa (Only b) w ((wr.setCell ⟨b,6,none⟩ (.int .i32 (1+(k:Int)))).alloc (.cells #[.string (T hw),.func f #[] c] 294))):=(uV.o.aY 6 _).alloc _
    have gq:af (ak ((wr.setCell ⟨b,6,none⟩ (.int .i32 (1+(k:Int)))).alloc (.cells #[.string (T hw),.func f #[] c] 294)) b ({r with num:=(1+k:Nat),rest:=l1}.cells op) 269):=by
     have e:((1+k:Nat):Int)=1+(k:Int):=by omega
     have:=(zP.o.set 6 (.int .i32 (1+(k:Int)))).alloc (.cells #[.string (T hw),.func f #[] c] 294);unfold bD.cells;dsimp only;rw[e];exact this
    have HX:=ai hx;clear hx;go_wp2_with fail;exact adW.o _ _ rfl fU.o HTo.o HX.o gq.o
   ·have hq:((T x).toList==(T hw).toList)=false:=uR (λe=>hx (nz e).symm);have HT2:=ai (HTs.o hx);clear hx;go_wp2_with fail;go_roundg (4-(k+1))
    case measure=>omega
    case rel=>exact⟨k+1,by omega,by go_num,HB3.o,dw.o,HT2.o,rfl⟩
  ·have hke:k=4:=by omega
   subst hke;go_wp2_with fail;exact HPZ.o _ _ rfl uV.o HTo.o
theorem JX(b:Nat)(op:Value)(r:bD)(w:tW)(h:ak w b (r.cells op) 269)(hl:r.rest.length<=1000000):Calls prog 128 #[.pointer (some ⟨b,0,none⟩)] w λe w'=>bz w b op r.call e w':=by
 by_cases hm:r.word=[99,97,108,108]
 ·exact OH b op r w h hl hm
 ·exact OJ b op r w h hl hm
def Gz:dY:=⟨193,[],[],1,false,false,1,true⟩
theorem SG(w:tW)(b1:Nat)(hb:ak w b1 #[.string ⟨#[104,101,108,112]⟩,.string ⟨#[99,97,108,108]⟩] 9):Al w (.slice (some ⟨b1,0,none⟩) 2 2) (.func 128) #[] 129 #[] 130 #[] (.func 131) #[] Gz where
 wr:=trivial
 nd:=λw' x _ hx=>by simpa using EL Gz rfl x hx w'
 e7:=enters_of func129 (by kernel_rfl) rfl
 e8:=enters_of func130 (by kernel_rfl) rfl
 ws:=Sl.fresh hb rfl (by decide)
 rd:=⟨_,rfl,enters_of func128 (by kernel_rfl) rfl,λw' b op r _ _ h hl=>by simpa [dY.read,Gz]using JX b op r w' h hl⟩
 dn:=⟨rfl,rfl⟩
theorem PartsAt.none(w:tW):PartsAt w (.slice none 0 0) []:=⟨[],rfl,λx h=>(by cases h),Sl.nil _ _ _⟩
theorem EM(w:tW):Calls prog 67 #[] w λe w'=>∃v bs,e=.returned v/\aH w.heap.size w' v bs Er/\aa ae w w':=by
 go_enter func67,ntmps67;go_wp2_with fail;refine(kg _).mono ?_;rintro e aw0 ⟨⟨qb,qc,qd,qe,qg,qh⟩,rfl,Sg,Sh⟩;go_wp2_with fail;refine(eT _).mono ?_;rintro e aw1 ⟨⟨qi,qj,qk,ql,qm,qo⟩,rfl,Si,JN⟩;go_wp2_with fail;refine(NH _).mono ?_;rintro e JO ⟨⟨qp,qt,qu,qw,qx,qy⟩,rfl,Sj,Ex⟩
 have Sk:af (PartsAt (JO.alloc (.cells #[.int .i64 1,.func qb #[] qc,.func (.func qd) #[] qe,.func (.func qg) #[] qh,.int .i64 0,.func qi #[] qj,.func (.func qk) #[] ql,.func (.func qm) #[] qo,.int .i64 10,.func qp #[] qt,.func (.func qu) #[] qw,.func (.func qx) #[] qy] 205)) (.slice (some ⟨JO.heap.size,0,none⟩) 3 3) [.result,.comma,.wide]):=PartsAt.new JO [(.result,⟨qb,qc,qd,qe,qg,qh⟩),(.comma,⟨qi,qj,qk,ql,qm,qo⟩),(.wide,⟨qp,qt,qu,qw,qx,qy⟩)] (by
  simp only[ao,al,or_false];rintro x (rfl|rfl|rfl)
  ·exact((Sg.ag JN).ag Ex)
  ·exact(Si.ag Ex)
  ·exact Sj) _ rfl 3 rfl (by decide)
 have Rc:af (aa ae w (JO.alloc (.cells #[.int .i64 1,.func qb #[] qc,.func (.func qd) #[] qe,.func (.func qg) #[] qh,.int .i64 0,.func qi #[] qj,.func (.func qk) #[] ql,.func (.func qm) #[] qo,.int .i64 10,.func qp #[] qt,.func (.func qu) #[] qw,.func (.func qx) #[] qy] 205))):=((((aa.refl ae w).trans Sh).trans JN).trans Ex).alloc _;clear Sg Sh Si JN Sj Ex;simp only[PV.cells,PK.fills,ab];go_wp2_with fail;generalize JO.alloc (.cells #[.int .i64 1,.func qb #[] qc,.func (.func qd) #[] qe,.func (.func qg) #[] qh,.int .i64 0,.func qi #[] qj,.func (.func qk) #[] ql,.func (.func qm) #[] qo,.int .i64 10,.func qp #[] qt,.func (.func qu) #[] qw,.func (.func qx) #[] qy] 205)=W1 at *;generalize JO.heap.size=g1 at *;refine(jq _ _ 192 rfl _ [119,105,100,101] rfl _ [.result,.comma,.wide] _ _ Sk.o (by decide) (by decide) _ rfl ⟨rfl,rfl⟩).mono ?_;rintro e w4 ⟨b4,rfl,h4,l4,m4⟩;have h5:=(h4.slots 2).aO 2;have Gy:af (w.heap.size<=b4):=by have:=Rc.o.size;exact(by omega:w.heap.size<=b4)
 have iC:af (aa ae w ((w4.setCell ⟨b4,2,none⟩ (.int .i64 2)).setCell ⟨b4,5,none⟩ (.int .i64 2))):=((Rc.o.trans m4).set (.inr Gy.o) _).set (.inr Gy.o) _;have H5:=ai h5;obtain⟨o1,n1,c1,f6,c6,k7,c7,k8,c8,f9,c9,hblk,_⟩:=h4.ex;have z2:=hblk.cell 2;have fz2:=hblk.frozen 2;have hblk2:=hblk.set 2 (.int .i64 2);have z5:=hblk2.cell 5;have fz5:=hblk2.frozen 5;simp at z2 z5;have HZ:af (((w4.setCell ⟨b4,2,none⟩ (.int .i64 2)).setCell ⟨b4,5,none⟩ (.int .i64 2)).heap.size=w4.heap.size):=by simp[af,World.setCell]
 have gq:=ai h4.lt;clear hblk hblk2 h4 h5 Sk Rc m4 l4;go_wp2_with fail;generalize(w4.setCell ⟨b4,2,none⟩ (.int .i64 2)).setCell ⟨b4,5,none⟩ (.int .i64 2)=W5 at *
 have HC:af (bY ((W5.alloc (.cells #[.string ⟨#[104,101,108,112]⟩,.string ⟨#[99,97,108,108]⟩] 9)).alloc (.cells #[.int .u8 193,.slice (some ⟨w4.heap.size,0,none⟩) 2 2,.int .i64 1,.bool false,.bool false,.int .i64 1,.func (.func 128) #[] #[],.func (.func 129) #[] #[],.func (.func 130) #[] #[],.func (.func 131) #[] #[]] 146)) (w4.heap.size+1) Gz):=by
  have hb:ak ((W5.alloc (.cells #[.string ⟨#[104,101,108,112]⟩,.string ⟨#[99,97,108,108]⟩] 9)).alloc (.cells #[.int .u8 193,.slice (some ⟨w4.heap.size,0,none⟩) 2 2,.int .i64 1,.bool false,.bool false,.int .i64 1,.func (.func 128) #[] #[],.func (.func 129) #[] #[],.func (.func 130) #[] #[],.func (.func 131) #[] #[]] 146)) (w4.heap.size+1) #[.int .u8 193,.slice (some ⟨w4.heap.size,0,none⟩) 2 2,.int .i64 1,.bool false,.bool false,.int .i64 1,.func (.func 128) #[] #[],.func (.func 129) #[] #[],.func (.func 130) #[] #[],.func (.func 131) #[] #[]] 146:=by
   have:=ak.new (W5.alloc (.cells #[.string ⟨#[104,101,108,112]⟩,.string ⟨#[99,97,108,108]⟩] 9)) #[.int .u8 193,.slice (some ⟨w4.heap.size,0,none⟩) 2 2,.int .i64 1,.bool false,.bool false,.int .i64 1,.func (.func 128) #[] #[],.func (.func 129) #[] #[],.func (.func 130) #[] #[],.func (.func 131) #[] #[]] 146;have e:(W5.alloc (.cells #[.string ⟨#[104,101,108,112]⟩,.string ⟨#[99,97,108,108]⟩] 9)).heap.size=w4.heap.size+1:=by have:=HZ.o;simp;omega
   rw[e]at this;exact this
  have hb5:ak ((W5.alloc (.cells #[.string ⟨#[104,101,108,112]⟩,.string ⟨#[99,97,108,108]⟩] 9)).alloc (.cells #[.int .u8 193,.slice (some ⟨w4.heap.size,0,none⟩) 2 2,.int .i64 1,.bool false,.bool false,.int .i64 1,.func (.func 128) #[] #[],.func (.func 129) #[] #[],.func (.func 130) #[] #[],.func (.func 131) #[] #[]] 146)) w4.heap.size #[.string ⟨#[104,101,108,112]⟩,.string ⟨#[99,97,108,108]⟩] 9:=by have:=(ak.new W5 #[.string ⟨#[104,101,108,112]⟩,.string ⟨#[99,97,108,108]⟩] 9).alloc (.cells #[.int .u8 193,.slice (some ⟨w4.heap.size,0,none⟩) 2 2,.int .i64 1,.bool false,.bool false,.int .i64 1,.func (.func 128) #[] #[],.func (.func 129) #[] #[],.func (.func 130) #[] #[],.func (.func 131) #[] #[]] 146);rw[HZ.o]at this;exact this
  exact⟨_,_,_,_,_,_,_,_,_,_,_,hb,SG _ _ hb5⟩
 have H6:af (bY ((W5.alloc (.cells #[.string ⟨#[104,101,108,112]⟩,.string ⟨#[99,97,108,108]⟩] 9)).alloc (.cells #[.int .u8 193,.slice (some ⟨w4.heap.size,0,none⟩) 2 2,.int .i64 1,.bool false,.bool false,.int .i64 1,.func (.func 128) #[] #[],.func (.func 129) #[] #[],.func (.func 130) #[] #[],.func (.func 131) #[] #[]] 146)) b4 _):=H5.o.ag (aj.alloc _);have sW:af (aa ae w ((W5.alloc (.cells #[.string ⟨#[104,101,108,112]⟩,.string ⟨#[99,97,108,108]⟩] 9)).alloc (.cells #[.int .u8 193,.slice (some ⟨w4.heap.size,0,none⟩) 2 2,.int .i64 1,.bool false,.bool false,.int .i64 1,.func (.func 128) #[] #[],.func (.func 129) #[] #[],.func (.func 130) #[] #[],.func (.func 131) #[] #[]] 146))):=(iC.o.alloc _).alloc _;have LK:af (((W5.alloc (.cells #[.string ⟨#[104,101,108,112]⟩,.string ⟨#[99,97,108,108]⟩] 9)).alloc (.cells #[.int .u8 193,.slice (some ⟨w4.heap.size,0,none⟩) 2 2,.int .i64 1,.bool false,.bool false,.int .i64 1,.func (.func 128) #[] #[],.func (.func 129) #[] #[],.func (.func 130) #[] #[],.func (.func 131) #[] #[]] 146)).heap.size=w4.heap.size+2):=by have:=HZ.o;simp[af];omega
 clear H5 iC HZ;generalize(W5.alloc (.cells #[.string ⟨#[104,101,108,112]⟩,.string ⟨#[99,97,108,108]⟩] 9)).alloc (.cells #[.int .u8 193,.slice (some ⟨w4.heap.size,0,none⟩) 2 2,.int .i64 1,.bool false,.bool false,.int .i64 1,.func (.func 128) #[] #[],.func (.func 129) #[] #[],.func (.func 130) #[] #[],.func (.func 131) #[] #[]] 146)=W6 at *;refine(jq _ _ 194 rfl _ [101,120,105,116] rfl _ [] _ _ (PartsAt.none W6) (by decide) (by decide) _ rfl ⟨rfl,rfl⟩).mono ?_;rintro e w7 ⟨b7,rfl,h7,l7,m7⟩;have h8:=h7.ends;have HL7:af (w4.heap.size+2<=b7):=by have:=LK.o;exact(by omega:w4.heap.size+2<=b7)
 have HLW:af (w.heap.size<=b7):=by have:=Gy.o;have:=gq.o;have:=HL7.o;exact(by omega:w.heap.size<=b7)
 have FV:af (aa ae w (w7.setCell ⟨b7,4,none⟩ (.bool true))):=(sW.o.trans m7).set (.inr HLW.o) _;have H8:=ai h8;have H84:af (bY (w7.setCell ⟨b7,4,none⟩ (.bool true)) b4 _):=(H6.o.ag m7).other h7.wV (by have:=gq.o;have:=HL7.o;omega) 4 _;have H8C:af (bY (w7.setCell ⟨b7,4,none⟩ (.bool true)) (w4.heap.size+1) Gz):=(HC.o.ag m7).other h7.wV (by have:=HL7.o;omega) 4 _;obtain⟨o2,n2,c2',f6',c6',k7',c7',k8',c8',f9',c9',hblk',_⟩:=h7.ex;have y4:=hblk'.cell 4;have fy4:=hblk'.frozen 4;simp at y4;have HZ8:af ((w7.setCell ⟨b7,4,none⟩ (.bool true)).heap.size=w7.heap.size):=by simp[af,World.setCell]
 clear hblk' h7 h8 m7 l7 HC H6 sW;go_wp2_with fail;go_ret;refine⟨_,[b4,w4.heap.size+1,b7],rfl,?_,FV.o.alloc _⟩;show aH w.heap.size _ (.slice (some ⟨w7.heap.size,0,none⟩) 3 3) _ _
 rw[<-HZ8.o];refine aH.fresh [b4,w4.heap.size+1,b7] Er rfl ?_ ?_ ?_ _ rfl 3 rfl (by decide) FV.o.size
 ·have:=gq.o;have:=HL7.o;simp;omega
 ·have:=Gy.o;have:=gq.o;have:=HL7.o;simp;omega
 ·intro i h h';have hi:i=0\/i=1\/i=2:=by simp at h;omega
  rcases hi with rfl|rfl|rfl
  ·exact H84.o
  ·exact H8C.o
  ·exact H8.o
