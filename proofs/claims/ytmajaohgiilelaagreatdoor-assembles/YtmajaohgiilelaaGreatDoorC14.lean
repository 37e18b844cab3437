import Derived.Test.YtmajaohgiilelaaGreatDoorC13
import Derived.Lib.AppendZerosOnto
namespace Go.Proofs.YtmajaohgiilelaaGreatDoor
open Go.RowKit Tryz
open Int renaming cast_ofNat_Int->bj
open List renaming take_succ_eq_append_getElem->an,not_mem_nil->ar,flatMap_append->ba,mem_cons->bh,flatMap_cons->bt,getElem_mem->b9,length_append->ca,nodup_append->cb,getElem_of_mem->cc,take_length->ch,flatMap_nil->cj
open Nat renaming zero_le->ao,zero_add->cd
set_option linter.all false
set_option maxRecDepth 100000
set_option maxHeartbeats 2000000
structure E4(w:tW):Prop where
 c0:w.cell? ⟨0,0,none⟩=some (.string (T [49]))
 c1:w.cell? ⟨0,1,none⟩=some (.string (T [50]))
 c2:w.cell? ⟨0,2,none⟩=some (.string (T [52]))
 c3:w.cell? ⟨0,3,none⟩=some (.string (T [56]))
theorem qK{w w':tW}(m:aa af w w'){b i:Nat}{v:Value}(h:w.cell? ⟨b,i,none⟩=some v):w'.cell? ⟨b,i,none⟩=some v:=by
 have hb:b<w.heap.size:=by refine Classical.byContradiction λhn=>?_;simp[World.cell?,Array.getElem?_eq_none (Nat.le_of_not_lt hn)]at h
 have e:=m.block b hb id;simp only[World.cell?]at h ⊢;rw[e];exact h
theorem E4.ah{w w':tW}(h:E4 w)(m:aa af w w'):E4 w':=⟨qK m h.c0,qK m h.c1,qK m h.c2,qK m h.c3⟩
def Uq(k:Nat):List eQ:=(qE.zipIdx.take k).flatMap λx=>Qc x.2 x.1
theorem Vt(k:Nat)(h:k<4):Uq (k+1)=Uq k++Qc k (qE[k]'h):=by
 have:∀k:Fin 4,Uq (k.1+1)=Uq k.1++Qc k.1 (qE[k.1]'k.2):=by intro k;unfold Uq;rw[an (by simp;exact k.2),ba];simp;rfl
 exact this ⟨k,h⟩
theorem Zj(k:Nat)(h:k<=4):(Uq k).length=3*k:=by
 have:∀k:Fin 5,(Uq k.1).length=3*k.1:=by decide +kernel
 exact this ⟨k,by omega⟩
theorem Vu(k:Nat)(hk:k<4)(w:tW):(Instr.index 186 (.agg #[.string (T [49]),.string (T [50]),.string (T [52]),.string (T [56])]) (.int .i64 k)).run prog w=.ok (.string (T (qE[k]'hk))) w:=by
 have:k=0\/k=1\/k=2\/k=3:=by omega
 rcases this with rfl|rfl|rfl|rfl<;>rfl
theorem MR(k:Nat)(h:k<4):(T (qE[k]'h)).size<=90:=by
 have:∀k:Fin 4,(T (qE[k.1]'k.2)).size<=90:=by decide +kernel
 exact this ⟨k,h⟩
theorem MS(w:tW)(hE:E4 w):Calls prog 50 #[] w λe w'=>∃v bs,e=.returned v/\aR w.heap.size w' v bs abF/\aa af w w':=by
 obtain⟨iP,hiP,qH,hsP,vZ⟩:=info_parts uT;have HE:=ak hE;clear hE;go_enter func50,ntmps50;go_wp2_with fail;refine(mJ _).mono ?_;rintro e aw0 ⟨⟨rU,rV,rW,rX,rY,rZ⟩,rfl,Vi,Vj⟩;go_wp2_with fail;refine(gH _).mono ?_;rintro e aw1 ⟨⟨r9,si,sj,sD,sG,sH⟩,rfl,Rx,ML⟩;go_wp2_with fail;refine(xR _).mono ?_;rintro e MM ⟨⟨sJ,sK,sN,sO,sQ,sS⟩,rfl,Ry,Il⟩;go_wp2_with fail;refine(pW _).mono ?_;rintro e aw3 ⟨⟨Im,Io,Ip,Iq,Ir,Iu⟩,rfl,ak3,Vs⟩;go_wp2_with fail;refine(uS _).mono ?_;rintro e aw4 ⟨⟨Iw,Iy,Iz,IA,IB,IC⟩,rfl,ak4,RA⟩;go_wp2_with fail;refine(Ay _).mono ?_;rintro e aw5 ⟨⟨Zk,Zl,Zm,Zn,Zo,Zp⟩,rfl,ak5,am5⟩
 have Vk:ae (PartsAt (aw5.alloc (.cells #[.int .i64 1,.func rU #[] rV,.func (.func rW) #[] rX,.func (.func rY) #[] rZ,.int .i64 0,.func r9 #[] si,.func (.func sj) #[] sD,.func (.func sG) #[] sH,.int .i64 0,.func sJ #[] sK,.func (.func sN) #[] sO,.func (.func sQ) #[] sS,.int .i64 2,.func Im #[] Io,.func (.func Ip) #[] Iq,.func (.func Ir) #[] Iu,.int .i64 4,.func Iw #[] Iy,.func (.func Iz) #[] IA,.func (.func IB) #[] IC,.int .i64 0,.func Zk #[] Zl,.func (.func Zm) #[] Zn,.func (.func Zo) #[] Zp] 167)) (.slice (some ⟨aw5.heap.size,0,none⟩) 6 6) lQ):=PartsAt.new aw5 [(.result,⟨rU,rV,rW,rX,rY,rZ⟩),(.comma,⟨r9,si,sj,sD,sG,sH⟩),(.opens,⟨sJ,sK,sN,sO,sQ,sS⟩),(.source,⟨Im,Io,Ip,Iq,Ir,Iu⟩),(.offset,⟨Iw,Iy,Iz,IA,IB,IC⟩),(.shut,⟨Zk,Zl,Zm,Zn,Zo,Zp⟩)] (by
  simp only[bh,ar,or_false];rintro x (rfl|rfl|rfl|rfl|rfl|rfl)
  ·exact(((((Vi.ah ML).ah Il).ah Vs).ah RA).ah am5)
  ·exact((((Rx.ah Il).ah Vs).ah RA).ah am5)
  ·exact(((Ry.ah Vs).ah RA).ah am5)
  ·exact((ak3.ah RA).ah am5)
  ·exact(ak4.ah am5)
  ·exact ak5) _ rfl 6 rfl (by decide)
 have Uo:ae (aa af w (aw5.alloc (.cells #[.int .i64 1,.func rU #[] rV,.func (.func rW) #[] rX,.func (.func rY) #[] rZ,.int .i64 0,.func r9 #[] si,.func (.func sj) #[] sD,.func (.func sG) #[] sH,.int .i64 0,.func sJ #[] sK,.func (.func sN) #[] sO,.func (.func sQ) #[] sS,.int .i64 2,.func Im #[] Io,.func (.func Ip) #[] Iq,.func (.func Ir) #[] Iu,.int .i64 4,.func Iw #[] Iy,.func (.func Iz) #[] IA,.func (.func IB) #[] IC,.int .i64 0,.func Zk #[] Zl,.func (.func Zm) #[] Zn,.func (.func Zo) #[] Zp] 167))):=(((((((aa.refl af w).trans Vj).trans ML).trans Il).trans Vs).trans RA).trans am5).alloc _;clear Vi Vj Rx ML Ry Il ak3 Vs ak4 RA ak5 am5;simp only[PV.cells,PK.fills,bj];go_wp2_with fail;generalize aw5.alloc (.cells #[.int .i64 1,.func rU #[] rV,.func (.func rW) #[] rX,.func (.func rY) #[] rZ,.int .i64 0,.func r9 #[] si,.func (.func sj) #[] sD,.func (.func sG) #[] sH,.int .i64 0,.func sJ #[] sK,.func (.func sN) #[] sO,.func (.func sQ) #[] sS,.int .i64 2,.func Im #[] Io,.func (.func Ip) #[] Iq,.func (.func Ir) #[] Iu,.int .i64 4,.func Iw #[] Iy,.func (.func Iz) #[] IA,.func (.func IB) #[] IC,.int .i64 0,.func Zk #[] Zl,.func (.func Zm) #[] Zn,.func (.func Zo) #[] Zp] 167)=W1 at *;generalize aw5.heap.size=g1 at *;refine(xR _).mono ?_;rintro e bw0 ⟨⟨y9,za,zb,ze,zg,zh⟩,rfl,bk0,Vl⟩;go_wp2_with fail;refine(nQ _).mono ?_;rintro e bw1 ⟨⟨zi,zj,zk,zm,zn,zo⟩,rfl,bk1,Qi⟩;go_wp2_with fail;refine(uS _).mono ?_;rintro e bw2 ⟨⟨zq,zt,zu,zw,zx,zy⟩,rfl,bk2,Kv⟩;go_wp2_with fail;refine(Ay _).mono ?_;rintro e bw3 ⟨⟨IE,IG,II,IJ,IK,IM⟩,rfl,bk3,RB⟩;go_wp2_with fail;refine(gH _).mono ?_;rintro e bw4 ⟨⟨IP,IQ,IU,IV,IX,IY⟩,rfl,bk4,MQ⟩;go_wp2_with fail;refine(pW _).mono ?_;rintro e bw5 ⟨⟨Zq,Zr,Zt,Zu,Zv,Zw⟩,rfl,bk5,bm5⟩
 have bHP:ae (PartsAt (bw5.alloc (.cells #[.int .i64 0,.func y9 #[] za,.func (.func zb) #[] ze,.func (.func zg) #[] zh,.int .i64 1,.func zi #[] zj,.func (.func zk) #[] zm,.func (.func zn) #[] zo,.int .i64 4,.func zq #[] zt,.func (.func zu) #[] zw,.func (.func zx) #[] zy,.int .i64 0,.func IE #[] IG,.func (.func II) #[] IJ,.func (.func IK) #[] IM,.int .i64 0,.func IP #[] IQ,.func (.func IU) #[] IV,.func (.func IX) #[] IY,.int .i64 2,.func Zq #[] Zr,.func (.func Zt) #[] Zu,.func (.func Zv) #[] Zw] 167)) (.slice (some ⟨bw5.heap.size,0,none⟩) 6 6) jC):=PartsAt.new bw5 [(.opens,⟨y9,za,zb,ze,zg,zh⟩),(.operand,⟨zi,zj,zk,zm,zn,zo⟩),(.offset,⟨zq,zt,zu,zw,zx,zy⟩),(.shut,⟨IE,IG,II,IJ,IK,IM⟩),(.comma,⟨IP,IQ,IU,IV,IX,IY⟩),(.source,⟨Zq,Zr,Zt,Zu,Zv,Zw⟩)] (by
  simp only[bh,ar,or_false];rintro x (rfl|rfl|rfl|rfl|rfl|rfl)
  ·exact(((((bk0.ah Qi).ah Kv).ah RB).ah MQ).ah bm5)
  ·exact((((bk1.ah Kv).ah RB).ah MQ).ah bm5)
  ·exact(((bk2.ah RB).ah MQ).ah bm5)
  ·exact((bk3.ah MQ).ah bm5)
  ·exact(bk4.ah bm5)
  ·exact bk5) _ rfl 6 rfl (by decide)
 have bHM:ae (aa af w (bw5.alloc (.cells #[.int .i64 0,.func y9 #[] za,.func (.func zb) #[] ze,.func (.func zg) #[] zh,.int .i64 1,.func zi #[] zj,.func (.func zk) #[] zm,.func (.func zn) #[] zo,.int .i64 4,.func zq #[] zt,.func (.func zu) #[] zw,.func (.func zx) #[] zy,.int .i64 0,.func IE #[] IG,.func (.func II) #[] IJ,.func (.func IK) #[] IM,.int .i64 0,.func IP #[] IQ,.func (.func IU) #[] IV,.func (.func IX) #[] IY,.int .i64 2,.func Zq #[] Zr,.func (.func Zt) #[] Zu,.func (.func Zv) #[] Zw] 167))):=((((((Uo.o.trans Vl).trans Qi).trans Kv).trans RB).trans MQ).trans bm5).alloc _;have Kw:ae (PartsAt (bw5.alloc (.cells #[.int .i64 0,.func y9 #[] za,.func (.func zb) #[] ze,.func (.func zg) #[] zh,.int .i64 1,.func zi #[] zj,.func (.func zk) #[] zm,.func (.func zn) #[] zo,.int .i64 4,.func zq #[] zt,.func (.func zu) #[] zw,.func (.func zx) #[] zy,.int .i64 0,.func IE #[] IG,.func (.func II) #[] IJ,.func (.func IK) #[] IM,.int .i64 0,.func IP #[] IQ,.func (.func IU) #[] IV,.func (.func IX) #[] IY,.int .i64 2,.func Zq #[] Zr,.func (.func Zt) #[] Zu,.func (.func Zv) #[] Zw] 167)) (.slice (some ⟨g1,0,none⟩) 6 6) lQ):=Vk.o.ah ((((((((aa.refl af _).trans Vl).trans Qi).trans Kv).trans RB).trans MQ).trans bm5).alloc _);clear Vk bk0 Vl bk1 Qi bk2 Kv bk3 RB bk4 MQ bk5 bm5;simp only[PV.cells,PK.fills,bj];clear Uo;go_wp2_with fail;generalize bw5.alloc (.cells #[.int .i64 0,.func y9 #[] za,.func (.func zb) #[] ze,.func (.func zg) #[] zh,.int .i64 1,.func zi #[] zj,.func (.func zk) #[] zm,.func (.func zn) #[] zo,.int .i64 4,.func zq #[] zt,.func (.func zu) #[] zw,.func (.func zx) #[] zy,.int .i64 0,.func IE #[] IG,.func (.func II) #[] IJ,.func (.func IK) #[] IM,.int .i64 0,.func IP #[] IQ,.func (.func IU) #[] IV,.func (.func IX) #[] IY,.int .i64 2,.func Zq #[] Zr,.func (.func Zt) #[] Zu,.func (.func Zv) #[] Zw] 167)=W2 at *;generalize bw5.heap.size=g2 at *;refine(xR _).mono ?_;rintro e cw0 ⟨⟨IZ,I1,I4,I5,I6,I7⟩,rfl,ck0,Zg⟩;go_wp2_with fail;refine(nQ _).mono ?_;rintro e cw1 ⟨⟨Zx,Zy,Zz,ZA,ZB,ZC⟩,rfl,ck1,cm1⟩;go_wp2_with fail;refine(uS _).mono ?_;rintro e cw2 ⟨⟨ZD,ZE,ZF,ZG,ZH,ZI⟩,rfl,ck2,cm2⟩;go_wp2_with fail;refine(Ay _).mono ?_;rintro e cw3 ⟨⟨ZJ,ZK,ZL,ZM,ZN,ZO⟩,rfl,ck3,cm3⟩;go_wp2_with fail;refine(gH _).mono ?_;rintro e cw4 ⟨⟨ZP,ZQ,ZR,ZS,ZT,ZU⟩,rfl,ck4,cm4⟩;go_wp2_with fail;refine(uR _).mono ?_;rintro e cw5 ⟨⟨ZV,ZW,ZX,ZY,ZZ,Z0⟩,rfl,ck5,Z4⟩
 have cHP:ae (PartsAt (cw5.alloc (.cells #[.int .i64 0,.func IZ #[] I1,.func (.func I4) #[] I5,.func (.func I6) #[] I7,.int .i64 1,.func Zx #[] Zy,.func (.func Zz) #[] ZA,.func (.func ZB) #[] ZC,.int .i64 4,.func ZD #[] ZE,.func (.func ZF) #[] ZG,.func (.func ZH) #[] ZI,.int .i64 0,.func ZJ #[] ZK,.func (.func ZL) #[] ZM,.func (.func ZN) #[] ZO,.int .i64 0,.func ZP #[] ZQ,.func (.func ZR) #[] ZS,.func (.func ZT) #[] ZU,.int .i64 8,.func ZV #[] ZW,.func (.func ZX) #[] ZY,.func (.func ZZ) #[] Z0] 167)) (.slice (some ⟨cw5.heap.size,0,none⟩) 6 6) gX):=PartsAt.new cw5 [(.opens,⟨IZ,I1,I4,I5,I6,I7⟩),(.operand,⟨Zx,Zy,Zz,ZA,ZB,ZC⟩),(.offset,⟨ZD,ZE,ZF,ZG,ZH,ZI⟩),(.shut,⟨ZJ,ZK,ZL,ZM,ZN,ZO⟩),(.comma,⟨ZP,ZQ,ZR,ZS,ZT,ZU⟩),(.number,⟨ZV,ZW,ZX,ZY,ZZ,Z0⟩)] (by
  simp only[bh,ar,or_false];rintro x (rfl|rfl|rfl|rfl|rfl|rfl)
  ·exact(((((ck0.ah cm1).ah cm2).ah cm3).ah cm4).ah Z4)
  ·exact((((ck1.ah cm2).ah cm3).ah cm4).ah Z4)
  ·exact(((ck2.ah cm3).ah cm4).ah Z4)
  ·exact((ck3.ah cm4).ah Z4)
  ·exact(ck4.ah Z4)
  ·exact ck5) _ rfl 6 rfl (by decide)
 have Zh:ae (aa af w (cw5.alloc (.cells #[.int .i64 0,.func IZ #[] I1,.func (.func I4) #[] I5,.func (.func I6) #[] I7,.int .i64 1,.func Zx #[] Zy,.func (.func Zz) #[] ZA,.func (.func ZB) #[] ZC,.int .i64 4,.func ZD #[] ZE,.func (.func ZF) #[] ZG,.func (.func ZH) #[] ZI,.int .i64 0,.func ZJ #[] ZK,.func (.func ZL) #[] ZM,.func (.func ZN) #[] ZO,.int .i64 0,.func ZP #[] ZQ,.func (.func ZR) #[] ZS,.func (.func ZT) #[] ZU,.int .i64 8,.func ZV #[] ZW,.func (.func ZX) #[] ZY,.func (.func ZZ) #[] Z0] 167))):=((((((bHM.o.trans Zg).trans cm1).trans cm2).trans cm3).trans cm4).trans Z4).alloc _;have Gs:ae (PartsAt (cw5.alloc (.cells #[.int .i64 0,.func IZ #[] I1,.func (.func I4) #[] I5,.func (.func I6) #[] I7,.int .i64 1,.func Zx #[] Zy,.func (.func Zz) #[] ZA,.func (.func ZB) #[] ZC,.int .i64 4,.func ZD #[] ZE,.func (.func ZF) #[] ZG,.func (.func ZH) #[] ZI,.int .i64 0,.func ZJ #[] ZK,.func (.func ZL) #[] ZM,.func (.func ZN) #[] ZO,.int .i64 0,.func ZP #[] ZQ,.func (.func ZR) #[] ZS,.func (.func ZT) #[] ZU,.int .i64 8,.func ZV #[] ZW,.func (.func ZX) #[] ZY,.func (.func ZZ) #[] Z0] 167)) (.slice (some ⟨g1,0,none⟩) 6 6) lQ):=Kw.o.ah ((((((((aa.refl af _).trans Zg).trans cm1).trans cm2).trans cm3).trans cm4).trans Z4).alloc _);have RC:ae (PartsAt (cw5.alloc (.cells #[.int .i64 0,.func IZ #[] I1,.func (.func I4) #[] I5,.func (.func I6) #[] I7,.int .i64 1,.func Zx #[] Zy,.func (.func Zz) #[] ZA,.func (.func ZB) #[] ZC,.int .i64 4,.func ZD #[] ZE,.func (.func ZF) #[] ZG,.func (.func ZH) #[] ZI,.int .i64 0,.func ZJ #[] ZK,.func (.func ZL) #[] ZM,.func (.func ZN) #[] ZO,.int .i64 0,.func ZP #[] ZQ,.func (.func ZR) #[] ZS,.func (.func ZT) #[] ZU,.int .i64 8,.func ZV #[] ZW,.func (.func ZX) #[] ZY,.func (.func ZZ) #[] Z0] 167)) (.slice (some ⟨g2,0,none⟩) 6 6) jC):=bHP.o.ah ((((((((aa.refl af _).trans Zg).trans cm1).trans cm2).trans cm3).trans cm4).trans Z4).alloc _);clear Kw bHP ck0 Zg ck1 cm1 ck2 cm2 ck3 cm3 ck4 cm4 ck5 Z4;simp only[PV.cells,PK.fills,bj];clear bHM;have cE:=HE.o.ah Zh.o;have e0:=cE.c0;have e1:=cE.c1;have e2:=cE.c2;have e3:=cE.c3;clear cE;have HI:ae (∀(k:Nat) (hk:k<4) (W:tW),(Instr.index 186 (.agg #[.string (T [49]),.string (T [50]),.string (T [52]),.string (T [56])]) (.int .i64 k)).run prog W=.ok (.string (T (qE[k]'hk))) W):=Vu;go_upto_block 0 with fail;generalize cw5.alloc (.cells #[.int .i64 0,.func IZ #[] I1,.func (.func I4) #[] I5,.func (.func I6) #[] I7,.int .i64 1,.func Zx #[] Zy,.func (.func Zz) #[] ZA,.func (.func ZB) #[] ZC,.int .i64 4,.func ZD #[] ZE,.func (.func ZF) #[] ZG,.func (.func ZH) #[] ZI,.int .i64 0,.func ZJ #[] ZK,.func (.func ZL) #[] ZM,.func (.func ZN) #[] ZO,.int .i64 0,.func ZP #[] ZQ,.func (.func ZR) #[] ZS,.func (.func ZT) #[] ZU,.int .i64 8,.func ZV #[] ZW,.func (.func ZX) #[] ZY,.func (.func ZZ) #[] Z0] 167)=W3 at *;generalize cw5.heap.size=g3 at *;clear e0 e1 e2 e3;go_cut [4] (λo wl=>∃bs,aR w.heap.size wl o bs (Uq 4)/\aa af w wl)
 case first =>
  go_wp2_with fail;go_loopw [4,31] (λo i wl=>∃(k:Nat) (bs:List Nat),k<=4/\i=.int .i64 k/\aR w.heap.size wl o bs (Uq k)/\PartsAt wl (.slice (some ⟨g1,0,none⟩) 6 6) lQ/\PartsAt wl (.slice (some ⟨g2,0,none⟩) 6 6) jC/\PartsAt wl (.slice (some ⟨g3,0,none⟩) 6 6) gX/\aa af w wl) (λ_ i _=>4-(intOf i).toNat)
  case atStart=>exact⟨0,[],by omega,rfl,aR.nil _ _,Gs.o,RC.o,cHP.o,Zh.o⟩
  case round =>
   obtain⟨k,bs,hk,rfl,hO,hP1,hP2,hP3,hM⟩:=hrel;clear Gs RC cHP Zh;by_cases hlt:k<4
   ·have hidx:=HI.o k hlt;have HST:ae (Uq (k+1)=Uq k++[iC (128+k) ([108,100]++qE[k]) lQ,iC (132+k) ([115,116]++qE[k]) jC,iC (136+k) ([115,116]++qE[k]) gX]):=Vt k hlt;have HW:ae ((T (qE[k])).size<=90):=MR k hlt;generalize qE[k]=wd at *;have HO:ae _:=hO;have fq:ae _:=hP1;have eT:ae _:=hP2;have mr:ae _:=hP3;have HM:ae _:=hM;clear hO hP1 hP2 hP3 hM;have hwd:(T wd).size<=90:=HW.o;have HL:ae (bs.length<=100):=by have:=HO.o.len;rw[Zj k (by omega)]at this;exact(by omega:bs.length<=100)
    go_wp2_with fail;go_quiet (fail);go_wp2_with fail;have X0:ae (aa af wr (wr.drewN nq)):=(aa.refl _ _).drewN _;refine(Rv _ _).mono ?_;rintro e v0 ⟨fb0,cb0,rfl,Kx⟩;have X1:=ak (X0.o.trans Kx);have MB0:ae _:=Kx;clear Kx;go_wp2_with fail;refine(kY _ _ (128+k) (by omega) _ ([108,100]++wd) (jR _ wd).symm _ lQ _ _ (fq.o.ah X1.o) (by have:=HW.o;rw[bZ]at this;simp;omega) (by decide)).mono ?_;rintro e r0 ⟨b0,rfl,hr0,hb0,Ky⟩;have X2:=ak (X1.o.trans Ky);have iy:ae _:=hr0;have MR0:ae _:=Ky;have HB0:=ak hb0;clear hr0 hb0 Ky;go_wp2_with fail;refine(Dq _ _ _ _).mono ?_;rintro e v1 ⟨fb1,cb1,rfl,Kz⟩;have X3:=ak (X2.o.trans Kz);have Vm:ae _:=Kz;clear Kz;go_wp2_with fail;refine(kY _ _ (132+k) (by omega) _ ([115,116]++wd) (jR _ wd).symm _ jC _ _ (eT.o.ah X3.o) (by have:=HW.o;rw[bZ]at this;simp;omega) (by decide)).mono ?_;rintro e r1 ⟨b1,rfl,hr1,hb1,KA⟩;have X4:=ak (X3.o.trans KA);have Ap:ae _:=hr1;have MR1:ae _:=KA;have HB1:=ak hb1;clear hr1 hb1 KA;go_wp2_with fail;refine(Dq _ _ _ _).mono ?_;rintro e v2 ⟨fb2,cb2,rfl,mb2⟩;have X5:=ak (X4.o.trans mb2);have MB2:ae _:=mb2;clear mb2;go_wp2_with fail;refine(kY _ _ (136+k) (by omega) _ ([115,116]++wd) (jR _ wd).symm _ gX _ _ (mr.o.ah X5.o) (by have:=HW.o;rw[bZ]at this;simp;omega) (by decide)).mono ?_;rintro e r2 ⟨b2,rfl,hr2,hb2,mr2⟩;have X6:=ak (X5.o.trans mr2);have jI:ae _:=hr2;have MR2:ae _:=mr2;have HB2:=ak hb2;clear hr2 hb2 mr2;go_wp2_with (at_builtin;refine aJ _ rfl (.tmp 40) (.tmp 64) 72 rfl 114 iP (.pointer none) 1 8 underlying72 hiP qH hsP vZ rfl (by decide) u4 bs.length (bs.map jE) rfl (HO.o.ah (X6.o.alloc _)).sl ⟨r2.heap.size,0,none⟩ 3 3 [jE b0,jE b1,jE b2] rfl rfl (aT _ _ _ _ rfl) (uU [b0,b1,b2]) (by have:=HL.o;unfold maxLen;omega) (by have:=HL.o;omega) ?_;intro vA wA sA mA lA;obtain⟨oA,cA,rfl,_⟩:=Sl.view sA);have H01:b0<b1:=by have:=iy.o.lt;have:=Vm.o.size;have:=HB1.o;omega
    have H12:b1<b2:=by have:=Ap.o.lt;have:=MB2.o.size;have:=HB2.o;omega
    have H0:wr.heap.size<=b0:=by have:=HB0.o;have:=X1.o.size;omega
    have HG:ae (aR w.heap.size wA (.slice oA (bs.length+3) cA) (bs++[b0,b1,b2]) (Uq k++[iC (128+k) ([108,100]++wd) lQ,iC (132+k) ([115,116]++wd) jC,iC (136+k) ([115,116]++wd) gX])) :=
     aR.grow [b0,b1,b2] _ HO.o (X6.o.alloc _) rfl (by simp;omega) (by simp;omega) (λi h h'=>by
      have hi:i=0\/i=1\/i=2:=by simp at h;omega
      rcases hi with rfl|rfl|rfl
      ·exact((((iy.o.ah Vm.o).ah MR1.o).ah MB2.o).ah MR2.o).ah ((aa.refl _ _).alloc _)
      ·exact((Ap.o.ah MB2.o).ah MR2.o).ah ((aa.refl _ _).alloc _)
      ·exact jI.o.ah ((aa.refl _ _).alloc _)) sA mA lA HM.o.size
    have sU:ae (aa af w wA):=(HM.o.trans (X6.o.alloc _)).step mA (λi hi h=>by have:=HO.o.own i h;omega);have HK:ae (Kp wr wA):=(X6.o.alloc _).kp.trans (aa.MG (HO.o.ah (X6.o.alloc _)).sl mA);rw[<-HST.o]at HG;clear H01 H12 H0 hidx;go_roundw
    case rel=>exact⟨k+1,_,by omega,by go_num,HG.o,fq.o.kp HK.o,eT.o.kp HK.o,mr.o.kp HK.o,sU.o⟩
    case measure=>simp[intOf];omega
   ·obtain rfl:k=4:=by omega
    go_wp2_with fail;go_meet;exact⟨bs,hO,hM⟩
 case rest =>
 obtain⟨bs,hO,hM⟩:=hcut;have HO:=ak hO;have HM:=ak hM;clear hO hM Gs RC cHP Zh;go_wp2_with fail;go_ret;exact⟨_,_,rfl,HO.o,HM.o⟩
abbrev abn:tAV:=#[.string (T [103,101,116]),.func (.func 250) #[] #[],.string (T [112,117,116]),.func (.func 251) #[] #[],.string (T [100,101,108]),.func (.func 252) #[] #[],.string (T [108,111,103]),.func (.func 253) #[] #[]]
theorem kZ(w:tW):Calls prog 208 #[] w λe w'=>e=.returned (.agg abn)/\aa af w w':=by go_enter func208,ntmps208;go_wp2_with fail;exact bodyPost_ret (results_cell_row results208 _ _ w.heap.size 245 _ (0,0) _ rfl (aq.new _ _ _) underlying245 rfl (by kernel_rfl)) rfl ⟨rfl,(aa.refl _ _).alloc _⟩
theorem I8(o:eQ)(ho:o.call=true)(x:iw)(hx:x.Fit)(w:tW):Calls prog 107 #[.agg x.cells] w λe w'=>e=.returned (.bool (o.needs x))/\aa af w w':=by
 have hw:o.needs x=(dA x 10&&(decide (x.s=1)||(decide (x.s=0)&&decide (1<=x.num)&&decide (x.num<5)))):=by unfold eQ.needs;rw[ho,iP9 rfl]
 rw[hw];clear hw ho;have hO:=Dl x 10 (by decide);obtain⟨op,d,s,jump,num,high,label,name⟩:=x;generalize hob:dA ⟨op,d,s,jump,num,high,label,name⟩ 10=ob at *;clear hob;have hs:=hx.s;have n0:=hx.n0;have n1:=hx.n1;clear hx;unfold iw.cells at *;simp only at *;have HO:ae _:=hO;clear hO;cases ob with
 |false =>go_enter func107,ntmps107;go_wp2_with fail;refine(HO.o _).mono ?_;rintro e w1 ⟨rfl,m1⟩;go_wp2_with fail;go_ret;exact⟨by simp,((aa.refl _ _).alloc _).trans m1⟩
 |true =>
  have hq:=aq.new w #[op,.int .u8 d,.int .u8 s,.int .i16 jump,.int .i32 num,.int .i32 high,.string label,.string name] 117;by_cases h1:s=1
  ·subst h1;go_enter func107,ntmps107;go_wp2_with fail;refine(HO.o _).mono ?_;rintro e w1 ⟨rfl,m1⟩;have hq1:=hq.ah m1 id;have z2:=hq1.cell 2;simp at z2;go_wp2_with fail;go_ret;exact⟨by simp,((aa.refl _ _).alloc _).trans m1⟩
  ·have q1:decide ((s:Int)=1)=false:=by simp;omega
   go_enter func107,ntmps107;go_wp2_with fail;refine(HO.o _).mono ?_;rintro e w1 ⟨rfl,m1⟩;have hq1:=hq.ah m1 id;have z2:=hq1.cell 2;simp at z2;have y2:∀g:Ext af w1,g.w.cell? ⟨w.heap.size,2,none⟩=some (.int .u8 s):=λg=>g.cell hq1 id 2;have y4:∀g:Ext af w1,g.w.cell? ⟨w.heap.size,4,none⟩=some (.int .i32 num):=λg=>g.cell hq1 id 4;have ne1:=Ext.ne af w1;clear hq hq1;by_cases h0:s=0
   ·subst h0;by_cases ha:1<=num
    ·by_cases hb:num<5
     ·go_wp2_with fail;refine bD af (by kernel_rfl) (by kernel_rfl) ?_
      repeat(go_big_quiet_step ((go_at_call 208;exact Calls.dN (kZ _))))
      refine wpQuiet_nil ?_;rintro w2 ⟨⟨wx,m2⟩,hwx⟩;simp only at hwx;subst hwx;go_wp2_with fail;go_ret;exact⟨by simp,(((aa.refl _ _).alloc _).trans m1).trans m2⟩
     ·have hb':decide (num<5)=false:=by simp;omega
      go_wp2_with fail;refine bD af (by kernel_rfl) (by kernel_rfl) ?_
      repeat(go_big_quiet_step ((go_at_call 208;exact Calls.dN (kZ _))))
      refine wpQuiet_nil ?_;rintro w2 ⟨⟨wx,m2⟩,hwx⟩;simp only at hwx;subst hwx;go_wp2_with fail;go_ret;exact⟨by simp,(((aa.refl _ _).alloc _).trans m1).trans m2⟩
    ·have ha':decide (1<=num)=false:=by simp;omega
     go_wp2_with fail;refine bD af (by kernel_rfl) (by kernel_rfl) ?_
     repeat(go_big_quiet_step ((go_at_call 208;exact Calls.dN (kZ _))))
     refine wpQuiet_nil ?_;rintro w2 ⟨⟨wx,m2⟩,hwx⟩;simp only at hwx;subst hwx;go_wp2_with fail;go_ret;exact⟨by simp,(((aa.refl _ _).alloc _).trans m1).trans m2⟩
   ·have h0':((s:Int)==0)=false:=by simp;omega
    go_wp2_with fail;refine bD af (by kernel_rfl) (by kernel_rfl) ?_
    repeat(go_big_quiet_step ((go_at_call 208;exact Calls.dN (kZ _))))
    refine wpQuiet_nil ?_;rintro w2 ⟨⟨wx,m2⟩,hwx⟩;simp only at hwx;subst hwx;go_wp2_with fail;go_ret;exact⟨by simp[h0,h1],(((aa.refl _ _).alloc _).trans m1).trans m2⟩
theorem RD{r:bE}(h:r.word=[99,97,108,108]):r.call=if ahI (aC r.rest).1 then some {r with s:=1,name:=(aC r.rest).1,rest:=(aC r.rest).2}else none:=by unfold bE.call;rw[iP9 h]
theorem Gt{r:bE}(h:r.word≠[99,97,108,108]):r.call=(jg.findIdx? (λh=>h==(aC r.rest).1)).map (λn=>{r with num:=(1+n:Nat),rest:=(aC r.rest).2}):=by unfold bE.call;rw[iN9 h]
theorem RF(b:Nat)(op:Value)(r:bE)(w:tW)(h:aq w b (r.cells op) 209)(hl:r.rest.length<=1000000)(hm:r.word=[99,97,108,108]):Calls prog 105 #[.pointer (some ⟨b,0,none⟩)] w λe w'=>bK w b op r.call e w':=by
 have hq:((T r.word).toList==[99,97,108,108])=true:=dX (by rw[hm]);have HN:ae (∀w',aq w' b ({r with s:=1}.cells op) 209->Calls prog 78 #[.pointer (some ⟨b,1,none⟩)] w' λe w''=>e=.returned (.tuple #[.string (T (aC r.rest).1),.bool (ahI (aC r.rest).1)])/\aN w' b 1 ({r with s:=1}.cells op) 209 (aC r.rest).2 w''):=λw' h'=>qF _ 1 _ _ _ w' (nu (r:={r with s:=1}) h') hl
 have uI:ae (∀e w',e=.returned (.bool (ahI (aC r.rest).1))->aa (Only b) w w'->aq w' b ({r with s:=1,name:=(aC r.rest).1,rest:=(aC r.rest).2}.cells op) 209->bK w b op r.call e w'):=λe w' he hmd hbk=>by
  rw[RD hm];cases hn:ahI (aC r.rest).1 with
  |true=>rw[hn]at he;exact⟨by rw[he];rfl,hmd,λr' hr'=>by cases hr';exact hbk⟩
  |false=>rw[hn]at he;exact⟨by rw[he];rfl,hmd,λr' hr'=>by cases hr'⟩
 generalize bK w b op r.call=RP at *;generalize ahI (aC r.rest).1=nb at *;generalize aC r.rest=w1 at *;obtain⟨n1,l1⟩:=w1;dsimp only at *;have c0:w.cell? ⟨b,0,none⟩=some (.string (T r.word)):=h.cell 0;have c4:w.cell? ⟨b,4,none⟩=some (.int .u8 (r.s:Int)):=h.cell 4;have zf:=h.frozen;have HB0:ae (aq (w.setCell ⟨b,4,none⟩ (.int .u8 1)) b ({r with s:=1}.cells op) 209):=h.set 4 _;have gq:ae (aa (Only b) w (w.setCell ⟨b,4,none⟩ (.int .u8 1))):=(aa.refl _ _).bP 4 _;clear h hl hm;go_enter func105,ntmps105;go_wp2_with fail;refine(HN.o _ HB0.o).mono ?_;rintro e wa ⟨rfl,hp1⟩;have HB1:=ak hp1.rd;have iG:=ak (gq.o.trans hp1.2);clear hp1 HB0 gq HN c0 c4 zf;have z9:wa.cell? ⟨b,9,none⟩=some (.string (T r.name)):=HB1.o.cell 9;have zf:=HB1.o.frozen;go_wp2_with fail;exact uI.o _ _ rfl (iG.o.bP 9 _) (HB1.o.set 9 _)
theorem ac0(k:Nat)(hk:k<4):∃f c,∀W,(Instr.index 245 (.agg abn) (.int .i64 k)).run prog W=.ok (.agg #[.string (T (jg[k]?.getD [])),.func f #[] c]) W:=by
 obtain rfl|rfl|rfl|rfl:k=0\/k=1\/k=2\/k=3:=by omega
 ·exact⟨_,_,λW=>rfl⟩
 ·exact⟨_,_,λW=>rfl⟩
 ·exact⟨_,_,λW=>rfl⟩
 ·exact⟨_,_,λW=>rfl⟩
def xS(x:tLB)(k:Nat):Prop:=∀j,j<k->jg[j]?.getD []≠x
theorem Vv{x:tLB}{k:Nat}(hk:k<4)(h:xS x k)(e:jg[k]?.getD []=x):jg.findIdx? (λh=>h==x)=some k:=by
 have hl:jg.length=4:=rfl;rw[List.findIdx?_eq_some_iff_getElem];refine⟨by omega,?_,λj hj=>?_⟩
 ·rw[List.getElem?_eq_getElem (by omega)]at e
  simpa using e
 ·have:=h j hj;rw[List.getElem?_eq_getElem (by omega)]at this
  simpa using this
theorem RH{x:tLB}(h:xS x 4):jg.findIdx? (λh=>h==x)=none:=by
 rw[List.findIdx?_eq_none_iff];intro y hy;obtain⟨j,hj,rfl⟩:=cc hy;have:=h j (by simpa [jg]using hj);rw[List.getElem?_eq_getElem hj]at this
 simpa using this
theorem RI(b:Nat)(op:Value)(r:bE)(w:tW)(h:aq w b (r.cells op) 209)(hl:r.rest.length<=1000000)(hm:r.word≠[99,97,108,108]):Calls prog 105 #[.pointer (some ⟨b,0,none⟩)] w λe w'=>bK w b op r.call e w':=by
 have hq:((T r.word).toList==[99,97,108,108])=false:=dK (λe=>hm (qo e));have hwl:=kX r.rest;have HW:ae (Calls prog 73 #[.pointer (some ⟨b,1,none⟩)] w λe w'=>e=.returned (.string (T (aC r.rest).1))/\aN w b 1 (r.cells op) 209 (aC r.rest).2 w'):=iL b 1 _ _ r.rest w (nu h) hl;have uI:ae (∀e w' k,k<4->e=.returned (.bool true)->aa (Only b) w w'->xS (aC r.rest).1 k->jg[k]?.getD []=(aC r.rest).1->aq w' b ({r with num:=(1+k:Nat),rest:=(aC r.rest).2}.cells op) 209->bK w b op r.call e w'):=λe w' k hk he hmd h1 h2 hbk=>by rw[Gt hm,Vv hk h1 h2];exact⟨by rw[he];rfl,hmd,λr' hr'=>by cases hr';exact hbk⟩
 have Ur:ae (∀e w',e=.returned (.bool false)->aa (Only b) w w'->xS (aC r.rest).1 4->bK w b op r.call e w'):=λe w' he hmd h1=>by rw[Gt hm,RH h1];exact⟨by rw[he];rfl,hmd,λr' hr'=>by cases hr'⟩
 generalize bK w b op r.call=RP at *;generalize aC r.rest=w1 at *;obtain⟨x,l1⟩:=w1;dsimp only at *;have c0:w.cell? ⟨b,0,none⟩=some (.string (T r.word)):=h.cell 0;clear h hl;go_enter func105,ntmps105;go_wp2_with fail;refine HW.o.mono ?_;rintro e wa ⟨rfl,hp1⟩;have HB1:=ak hp1.rd;have iG:=ak hp1.2;clear hp1 HW c0 hq hm;go_wp2_with fail;refine(kZ _).mono ?_;rintro e wb ⟨rfl,m2⟩;have HB2:=ak (HB1.o.ah m2 id);have ep:=ak (iG.o.trans m2.of_nil);clear m2 HB1 iG;go_wp2_with fail;go_loopg [33] 4 (λq v wx=>∃k:Nat,k<=4/\v=.int .i64 k/\aq wx b ({r with rest:=l1}.cells op) 209/\aa (Only b) w wx/\xS x k/\q=4-k)
 case atStart=>exact⟨0,by omega,rfl,HB2.o,ep.o,λj hj=>absurd hj (Nat.not_lt_zero _),rfl⟩
 case round =>
  obtain⟨k,hk,rfl,hbk,hmk,hto,rfl⟩:=hrel;have qk:=ak hbk;have uk:=ak hmk;have HTo:=ak hto;clear hbk hmk hto HB2 ep;by_cases hlt:k<4
  ·obtain⟨f,c,hI⟩:=ac0 k hlt;have aev:ae (∀e w',e=.returned (.bool true)->aa (Only b) w w'->xS x k->jg[k]?.getD []=x->aq w' b ({r with num:=(1+k:Nat),rest:=l1}.cells op) 209->RP e w'):=λe w'=>uI.o e w' k hlt
   have HTs:ae (jg[k]?.getD []≠x->xS x (k+1)):=λhne j hj=>by
    rcases Nat.lt_or_ge j k with e|e
    ·exact HTo.o j e
    ·have:j=k:=by omega
     subst this;exact hne
   generalize jg[k]?.getD []=hw at *;have HB3:ae (aq (wr.alloc (.cells #[.string (T hw),.func f #[] c] 244)) b ({r with rest:=l1}.cells op) 209):=qk.o.alloc _;have fw:ae (aa (Only b) w (wr.alloc (.cells #[.string (T hw),.func f #[] c] 244))):=uk.o.alloc _;have hbl:b<wr.heap.size:=qk.o.lt;have z6:wr.cell? ⟨b,6,none⟩=some (.int .i32 r.num):=qk.o.cell 6;have zf:=qk.o.frozen;by_cases hx:hw=x
   ·have hq:((T x).toList==(T hw).toList)=true:=uM (by rw[hx]);have jJ:ae (aa (Only b) w ((wr.setCell ⟨b,6,none⟩ (.int .i32 (1+(k:Int)))).alloc (.cells #[.string (T hw),.func f #[] c] 244))):=(uk.o.bP 6 _).alloc _
    have yL:ae (aq ((wr.setCell ⟨b,6,none⟩ (.int .i32 (1+(k:Int)))).alloc (.cells #[.string (T hw),.func f #[] c] 244)) b ({r with num:=(1+k:Nat),rest:=l1}.cells op) 209):=by
     have e:((1+k:Nat):Int)=1+(k:Int):=by omega
     have:=(qk.o.set 6 (.int .i32 (1+(k:Int)))).alloc (.cells #[.string (T hw),.func f #[] c] 244);unfold bE.cells;dsimp only;rw[e];exact this
    have HX:=ak hx;clear hx;go_wp2_with fail;exact aev.o _ _ rfl jJ.o HTo.o HX.o yL.o
   ·have hq:((T x).toList==(T hw).toList)=false:=mV (λe=>hx (qo e).symm);have HT2:=ak (HTs.o hx);clear hx;go_wp2_with fail;go_roundg (4-(k+1))
    case measure=>omega
    case rel=>exact⟨k+1,by omega,by go_num,HB3.o,fw.o,HT2.o,rfl⟩
  ·have hke:k=4:=by omega
   subst hke;go_wp2_with fail;exact Ur.o _ _ rfl uk.o HTo.o
theorem MT(b:Nat)(op:Value)(r:bE)(w:tW)(h:aq w b (r.cells op) 209)(hl:r.rest.length<=1000000):Calls prog 105 #[.pointer (some ⟨b,0,none⟩)] w λe w'=>bK w b op r.call e w':=by
 by_cases hm:r.word=[99,97,108,108]
 ·exact RF b op r w h hl hm
 ·exact RI b op r w h hl hm
def KE:eQ:=⟨193,[],[],1,false,false,1,true⟩
theorem Vw(w:tW)(b1:Nat)(hb:aq w b1 #[.string ⟨#[104,101,108,112]⟩,.string ⟨#[99,97,108,108]⟩] 9):Dn w (.slice (some ⟨b1,0,none⟩) 2 2) (.func 105) #[] 106 #[] 107 #[] KE where
 wr:=trivial
 nd:=λw' x _ hx=>by simpa using I8 KE rfl x hx w'
 e7:=enters_of func106 (by kernel_rfl) rfl
 e8:=enters_of func107 (by kernel_rfl) rfl
 ws:=Sl.fresh hb rfl (by decide)
 rd:=⟨_,rfl,enters_of func105 (by kernel_rfl) rfl,λw' b op r _ _ h hl=>by simpa [eQ.read,KE]using MT b op r w' h hl⟩
theorem PartsAt.none(w:tW):PartsAt w (.slice none 0 0) []:=⟨[],rfl,λx h=>(by cases h),Sl.nil _ _ _⟩
theorem I9(w:tW):Calls prog 51 #[] w λe w'=>∃v bs,e=.returned v/\aR w.heap.size w' v bs Ig/\aa af w w':=by
 go_enter func51,ntmps51;go_wp2_with fail;refine(mJ _).mono ?_;rintro e aw0 ⟨⟨rU,rV,rW,rX,rY,rZ⟩,rfl,Vi,Vj⟩;go_wp2_with fail;refine(gH _).mono ?_;rintro e aw1 ⟨⟨r9,si,sj,sD,sG,sH⟩,rfl,Rx,ML⟩;go_wp2_with fail;refine(Rq _).mono ?_;rintro e MM ⟨⟨sJ,sK,sN,sO,sQ,sS⟩,rfl,Ry,Il⟩
 have Vk:ae (PartsAt (MM.alloc (.cells #[.int .i64 1,.func rU #[] rV,.func (.func rW) #[] rX,.func (.func rY) #[] rZ,.int .i64 0,.func r9 #[] si,.func (.func sj) #[] sD,.func (.func sG) #[] sH,.int .i64 10,.func sJ #[] sK,.func (.func sN) #[] sO,.func (.func sQ) #[] sS] 167)) (.slice (some ⟨MM.heap.size,0,none⟩) 3 3) [.result,.comma,.wide]):=PartsAt.new MM [(.result,⟨rU,rV,rW,rX,rY,rZ⟩),(.comma,⟨r9,si,sj,sD,sG,sH⟩),(.wide,⟨sJ,sK,sN,sO,sQ,sS⟩)] (by
  simp only[bh,ar,or_false];rintro x (rfl|rfl|rfl)
  ·exact((Vi.ah ML).ah Il)
  ·exact(Rx.ah Il)
  ·exact Ry) _ rfl 3 rfl (by decide)
 have Uo:ae (aa af w (MM.alloc (.cells #[.int .i64 1,.func rU #[] rV,.func (.func rW) #[] rX,.func (.func rY) #[] rZ,.int .i64 0,.func r9 #[] si,.func (.func sj) #[] sD,.func (.func sG) #[] sH,.int .i64 10,.func sJ #[] sK,.func (.func sN) #[] sO,.func (.func sQ) #[] sS] 167))):=((((aa.refl af w).trans Vj).trans ML).trans Il).alloc _;clear Vi Vj Rx ML Ry Il;simp only[PV.cells,PK.fills,bj];go_wp2_with fail;generalize MM.alloc (.cells #[.int .i64 1,.func rU #[] rV,.func (.func rW) #[] rX,.func (.func rY) #[] rZ,.int .i64 0,.func r9 #[] si,.func (.func sj) #[] sD,.func (.func sG) #[] sH,.int .i64 10,.func sJ #[] sK,.func (.func sN) #[] sO,.func (.func sQ) #[] sS] 167)=W1 at *;generalize MM.heap.size=g1 at *;refine(kY _ _ 192 rfl _ [119,105,100,101] rfl _ [.result,.comma,.wide] _ _ Vk.o (by decide) (by decide)).mono ?_;rintro e w4 ⟨b4,rfl,h4,l4,m4⟩;have h5:=(h4.slots 2).aX 2;have BH:ae (w.heap.size<=b4):=by have:=Uo.o.size;exact(by omega:w.heap.size<=b4)
 have mU:ae (aa af w ((w4.setCell ⟨b4,2,none⟩ (.int .i64 2)).setCell ⟨b4,5,none⟩ (.int .i64 2))):=((Uo.o.trans m4).set (.inr BH.o) _).set (.inr BH.o) _;have H5:=ak h5;obtain⟨o1,n1,c1,f6,c6,k7,c7,k8,c8,f9,c9,hblk,_⟩:=h4.ex;have z2:=hblk.cell 2;have fz2:=hblk.frozen 2;have hblk2:=hblk.set 2 (.int .i64 2);have z5:=hblk2.cell 5;have fz5:=hblk2.frozen 5;simp at z2 z5;have HZ:ae (((w4.setCell ⟨b4,2,none⟩ (.int .i64 2)).setCell ⟨b4,5,none⟩ (.int .i64 2)).heap.size=w4.heap.size):=by simp[ae,World.setCell]
 have yL:=ak h4.lt;clear hblk hblk2 h4 h5 Vk Uo m4 l4;go_wp2_with fail;generalize(w4.setCell ⟨b4,2,none⟩ (.int .i64 2)).setCell ⟨b4,5,none⟩ (.int .i64 2)=W5 at *
 have HC:ae (dM ((W5.alloc (.cells #[.string ⟨#[104,101,108,112]⟩,.string ⟨#[99,97,108,108]⟩] 9)).alloc (.cells #[.int .u8 193,.slice (some ⟨w4.heap.size,0,none⟩) 2 2,.int .i64 1,.bool false,.bool false,.int .i64 1,.func (.func 105) #[] #[],.func (.func 106) #[] #[],.func (.func 107) #[] #[],.func (.func 108) #[] #[]] 134)) (w4.heap.size+1) KE):=by
  have hb:aq ((W5.alloc (.cells #[.string ⟨#[104,101,108,112]⟩,.string ⟨#[99,97,108,108]⟩] 9)).alloc (.cells #[.int .u8 193,.slice (some ⟨w4.heap.size,0,none⟩) 2 2,.int .i64 1,.bool false,.bool false,.int .i64 1,.func (.func 105) #[] #[],.func (.func 106) #[] #[],.func (.func 107) #[] #[],.func (.func 108) #[] #[]] 134)) (w4.heap.size+1) #[.int .u8 193,.slice (some ⟨w4.heap.size,0,none⟩) 2 2,.int .i64 1,.bool false,.bool false,.int .i64 1,.func (.func 105) #[] #[],.func (.func 106) #[] #[],.func (.func 107) #[] #[],.func (.func 108) #[] #[]] 134:=by
   have:=aq.new (W5.alloc (.cells #[.string ⟨#[104,101,108,112]⟩,.string ⟨#[99,97,108,108]⟩] 9)) #[.int .u8 193,.slice (some ⟨w4.heap.size,0,none⟩) 2 2,.int .i64 1,.bool false,.bool false,.int .i64 1,.func (.func 105) #[] #[],.func (.func 106) #[] #[],.func (.func 107) #[] #[],.func (.func 108) #[] #[]] 134;have e:(W5.alloc (.cells #[.string ⟨#[104,101,108,112]⟩,.string ⟨#[99,97,108,108]⟩] 9)).heap.size=w4.heap.size+1:=by have:=HZ.o;simp;omega
   rw[e]at this;exact this
  have hb5:aq ((W5.alloc (.cells #[.string ⟨#[104,101,108,112]⟩,.string ⟨#[99,97,108,108]⟩] 9)).alloc (.cells #[.int .u8 193,.slice (some ⟨w4.heap.size,0,none⟩) 2 2,.int .i64 1,.bool false,.bool false,.int .i64 1,.func (.func 105) #[] #[],.func (.func 106) #[] #[],.func (.func 107) #[] #[],.func (.func 108) #[] #[]] 134)) w4.heap.size #[.string ⟨#[104,101,108,112]⟩,.string ⟨#[99,97,108,108]⟩] 9:=by have:=(aq.new W5 #[.string ⟨#[104,101,108,112]⟩,.string ⟨#[99,97,108,108]⟩] 9).alloc (.cells #[.int .u8 193,.slice (some ⟨w4.heap.size,0,none⟩) 2 2,.int .i64 1,.bool false,.bool false,.int .i64 1,.func (.func 105) #[] #[],.func (.func 106) #[] #[],.func (.func 107) #[] #[],.func (.func 108) #[] #[]] 134);rw[HZ.o]at this;exact this
  exact⟨_,_,_,_,_,_,_,_,_,_,_,hb,Vw _ _ hb5⟩
 have H6:ae (dM ((W5.alloc (.cells #[.string ⟨#[104,101,108,112]⟩,.string ⟨#[99,97,108,108]⟩] 9)).alloc (.cells #[.int .u8 193,.slice (some ⟨w4.heap.size,0,none⟩) 2 2,.int .i64 1,.bool false,.bool false,.int .i64 1,.func (.func 105) #[] #[],.func (.func 106) #[] #[],.func (.func 107) #[] #[],.func (.func 108) #[] #[]] 134)) b4 _):=H5.o.ah (((aa.refl _ _).alloc _).alloc _);have E5:ae (aa af w ((W5.alloc (.cells #[.string ⟨#[104,101,108,112]⟩,.string ⟨#[99,97,108,108]⟩] 9)).alloc (.cells #[.int .u8 193,.slice (some ⟨w4.heap.size,0,none⟩) 2 2,.int .i64 1,.bool false,.bool false,.int .i64 1,.func (.func 105) #[] #[],.func (.func 106) #[] #[],.func (.func 107) #[] #[],.func (.func 108) #[] #[]] 134))):=(mU.o.alloc _).alloc _;have uq:ae (((W5.alloc (.cells #[.string ⟨#[104,101,108,112]⟩,.string ⟨#[99,97,108,108]⟩] 9)).alloc (.cells #[.int .u8 193,.slice (some ⟨w4.heap.size,0,none⟩) 2 2,.int .i64 1,.bool false,.bool false,.int .i64 1,.func (.func 105) #[] #[],.func (.func 106) #[] #[],.func (.func 107) #[] #[],.func (.func 108) #[] #[]] 134)).heap.size=w4.heap.size+2):=by have:=HZ.o;simp[ae];omega
 clear H5 mU HZ;generalize(W5.alloc (.cells #[.string ⟨#[104,101,108,112]⟩,.string ⟨#[99,97,108,108]⟩] 9)).alloc (.cells #[.int .u8 193,.slice (some ⟨w4.heap.size,0,none⟩) 2 2,.int .i64 1,.bool false,.bool false,.int .i64 1,.func (.func 105) #[] #[],.func (.func 106) #[] #[],.func (.func 107) #[] #[],.func (.func 108) #[] #[]] 134)=W6 at *;refine(kY _ _ 194 rfl _ [101,120,105,116] rfl _ [] _ _ (PartsAt.none W6) (by decide) (by decide)).mono ?_;rintro e w7 ⟨b7,rfl,h7,l7,m7⟩;have h8:=h7.ends;have HL7:ae (w4.heap.size+2<=b7):=by have:=uq.o;exact(by omega:w4.heap.size+2<=b7)
 have HLW:ae (w.heap.size<=b7):=by have:=BH.o;have:=yL.o;have:=HL7.o;exact(by omega:w.heap.size<=b7)
 have HM8:ae (aa af w (w7.setCell ⟨b7,4,none⟩ (.bool true))):=(E5.o.trans m7).set (.inr HLW.o) _;have H8:=ak h8;have H84:ae (dM (w7.setCell ⟨b7,4,none⟩ (.bool true)) b4 _):=(H6.o.ah m7).other h7.yZ (by have:=yL.o;have:=HL7.o;omega) 4 _;have H8C:ae (dM (w7.setCell ⟨b7,4,none⟩ (.bool true)) (w4.heap.size+1) KE):=(HC.o.ah m7).other h7.yZ (by have:=HL7.o;omega) 4 _;obtain⟨o2,n2,c2',f6',c6',k7',c7',k8',c8',f9',c9',hblk',_⟩:=h7.ex;have y4:=hblk'.cell 4;have fy4:=hblk'.frozen 4;simp at y4;have HZ8:ae ((w7.setCell ⟨b7,4,none⟩ (.bool true)).heap.size=w7.heap.size):=by simp[ae,World.setCell]
 clear hblk' h7 h8 m7 l7 HC H6 E5;go_wp2_with fail;go_ret;refine⟨_,[b4,w4.heap.size+1,b7],rfl,?_,HM8.o.alloc _⟩;show aR w.heap.size _ (.slice (some ⟨w7.heap.size,0,none⟩) 3 3) _ _
 rw[<-HZ8.o];refine aR.fresh [b4,w4.heap.size+1,b7] Ig rfl ?_ ?_ ?_ _ rfl 3 rfl (by decide) HM8.o.size
 ·have:=yL.o;have:=HL7.o;simp;omega
 ·have:=BH.o;have:=yL.o;have:=HL7.o;simp;omega
 ·intro i h h';have hi:i=0\/i=1\/i=2:=by simp at h;omega
  rcases hi with rfl|rfl|rfl
  ·exact H84.o
  ·exact H8C.o
  ·exact H8.o
theorem Vx(w:tW)(n:Nat)(h0:0<n)(hn:n<=1000):Calls prog 80 #[.slice none 0 0,.int .i64 n] w λe w'=>∃cap,e=.returned (.slice (some ⟨w.heap.size,0,none⟩) 0 cap)/\Sl w' 114 1 (.slice (some ⟨w.heap.size,0,none⟩) 0 cap) 0 []/\aa af w w':=by
 obtain⟨iP,hiP,qH,hsP,vZ⟩:=info_parts uT;have hold:(Builtin.firstCells iP.size 0 (.slice none 0 0)).run prog w.drew=.ok ([]:List Value).toArray w.drew:=run_firstCells_none w.drew iP.size 0 0 0
 have hrz:∀ty,(Builtin.append_ #[72,3] ty #[.slice none 0 0,.int .i64 n]).run prog w =
   .ok (.slice (some ⟨w.heap.size,0,none⟩) n (grownCap w n 0 114)) (w.drew.alloc (.cells (([]:List Value).toArray++Builtin.zeroCells (Value.pointer none).cells n++Builtin.zeroCells (Value.pointer none).cells (grownCap w n 0 114-n)) 114)):=λty=>by
  have h:=Lib.run_append_grow_zeros w 72 3 ty 114 iP (.pointer none) .i64 .i64 underlying72 underlying3 hiP qH none 0 0 [] hold n h0 (by rw[hsP];decide) (by omega) (by omega) (by rw[vZ];omega)
   (by rw[vZ,cd];exact growslice_fits (by omega) (by omega))
  rw[cd]at h;exact h
 have hGn:n<=grownCap w n 0 114:=grownCap_ge w _ _ _;have hGm:grownCap w n 0 114<=maxLen:=grownCap_le_maxLen w n 0 114 (by unfold maxLen;omega);have hsz:(([]:List Value).toArray++Builtin.zeroCells (Value.pointer none).cells n++Builtin.zeroCells (Value.pointer none).cells (grownCap w n 0 114-n)).size=grownCap w n 0 114:=by simp[Builtin.zeroCells,Value.cells];omega
 generalize([]:List Value).toArray++Builtin.zeroCells (Value.pointer none).cells n++Builtin.zeroCells (Value.pointer none).cells (grownCap w n 0 114-n)=cs at *;generalize grownCap w n 0 114=G at *;have hS:Sl (w.drew.alloc (.cells cs 114)) 114 1 (.slice (some ⟨w.heap.size,0,none⟩) 0 G) 0 []:=SlB.sl ⟨ao _,hGm,by omega,by simp,rfl⟩ (aq.new w.drew cs 114);have HS:ae _:=hS;unfold maxLen at hGm;clear hold hS;go_enter func80,ntmps80;go_wp2_with (at_builtin;refine Lib.wpList_append_run _ rfl _ _ _ _ rfl _ _ rfl rfl _ _ (hrz _) ?_)
 all_goals
  go_ret;exact⟨G,rfl,HS.o,(aa.refl _ _).drew.alloc _⟩
structure Seg where
 g:Nat
 c:Nat
 bs:List Nat
 os:List eQ
def Seg.val(s:Seg):Value:=.slice (some ⟨s.g,0,none⟩) s.bs.length s.c
theorem aR.keep{base:Nat}{w w':tW}{v u:Value}{bs:List Nat}{os:List eQ}{n:Nat}{xs:List Value}(h:aR base w v bs os)(hu:Sl w 114 1 u n xs)(m:aa (λk=>u.ownBlock=some k) w w')(hne:∀k,v.ownBlock=some k->u.ownBlock≠some k):aR base w' v bs os:=by have hk:=aa.MG hu m;refine⟨h.len,h.nd,h.sl.ah m (λk hk' e=>hne k hk' e),λi h1 h2=>?_,h.lo,h.own⟩;have ha:=h.at' i h1 h2;exact ha.kpb hk (m.block _ ha.lt (λe=>ha.MK hu e))
structure RJ(w0:tW)(aW:List Seg)(k:Nat)(v:Value)(w:tW):Prop where
 acc:aR 0 w v ((aW.take k).flatMap Seg.bs) ((aW.take k).flatMap Seg.os)
 each:∀s∈aW,aR 0 w s.val s.bs s.os
 own:∀s∈aW,v.ownBlock≠some s.g
 new:∀j,v.ownBlock=some j->w0.heap.size<=j
 md:aa af w0 w
theorem MU(aW:List Seg)(k:Nat)(hs:∀s∈aW,s.bs.length<=100):((aW.take k).flatMap Seg.bs).length<=100*aW.length:=by
 have h:∀l:List Seg,(∀s∈l,s.bs.length<=100)->(l.flatMap Seg.bs).length<=100*l.length:=by
  intro l;induction l with
  |nil=>intro _;simp
  |cons x l ih =>intro hl;have h1:=hl x (by simp);have h2:=ih (λs hs=>hl s (List.mem_cons_of_mem _ hs));rw[bt,ca,List.length_cons];omega
 have h1:=h (aW.take k) (λs hs'=>hs s (List.mem_of_mem_take hs'));have h2:(aW.take k).length<=aW.length:=by simp;omega
 omega
theorem Ja(aW:List Seg)(k:Nat)(h:k<aW.length):((aW.take (k+1)).flatMap Seg.bs).length=((aW.take k).flatMap Seg.bs).length+aW[k].bs.length:=by rw[an h,ba,ca];simp
theorem Z5(aW:List Seg)(h0:0<aW.length)(h:∀s∈aW,0<s.bs.length):0<(aW.flatMap Seg.bs).length:=by
 match aW,h0,h with
 |s::l,_,h =>have:=h s List.mem_cons_self;rw[bt,ca];omega
theorem RJ.step{w0 w w':tW}{aW:List Seg}{k:Nat}{v v':Value}(h:RJ w0 aW k v w)(hk:k<aW.length)(hnd:(aW.flatMap Seg.bs).Nodup)(hsl:Sl w' 114 1 v' (((aW.take k).flatMap Seg.bs).length+aW[k].bs.length) (((aW.take k).flatMap Seg.bs).map jE++aW[k].bs.map jE)) (m:aa (λj=>v.ownBlock=some j) w w') (ho:∀j,v'.ownBlock=some j->v.ownBlock=some j\/w.heap.size<=j):RJ w0 aW (k+1) v' w':=by
 have e1:(aW.take (k+1)).flatMap Seg.bs=(aW.take k).flatMap Seg.bs++aW[k].bs:=by rw[an hk,ba];simp
 have e2:(aW.take (k+1)).flatMap Seg.os=(aW.take k).flatMap Seg.os++aW[k].os:=by rw[an hk,ba];simp
 have hs:=h.each aW[k] (b9 hk);refine⟨?_,λs hs'=>?_,λs hs' e=>?_,λj hj=>?_,h.md.step m (λi hi e=>by have:=h.new i e;omega)⟩
 ·rw[e1,e2];refine h.acc.app hs.len ?_ hs.at' hs.lo hsl m ho (ao _);rw[<-e1];have e3:aW.flatMap Seg.bs=(aW.take (k+1)).flatMap Seg.bs++(aW.drop (k+1)).flatMap Seg.bs:=by rw[<-ba,List.take_append_drop]
  rw[e3]at hnd;exact(List.nodup_append.1 hnd).1
 ·exact(h.each s hs').keep h.acc.sl m (λj hj e=>h.own s hs' (by rw[e];cases hj;rfl))
 ·rcases ho _ e with e'|e'
  ·exact h.own s hs' e'
  ·have:=(h.each s hs').sl.lt s.g rfl;omega
 ·rcases ho j hj with e|e
  ·exact h.new j e
  ·have:=h.md.size;omega
theorem MV(w:tW)(g c:Nat)(aW:List Seg)(hS:Sl w 72 1 (.slice (some ⟨g,0,none⟩) aW.length c) aW.length (aW.map Seg.val))(he:∀s∈aW,aR 0 w s.val s.bs s.os)(hb:∀s∈aW,0<s.bs.length/\s.bs.length<=100)(hl:aW.length<=10)(h0:0<aW.length)(hnd:(aW.flatMap Seg.bs).Nodup):Calls prog 47 #[.slice (some ⟨g,0,none⟩) aW.length c] w λe w'=>∃v,e=.returned v/\aR 0 w' v (aW.flatMap Seg.bs) (aW.flatMap Seg.os)/\aa af w w':=by
 obtain⟨iP,hiP,qH,hsP,vZ⟩:=info_parts uT;have hcell:∀(k:Nat) (hk:k<aW.length),w.cell? ⟨g,k,none⟩=some (.slice (some ⟨aW[k].g,0,none⟩) aW[k].bs.length aW[k].c):=by intro k hk;obtain⟨g',hg',cs⟩:=hS.at rfl k hk;cases hg';rw[cs k hk];simp[hk,Seg.val]
 have ahc:g<w.heap.size:=hS.lt g rfl
 have aew:∀s∈aW,g≠s.g:=by
  intro s hs e;have h1:=(he s hs).sl;rcases h1.2 with⟨h1,_⟩ |⟨g1,_,_,hv,_,hb1,_⟩
  ·cases h1
  ·cases hv;rcases hS.2 with⟨h2,_⟩ |⟨g2,_,_,hv2,_,hb2,_⟩
   ·cases h2
   ·cases hv2;rw[e]at hb2;rw[hb1]at hb2;cases hb2
 have HC:=ak hcell;have HE:=ak he;have HB:=ak hb;have HND:ae _:=hnd;obtain⟨F,HF⟩:∃F:Nat->Nat,ae (∀k,F k=((aW.take k).flatMap Seg.bs).length):=⟨λk=>((aW.take k).flatMap Seg.bs).length,λ_=>rfl⟩
 obtain⟨X,HX⟩:∃X:Nat->List Value,ae (∀k,X k=((aW.take k).flatMap Seg.bs).map jE):=⟨λk=>((aW.take k).flatMap Seg.bs).map jE,λ_=>rfl⟩
 have Vy:ae (∀k,F k<=1000):=λk=>by have:=MU aW k (λs hs=>(HB.o s hs).2);rw[HF.o k];omega
 have HST:ae (∀k (hk:k<aW.length),F (k+1)=F k+aW[k].bs.length):=λk hk=>by rw[HF.o,HF.o];exact Ja aW k hk
 have HF0:ae (F 0=0):=by rw[ae,HF.o];rfl
 have HP:ae (0<F aW.length):=by rw[ae,HF.o,ch];exact Z5 aW h0 (λs hs=>(HB.o s hs).1)
 clear hcell he hb hnd hS aew;go_enter func47,ntmps47;go_upto_block 0 with fail;go_cut [3] (λsv wl=>sv=.int .i64 (F aW.length)/\wl=w)
 case first =>
  go_wp2_with fail;go_loop [3,11] (λsv i=>∃k:Nat,k<=aW.length/\i=.int .i64 k/\sv=.int .i64 (F k)) (λ_ i=>aW.length-(intOf i).toNat)
  case atStart=>exact⟨0,ao _,rfl,by rw[HF0.o];rfl⟩
  case round =>
   obtain⟨k,hk,rfl,rfl⟩:=hrel;by_cases hlt:k<aW.length
   ·have ck:=HC.o k hlt;have e1:=HST.o k hlt;have e2:=Vy.o k;have e3:=Vy.o (k+1);have HK:=ak e1;rw[e1]at e3;clear e1;generalize aW[k].bs.length=sn at *;generalize aW[k].g=sg at *;generalize aW[k].c=sc at *;go_wp2_with fail;go_round
    case rel=>exact⟨k+1,by omega,by go_num,by rw[HK.o];go_num⟩
    case measure=>simp[intOf];omega
   ·obtain rfl:k=aW.length:=by omega
    go_wp2_with fail;go_meet;exact⟨rfl,rfl⟩
 case rest =>
 obtain⟨rfl,hw⟩:=hcut;have hw':=hw.symm;clear hw;subst hw';have hp:=HP.o;have hm:=Vy.o aW.length;go_wp2_with fail;refine(Vx _ _ hp hm).mono ?_;rintro e w1 ⟨cap,rfl,s1,m1⟩;have HR:ae (RJ w aW 0 (.slice (some ⟨w.heap.size,0,none⟩) 0 cap) w1):=⟨⟨rfl,List.nodup_nil,s1,λi h=>absurd h (by simp),λb h=>(by cases h),λ_ _=>ao _⟩,λs hs=>(HE.o s hs).ah m1,λs hs e=>by have h1:=(HE.o s hs).sl.lt s.g rfl;have h2:w.heap.size=s.g:=Option.some.inj e;omega,λj hj=>by cases hj;exact Nat.le_refl _,m1⟩
 clear s1 m1;generalize F aW.length=FL at *;go_wp2_with fail;go_loopw [6,27] (λv i wl=>∃k:Nat,k<=aW.length/\i=.int .i64 k/\RJ w aW k v wl) (λ_ i _=>aW.length-(intOf i).toNat)
 case atStart=>exact⟨0,ao _,rfl,HR.o⟩
 case round =>
  obtain⟨k,hk,rfl,hr⟩:=hrel;clear HR;have HR:=ak hr;by_cases hlt:k<aW.length
  ·have hlt':k<aW.length:=hlt;have ck:=qK hr.md (HC.o k hlt);have HSg:ae (aR 0 wr aW[k].val aW[k].bs aW[k].os):=hr.each aW[k] (b9 hlt');have hbk:=HB.o aW[k] (b9 hlt')
   have HNw:ae (∀j u,(aW[k].bs.map jE)[j]?=some u->wr.cell? ((⟨aW[k].g,0,none⟩:Addr).add j)=some u):=λj u hu=>by
    obtain⟨g',hg',cs⟩:=HSg.o.sl.at rfl 0 hbk.1;cases hg';have hadd:(⟨aW[k].g,0,none⟩:Addr).add j=⟨aW[k].g,j,none⟩:=by unfold Addr.add;split<;>simp_all
    have hj:j<aW[k].bs.length:=by
     have:=(List.getElem?_eq_some_iff.1 hu).1
     simpa using this
    rw[hadd,cs j hj];exact hu
   have e2:=Vy.o k;have e3:=Vy.o (k+1);rw[HST.o k hlt']at e3;have HSl:ae (Sl wr 114 1 u6 (F k) (X k)):=by have:=hr.acc.sl;rw[ae,HF.o,HX.o];exact this
   have ac1:ae (∀v' w',Sl w' 114 1 v' (F k+aW[k].bs.length) (X k++aW[k].bs.map jE)->aa (λj=>u6.ownBlock=some j) wr w'->(∀j,v'.ownBlock=some j->u6.ownBlock=some j\/wr.heap.size<=j)->RJ w aW (k+1) v' w'):=λv' w' s m l=>by rw[HF.o,HX.o]at s;exact HR.o.step hlt' HND.o s m l
   have JT:ae ((aW[k].bs.map jE).length=aW[k].bs.length*1):=by simp[ae]
   have um:ae (∀u∈aW[k].bs.map jE,u.oneCell'=true):=uU _;clear hr HSg;generalize aW[k].bs.map jE=nws at *;generalize aW[k].bs.length=sn at *;generalize aW[k].g=sg at *;generalize aW[k].c=sc at *;generalize X k=xk at *;generalize F k=fk at *;go_wp2_with (at_builtin;refine aJ _ rfl (.tmp 31) (.tmp 32) 72 rfl 114 iP (.pointer none) 1 8 underlying72 hiP qH hsP vZ rfl (by decide) u6 fk xk rfl HSl.o ⟨sg,0,none⟩ sn sc nws rfl JT.o HNw.o um.o (by unfold maxLen;omega) (by omega) ?_;intro vA wA sA mA lA;obtain⟨oA,cA,rfl,_⟩:=Sl.view sA);go_roundw
   case rel=>exact⟨k+1,by omega,by go_num,ac1.o _ _ sA mA lA⟩
   case measure=>simp[intOf];omega
  ·obtain rfl:k=aW.length:=by omega
   have hA:=HR.o.acc;rw[ch]at hA;have HA:ae _:=hA;clear hA hr;go_wp2_with fail;go_ret;exact⟨_,rfl,HA.o,HR.o.md⟩
theorem aR.base{base b2:Nat}{w:tW}{v:Value}{bs:List Nat}{os:List eQ}(h:aR base w v bs os)(hb:b2<=base):aR b2 w v bs os :=
 ⟨h.len,h.nd,h.sl,h.at',λb hb'=>Nat.le_trans hb (h.lo b hb'),λk hk=>Nat.le_trans hb (h.own k hk)⟩
theorem aR.seg{base:Nat}{w:tW}{v:Value}{bs:List Nat}{os:List eQ}(h:aR base w v bs os)(h0:0<os.length):∃g c,v=.slice (some ⟨g,0,none⟩) bs.length c:=by obtain⟨o,c,rfl,hh⟩:=h.sl.view;obtain⟨g,cs,rfl,_⟩:=hh (by rw[h.len];exact h0);exact⟨g,c,rfl⟩
theorem RL(w:tW)(hE:E4 w):Calls prog 25 #[] w λe w'=>∃v bs,e=.returned v/\aR 0 w' v bs ax/\aa af w w':=by
 have HE:=ak hE;clear hE;go_enter func25,ntmps25;go_wp2_with fail;refine(Ik _).mono ?_;rintro e w1 ⟨v1,bs1,rfl,o1,m1⟩;obtain⟨g1,c1,rfl⟩:=o1.seg (by decide);have O1:ae _:=o1;have M1:ae _:=m1;clear o1 m1;go_wp2_with fail;refine(KD _).mono ?_;rintro e w2 ⟨v2,bs2,rfl,o2,m2⟩;obtain⟨g2,c2,rfl⟩:=o2.seg (by decide);have O2:ae _:=o2;have M2:ae _:=m2;clear o2 m2;go_wp2_with fail;refine(MS _ (HE.o.ah (M1.o.trans M2.o))).mono ?_;rintro e w3 ⟨v3,bs3,rfl,o3,m3⟩;obtain⟨g3,c3,rfl⟩:=o3.seg (by decide);have O3:ae _:=o3;have M3:ae _:=m3;clear o3 m3;go_wp2_with fail;refine(I9 _).mono ?_;rintro e w4 ⟨v4,bs4,rfl,o4,m4⟩;obtain⟨g4,c4,rfl⟩:=o4.seg (by decide);have O4:ae _:=o4;have M4:ae _:=m4;clear o4 m4;have l1:bs1.length=50:=O1.o.len.trans (by decide);have l2:bs2.length=23:=O2.o.len.trans (by decide);have l3:bs3.length=12:=O3.o.len.trans (by decide);have l4:bs4.length=3:=O4.o.len.trans (by decide)
 have HK:ae (∃aW:List Seg,aW=[⟨g1,c1,bs1,Mu⟩,⟨g2,c2,bs2,Qb⟩,⟨g3,c3,bs3,abF⟩,⟨g4,c4,bs4,Ig⟩]/\(∀s∈aW,aR 0 w4 s.val s.bs s.os)/\(∀s∈aW,0<s.bs.length/\s.bs.length<=100)/\(aW.flatMap Seg.bs).Nodup):=by
  refine⟨_,rfl,?_,?_,?_⟩
  ·simp only[bh,ar,or_false];rintro s (rfl|rfl|rfl|rfl)
   ·exact(((O1.o.ah M2.o).ah M3.o).ah M4.o).base (ao _)
   ·exact((O2.o.ah M3.o).ah M4.o).base (ao _)
   ·exact(O3.o.ah M4.o).base (ao _)
   ·exact O4.o.base (ao _)
  ·simp only[bh,ar,or_false];rintro s (rfl|rfl|rfl|rfl)<;>simp only<;>omega
  ·have a1:=O1.o.lt;have a2:=O2.o.lt;have a3:=O3.o.lt;have b2:=O2.o.lo;have b3:=O3.o.lo;have b4:=O4.o.lo;have s2:=M2.o.size;have s3:=M3.o.size;simp only[bt,cj,List.append_nil];rw[cb,cb,cb];refine⟨O1.o.nd,⟨O2.o.nd,⟨O3.o.nd,O4.o.nd,λa ha b hb e=>?_⟩,λa ha b hb e=>?_⟩,λa ha b hb e=>?_⟩
   ·have:=a3 a ha;have:=b4 b hb;omega
   ·rcases List.mem_append.1 hb with hb|hb
    ·have:=a2 a ha;have:=b3 b hb;omega
    ·have:=a2 a ha;have:=b4 b hb;omega
   ·rcases List.mem_append.1 hb with hb|hb
    ·have:=a1 a ha;have:=b2 b hb;omega
    ·rcases List.mem_append.1 hb with hb|hb
     ·have:=a1 a ha;have:=b3 b hb;omega
     ·have:=a1 a ha;have:=b4 b hb;omega
 have HM:ae (aa af w w4):=((M1.o.trans M2.o).trans M3.o).trans M4.o;rw[l1,l2,l3,l4]
 have HS:ae (Sl (w4.alloc (.cells #[.slice (some ⟨g1,0,none⟩) 50 c1,.slice (some ⟨g2,0,none⟩) 23 c2,.slice (some ⟨g3,0,none⟩) 12 c3,.slice (some ⟨g4,0,none⟩) 3 c4] 72)) 72 1 (.slice (some ⟨w4.heap.size,0,none⟩) 4 4) 4 [.slice (some ⟨g1,0,none⟩) 50 c1,.slice (some ⟨g2,0,none⟩) 23 c2,.slice (some ⟨g3,0,none⟩) 12 c3,.slice (some ⟨g4,0,none⟩) 3 c4]) :=
  SlB.sl ⟨Nat.le_refl _,by unfold maxLen;decide,rfl,rfl,rfl⟩ (aq.new w4 _ 72)
 clear O1 O2 O3 O4 M1 M2 M3 M4 HE;go_wp2_with fail;obtain⟨aW,he,h1,h2,h3⟩:=HK.o;have hS:Sl (w4.alloc (.cells #[.slice (some ⟨g1,0,none⟩) 50 c1,.slice (some ⟨g2,0,none⟩) 23 c2,.slice (some ⟨g3,0,none⟩) 12 c3,.slice (some ⟨g4,0,none⟩) 3 c4] 72)) 72 1 (.slice (some ⟨w4.heap.size,0,none⟩) aW.length 4) aW.length (aW.map Seg.val):=by rw[he];simp only[List.map_cons,List.map_nil,Seg.val,l1,l2,l3,l4];exact HS.o
 have hC:=MV _ _ _ aW hS (λs hs=>(h1 s hs).ah ((aa.refl _ _).alloc _)) h2 (by rw[he];simp) (by rw[he];simp) h3;have e4:aW.length=4:=by rw[he];rfl
 rw[e4]at hC;refine hC.mono ?_;rintro e w5 ⟨v5,rfl,o5,m5⟩
 have O5:ae (aR 0 w5 v5 (aW.flatMap Seg.bs) ax):=by
  have e5:aW.flatMap Seg.os=ax:=by rw[he];simp only[bt,cj,List.append_nil,ax,List.append_assoc]
  rw[ae,<-e5];exact o5
 have M5:ae (aa af w w5):=(HM.o.alloc _).trans m5;clear o5 m5 hC hS;go_wp2_with fail;go_ret;exact⟨_,_,rfl,O5.o,M5.o⟩
theorem contains_eq(ws:List tLB)(x:tLB):Lib.containsS (ws.map T) (T x)=ws.contains x:=by
 rw[Bool.eq_iff_iff,Lib.containsS_iff,List.contains_iff_mem,List.mem_map];constructor
 ·rintro⟨a,ha,e⟩;rw[<-qo e];exact ha
 ·intro h;exact⟨x,h,rfl⟩
theorem xA(ws:List tLB)(x:tLB)(v:Value)(w:tW)(h:Sl w 9 1 v ws.length (ws.map (λt=>.string (T t))))(hn:0<ws.length)(hl:ws.length<=1000):Calls prog 135 #[v,.string (T x)] w λe w'=>e=.returned (.bool (ws.contains x))/\w'=w:=by
 obtain⟨o,c,rfl,h2⟩:=h.view;obtain⟨g,cs,rfl,hb,ht,_,_⟩:=h2 hn
 have:=Any.slices_Contains_string lk g 0 ws.length c (ws.map T) (T x) w (by simp) (by omega) (λj hj=>by
  have hj':j<ws.length:=by simpa using hj
  rw[cd,bA hb ht j (by omega)];simp[hj'])
 rw[List.take_of_length_le (by simp),contains_eq]at this;exact this
theorem Gu(o:eQ):0<o.words.length/\o.words.length<=2:=by unfold eQ.words;split<;>simp
theorem dM.abL{w:tW}{b:Nat}{o:eQ}(h:dM w b o)(x:tLB):∃v1:Value,(∃a n c,v1=.slice a n c)/\(∀w',aa af w w'->w'.cell? ⟨b,1,none⟩=some v1)/\∀w',aa af w w'->Calls prog 135 #[v1,.string (T x)] w' λe w''=>e=.returned (.bool (o.words.contains x))/\w''=w':=by obtain⟨o1,n1,c1,f6,c6,k7,c7,k8,c8,f9,c9,hblk,RM⟩:=h.ex;have hw:=Gu o;exact⟨_,⟨_,_,_,rfl⟩,λw' m=>(hblk.ah m id).cell 1,λw' m=>xA _ x _ w' (RM.ws.ah m (λ_ _=>id)) hw.1 (by omega)⟩
theorem KF{w:tW}{v:Value}{bs:List Nat}{os:List eQ}(h:aR 0 w v bs os):∃o c,v=.slice o os.length c/\∀k (hk:k<os.length),∃g,o=some ⟨g,0,none⟩/\∀w',aa af w w'->w'.cell? ⟨g,k,none⟩=some (.pointer (some ⟨bs[k]?.getD 0,0,none⟩)):=by
 obtain⟨o,c,hv,h2⟩:=h.sl.view;rw[h.len]at hv;refine⟨o,c,hv,λk hk=>?_⟩;have hkb:k<bs.length:=by rw[h.len];exact hk
 obtain⟨g,cs,ho,hb,ht,_,_⟩:=h2 (by omega);refine⟨g,ho,λw' m=>?_⟩;rw[bA (hb.ah m id) ht k (by omega),List.getElem?_map,List.getElem?_eq_getElem hkb];rfl
theorem Vz{w:tW}{v:Value}{bs:List Nat}{os:List eQ}(h:aR 0 w v bs os)(k:Nat)(hk:k<os.length):dM w (bs[k]?.getD 0) os[k]:=by
 have hkb:k<bs.length:=by rw[h.len];exact hk
 have:=h.at' k hkb hk;rw[List.getElem?_eq_getElem hkb];exact this
theorem MX(wT w:tW)(v:Value)(bs:List Nat)(x:tLB)(hO:aR 0 wT v bs ax)(m:aa af wT w):Calls prog 133 #[v,.string (T x)] w λe w'=>e=.returned (.bool (gj x))/\w'=w:=by
 have hO1:=hO.ah m;obtain⟨o,c,rfl,hcell⟩:=KF hO1;have HAT:ae (∀k (hk:k<ax.length),dM w (bs[k]?.getD 0) ax[k]):=λk hk=>Vz hO1 k hk;have HB:ae (∀k,(∀j (hj:j<k) (h:j<ax.length),ax[j].words.contains x=false)->ax.length<=k->gj x=false):=λk h1 h2=>by unfold gj;rw[List.any_eq_false];intro y hy;obtain⟨j,hj,rfl⟩:=cc hy;rw[h1 j (by omega) hj];simp
 have HB1:ae (∀k (h:k<ax.length),ax[k].words.contains x=true->gj x=true):=λk h h1=>by unfold gj;rw[List.any_eq_true];exact⟨_,b9 h,h1⟩
 have ac2:ax.length<=1000:=by rw[rO];omega
 have HC:=ak hcell;clear hO hO1 m hcell;generalize gj x=bx at *;generalize ax=os at *;go_enter func133,ntmps133;go_wp2_with fail;go_loop [9] (λv=>∃k:Nat,k<=os.length/\v=.int .i64 k/\∀j (hj:j<k) (h:j<os.length),os[j].words.contains x=false) (λv=>os.length-(intOf v).toNat)
 case atStart=>exact⟨0,ao _,rfl,λj hj=>absurd hj (Nat.not_lt_zero _)⟩
 case round =>
  obtain⟨k,hk,rfl,hj⟩:=hrel;have HJ:=ak hj;clear hj;by_cases hlt:k<os.length
  ·obtain⟨g,rfl,hg⟩:=HC.o k hlt;have q0:=hg w (aa.refl _ _);obtain⟨v1,⟨va,vn,vc,rfl⟩,hv1,hct⟩:=(HAT.o k hlt).abL x;have q1:=hv1 w (aa.refl _ _);have Yf:ae (Calls prog 135 #[.slice va vn vc,.string (T x)] w λe w''=>e=.returned (.bool (os[k].words.contains x))/\w''=w):=hct w (aa.refl _ _);clear hg hv1 hct HC;cases hc:os[k].words.contains x with
   |true =>have HX:=ak (HB1.o k hlt hc);go_wp2_with fail;refine Yf.o.mono ?_;rintro e w1 ⟨rfl,rfl⟩;rw[hc];go_wp2_with fail;go_ret;rw[HX.o];exact⟨rfl,rfl⟩
   |false =>
    have KG:ae (∀j (hj:j<k+1) (h:j<os.length),os[j].words.contains x=false):=λj hj h=>by
     rcases Nat.lt_or_ge j k with e|e
     ·exact HJ.o j e h
     ·have:j=k:=by omega
      subst this;exact hc
    go_wp2_with fail;refine Yf.o.mono ?_;rintro e w1 ⟨rfl,rfl⟩;rw[hc];go_wp2_with fail;go_round
    case rel=>exact⟨k+1,by omega,by go_num,KG.o⟩
    case measure=>simp[intOf];omega
  ·have HX:=ak (HB.o k HJ.o (by omega));go_wp2_with fail;go_ret;rw[HX.o];exact⟨rfl,rfl⟩
theorem lg{P:Program}{fn:Func}{p u1 u2:Tmp}{ty:TypeId}(h:fn.results=#[.cell p ty,.tmp u1,.tmp u2])(tmps:tAV)(w:tW)(g:Nat)(t:TypeId)(cs:tAV)(fr:Nat×Nat)(d:TypeDesc)(v1 v2:Value)(hp:tmps.getD p undef=.pointer (some ⟨g,0,none⟩)) (hv1:tmps.getD u1 undef=v1) (hv2:tmps.getD u2 undef=v2) (hg:w.heap[g]?=some (.cells cs t fr))(hu:P.underlying ty=some d) (hd:(match d with|.struct _|.array _ _=>true|_=>false)=true) (hi:(P.info? ty).map (·.size)=some cs.size):(results fn tmps).run P w=.ok (.tuple #[.agg cs,v1,v2]) w:=by
 have hp':tmps[p]?.getD undef=.pointer (some ⟨g,0,none⟩):=by simpa using hp
 have h1':tmps[u1]?.getD undef=v1:=by simpa using hv1
 have h2':tmps[u2]?.getD undef=v2:=by simpa using hv2
 simp only[results,h];simp[hp',h1',h2',asAddr,run_loadVar_row w g t ty cs fr d hg hu hd hi]
structure bE.sV(r:bE):Prop where
 d:r.d<=15
 s:r.s<=15
 j0:-32768<=r.jump
 j1:r.jump<=32767
 n0:-2147483648<=r.num
 n1:r.num<=2147483647
 h0:-2147483648<=r.high
 h1:r.high<=2147483647
 l:r.label.length<=100
 m:r.name.length<=300
theorem xU{l:tLB}(h:ahI l=true):l.length<=16:=by unfold ahI at h;simp only[Bool.and_eq_true,decide_eq_true_eq]at h;exact h.1.1
theorem KH{w:tLB}{n:Nat}(h:bC w=some n):n<=10:=by unfold bC at h;have h2:=List.mem_of_find?_eq_some h;simp at h2;omega
theorem Gv(v:Nat):-2147483648<=kR v/\kR v<=2147483647:=by unfold kR;omega
theorem VA(p:PK)(r r':bE)(h:p.read r=some r')(hf:r.sV):r'.sV:=by
 obtain⟨fd,fs,VB,VC,fn0,Yg,Us,Ut,fl,fm⟩:=hf
 have hm:∀c:UInt8,r.mark c=some r'->r'.sV:=λc h=>by
  unfold bE.mark at h;split at h
  ·cases h;exact⟨fd,fs,VB,VC,fn0,Yg,Us,Ut,fl,fm⟩
  ·cases h
 have hd:r.pQ=some r'->r'.sV:=λh=>by unfold bE.pQ at h;obtain⟨v,hv,rfl⟩:=Option.map_eq_some_iff.1 h;exact⟨by have:=KH hv;show v<=15;omega,fs,VB,VC,fn0,Yg,Us,Ut,fl,fm⟩
 have hs:r.wS=some r'->r'.sV:=λh=>by unfold bE.wS at h;obtain⟨v,hv,rfl⟩:=Option.map_eq_some_iff.1 h;exact⟨fd,by have:=KH hv;show v<=15;omega,VB,VC,fn0,Yg,Us,Ut,fl,fm⟩
 have hn:r.number=some r'->r'.sV:=λh=>by unfold bE.number at h;obtain⟨v,hv,rfl⟩:=Option.map_eq_some_iff.1 h;have:=oh v.1 2147483648 (by omega);exact⟨fd,fs,VB,VC,this.1,by have:=this.2;show(v.1.aO 2147483648).getD 0<=2147483647;omega,Us,Ut,fl,fm⟩
 have hl:r.lab=some r'->r'.sV:=λh=>by
  unfold bE.lab at h;split at h
  ·rename_i hb
   cases h;exact⟨fd,fs,VB,VC,fn0,Yg,Us,Ut,by have:=xU hb;show(aC r.rest).1.length<=100;omega,fm⟩
  ·cases h
 have ho:r.off=some r'->r'.sV:=λh=>by
  unfold bE.off at h;split at h
  ·obtain⟨v,hv,rfl⟩:=Option.map_eq_some_iff.1 h;have:=oh ⟨v,true⟩ 32768 (by omega);exact⟨fd,fs,this.1,by have:=this.2;show((aA.mk v true).aO 32768).getD 0<=32767;omega,fn0,Yg,Us,Ut,fl,fm⟩
  ·split at h
   ·obtain⟨v,hv,rfl⟩:=Option.map_eq_some_iff.1 h;have:=oh ⟨v,false⟩ 32768 (by omega);exact⟨fd,fs,this.1,by have:=this.2;show((aA.mk v false).aO 32768).getD 0<=32767;omega,fn0,Yg,Us,Ut,fl,fm⟩
   ·cases h;exact⟨fd,fs,VB,VC,fn0,Yg,Us,Ut,fl,fm⟩
 have hwd:r.wide=some r'->r'.sV:=λh=>by
  unfold bE.wide at h;split at h
  ·split at h
   ·rename_i hb
    cases h;exact⟨fd,by show 1<=15;omega,VB,VC,fn0,Yg,Us,Ut,fl,by have:=xU hb;show(aC (aC r.rest).2).1.length<=300;omega⟩
   ·cases h
  ·obtain⟨v,hv,rfl⟩:=Option.map_eq_some_iff.1 h;have h1:=Gv (v.1.bT.getD 0);have h2:=Gv (v.1.bT.getD 0/4294967296);exact⟨fd,fs,VB,VC,h1.1,h1.2,h2.1,h2.2,fl,fm⟩
 unfold PK.read at h;split at h
 ·exact hm _ h
 ·exact hm _ h
 ·exact hm _ h
 ·exact hd h
 ·exact hd h
 ·exact hs h
 ·exact hn h
 ·exact hl h
 ·exact ho h
 ·exact hwd h
 ·cases h
theorem Dt:∀(ps:List PK) (r r':bE),ahQ ps r=some r'->r.sV->r'.sV
 |[],r,r',h,hf=>by cases h;exact hf
 |p::ps,r,r',h,hf=>by obtain⟨r1,h1,h2⟩:=Option.bind_eq_some_iff.1 (show(p.read r).bind (ahQ ps)=some r' from h);exact Dt ps r1 r' h2 (VA p r r1 h1 hf)
theorem VD(r r':bE)(h:r.call=some r')(hf:r.sV):r'.sV:=by
 obtain⟨fd,fs,VB,VC,fn0,Yg,Us,Ut,fl,fm⟩:=hf;unfold bE.call at h;split at h
 ·split at h
  ·rename_i hb
   cases h;exact⟨fd,by show 1<=15;omega,VB,VC,fn0,Yg,Us,Ut,fl,by have:=xU hb;show(aC r.rest).1.length<=300;omega⟩
  ·cases h
 ·obtain⟨v,hv,rfl⟩:=Option.map_eq_some_iff.1 h;rw[List.findIdx?_eq_some_iff_getElem]at hv;obtain⟨hv,_⟩:=hv;have hv':v<4:=hv;exact⟨fd,fs,VB,VC,by show -2147483648<=((1+v:Nat):Int);omega,by show((1+v:Nat):Int)<=2147483647;omega,Us,Ut,fl,fm⟩
theorem RN(o:eQ)(r r':bE)(h:o.read r=some r')(hf:r.sV):r'.sV:=by
 unfold eQ.read at h;split at h
 ·exact VD r r' h hf
 ·exact Dt _ r r' h hf
def Cr(x l:tLB):bE:=⟨x,l,0,0,0,0,0,[],[],false⟩
theorem VE(x l:tLB):(Cr x l).sV:=by constructor<;>simp[Cr]
def bH.cells(bs:List Nat)(x:bH):tAV:=#[.pointer (some ⟨bs[x.k]?.getD 0,0,none⟩),.int .u8 x.r.d,.int .u8 x.r.s,.int .i16 x.r.jump,.int .i32 x.r.num,.int .i32 x.r.high,.string (T x.r.label),.string (T x.r.name)]
def zz:tAV:=#[.pointer none,.int .u8 0,.int .u8 0,.int .i16 0,.int .i32 0,.int .i32 0,.string ⟨#[]⟩,.string ⟨#[]⟩]
def uV(w:tW)(bs:List Nat)(o:Option bH)(e:Ending)(w':tW):Prop :=
 aa af w w'/\e=.returned (match o with|none=>.tuple #[.agg zz,.bool false,.bool false]|some x=>.tuple #[.agg (x.cells bs),.bool x.fits,.bool true])
theorem RO(o:eQ)(x y:iw)(h:x.d=y.d/\x.s=y.s/\x.jump=y.jump/\x.num=y.num/\x.high=y.high):o.needs x=o.needs y:=by
 obtain⟨h1,h2,h3,h4,h5⟩:=h;have hr:PK.right x=PK.right y:=by funext p;unfold PK.right;rw[h1,h2,h5]
 unfold eQ.needs dA;rw[hr,h1,h2,h3,h4]
def xV(o:eQ)(x l:tLB)(k:Nat):Option bH :=
 if o.words.contains x then(match o.read (Cr x l)with|none=>none|some r=>if aw r.rest=[]then some ⟨k,{r with rest:=[]}⟩else none)else none
theorem E6(x l:tLB)(k:Nat)(hk:k<ax.length):ahR x l k (ax.drop k)=match xV ax[k] x l k with|some y=>some y|none=>ahR x l (k+1) (ax.drop (k+1)):=by
 rw[List.drop_eq_getElem_cons hk,ahR];unfold xV Cr;by_cases h1:ax[k].words.contains x=true
 ·rw[iP9 h1,iP9 h1];cases ax[k].read ⟨x,l,0,0,0,0,0,[],[],false⟩with
  |none=>rfl
  |some r =>
   dsimp only;by_cases h2:aw r.rest=[]
   ·rw[iP9 h2,iP9 h2]
   ·rw[iN9 h2,iN9 h2]
 ·rw[iN9 h1,iN9 h1]
