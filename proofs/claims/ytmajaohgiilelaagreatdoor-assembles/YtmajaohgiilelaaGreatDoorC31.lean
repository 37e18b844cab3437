import Derived.Test.YtmajaohgiilelaaGreatDoorC16
namespace Go.Proofs.YtmajaohgiilelaaGreatDoor
open Go.RowKit Tryz
open Bool renaming or_eq_false_iff->an,and_eq_true->ao
set_option linter.all false
set_option maxRecDepth 1000000
set_option maxHeartbeats 2000000
theorem WG(s:tBA)(i:Nat)(said:Bool)(ts:List aY)(hi:i<s.size):ahP s (s.size-i) i said ts = (if((s[i]'hi).toNat:Int)<32\/126<((s[i]'hi).toNat:Int)then none
   else if said||decide (((s[i]'hi).toNat:Int)=59)||decide (((s[i]'hi).toNat:Int)=32)then ahP s (s.size-(i+1)) (i+1) (said||decide (((s[i]'hi).toNat:Int)=59)) ts
   else match ji s i ((s[i]'hi).toNat:Int)with
   |none=>none
   |some (t,j)=>ahP s (s.size-j) j said (ts++[t])):=by
 obtain⟨g,hg⟩:∃g,s.size-i=g+1:=⟨s.size-i-1,by omega⟩
 rw[hg,ahP,dif_pos hi];have hg2:s.size-(i+1)=g:=by omega
 rw[hg2];split
 ·rfl
 ·split
  ·rfl
  ·cases ht:ji s i ((s[i]'hi).toNat:Int)with
   |none=>rfl
   |some x =>obtain⟨t,j⟩:=x;have:=VH s i hi t j ht;exact Dx s s.size g (s.size-j) j said _ (by omega) (by omega) (by omega)
theorem WH(s:tBA)(i:Nat)(hi:i<s.size)(h:(aS ((s[i]'hi).toNat:Int)||(decide (((s[i]'hi).toNat:Int)=45)&&eZ s (i+1)))=true):eZ s (dh s i)=true:=by
 unfold dh numSign iV;rw[dif_pos hi];simp only[Bool.or_eq_true,ao,decide_eq_true_eq]at h;rcases h with hd|hd
 ·have hne:¬((s[i]'hi).toNat:Int)=45:=by unfold aS at hd;simp only[ao,decide_eq_true_eq]at hd;omega
  rw[iN9 (by simpa using hne)];unfold eZ;rw[dif_pos hi];exact hd
 ·rw[iP9 (by simpa using hd.1)];exact hd.2
def qx(n:Nat):Code->Option Code
 |.seq (.region k x b) c=>if k=n then some c else qx n c
 |.seq a c=>match qx n a with
  |some x=>some x
  |none=>qx n c
 |.block _ c=>qx n c
 |.scope c=>qx n c
 |.loop c=>qx n c
 |.cond _ a c=>match qx n a with
  |some x=>some x
  |none=>qx n c
 |_=>none
def ab2(f:Func):Code:=((f.body.bind (qx 13)).getD .skip)
def BZ(w:tW)(s:tBA)(v4 v5 v6:Value)(wx:tW)(i0:Nat):Prop :=
 ∃(i:Nat) (said:Bool) (ts:List aY),v6=.int .i64 i/\v5=.bool said/\nR w v4 ts wx/\ahP s s.size 0 false []=ahP s (s.size-i) i said ts/\ts.length<=i/\i<=s.size/\i0<i
theorem BZ.of{w:tW}{s:tBA}{v4 v5 v6:Value}{wx:tW}{i0:Nat}(h:∃(i:Nat) (said:Bool) (ts:List aY),v6=.int .i64 i/\v5=.bool said/\nR w v4 ts wx/\ahP s s.size 0 false []=ahP s (s.size-i) i said ts/\ts.length<=i/\i<=s.size/\i0<i):BZ w s v4 v5 v6 wx i0:=h
def ahy(s:tBA)(w:tW)(i:Nat)(Q:Exit->Act->tW->Prop):Prop:=∀(e:Exit) {v2 v3 v4 v5 v6 v7 v8 v9 v10 v11 v12 UA Yt Qp Uy v17 v18 v19 v20 v21 v22 v23 v24 v25 v26 v27 v28 v29 v30 v31 v32 v33 v34 v35 v36 v37 v38 v39 v40 v41 v42 v43 v44 v45 v46 v47 v48 v49 v50 v51 v52 v53 v54 v55 v56 v57 v58 v59 v60 v61 v62 v63 v64 v65 v66 v67 v68 v69 v70 v71 v72 v73 v74 v75 v76 v77 v78 v79 v80 Yu v82 v83 v84 v85 v86 v87 Yv v89 Yw v91 Yx v93 Yy Yz YA YB YC YD Cu Fj Fl Fm Fp v105 Fq v107 Fs v109 Fu Fv Fw Fx Fy Fz FB v117 FC FD FE FH FI FJ v124 FK FM v127 FN FO v130 v131 FP FQ FR FT FU FV v138 v139 FW v141 FX v143 FY v145 v146 FZ v148 F3 F4 F5 v152 F6 v154 F7 F8 v157 F9 v159 v160:Value} {w':tW},(e=.normal\/e=.exit 1)->BZ w s v4 v5 v6 w' i->Q e ⟨#[.string s,undef,v2,v3,v4,v5,v6,v7,v8,v9,v10,v11,v12,UA,Yt,Qp,Uy,v17,v18,v19,v20,v21,v22,v23,v24,v25,v26,v27,v28,v29,v30,v31,v32,v33,v34,v35,v36,v37,v38,v39,v40,v41,v42,v43,v44,v45,v46,v47,v48,v49,v50,v51,v52,v53,v54,v55,v56,v57,v58,v59,v60,v61,v62,v63,v64,v65,v66,v67,v68,v69,v70,v71,v72,v73,v74,v75,v76,v77,v78,v79,v80,Yu,v82,v83,v84,v85,v86,v87,Yv,v89,Yw,v91,Yx,v93,Yy,Yz,YA,YB,YC,YD,Cu,Fj,Fl,Fm,Fp,v105,Fq,v107,Fs,v109,Fu,Fv,Fw,Fx,Fy,Fz,FB,v117,FC,FD,FE,FH,FI,FJ,v124,FK,FM,v127,FN,FO,v130,v131,FP,FQ,FR,FT,FU,FV,v138,v139,FW,v141,FX,v143,FY,v145,v146,FZ,v148,F3,F4,F5,v152,F6,v154,F7,F8,v157,F9,v159,v160,undef],[]⟩ w'
theorem Tk(s:tBA)(w wc:tW)(hs:s.size<=100000)(i:Nat)(hil:i<s.size)(c:Int)(hc0:0<=c)(hcb:c<=255)(hsc:((s[i]'hil).toNat:Int)=c)(ts:List aY)(htl:ts.length<=i)(hv1:decide (c<32)=false)(hv2:decide (126<c)=false)(Ll:(c==59)=false)(Oc:(c==32)=false){u2 u3 u4 u9 u10 u11 u12 u13 u14 u15 u16 u17 u18 u19 u20 u21 u22 u23 u24 u25 u26 u27 u28 u29 u30 u31 u32 u33 u34 u35 u36 u37 u38 u39 u40 u41 u42 u43 u44 u45 u46 u47 u48 u49 u50 u51 u52 u53 u54 u55 u56 u57 u58 u59 u60 u61 u62 u63 u64 u65 u66 u67 u68 u69 u70 u71 u72 u73 u74 u75 u76 u77 u78 u79 u80 u81 u82 u83 u84 u85 u86 u87 u88 u89 u90 u91 u92 u93 u94 u95 u96 u97 u98 u99 Od Oe Og Oh Oi u105 Oj Ol Om Oo Oq Ot Ou Ov Ow Ox Oy Oz OA u119 OB OC OD OE u124 OG OH u127 OI OJ OK u131 OM OO OP OQ OT OU u138 u139 OV OW OX OY OZ O0 O6 O7 O8 O9 Pb Pc u152 Pf u154 Pg Ph Pj Pm Pn Po:Value} (hT:nR w u4 ts wc) (hsm:di c=true)(hr4:ahP s s.size 0 false []=(match ji s i c with|none=>none|some (t,j)=>ahP s (s.size-j) j false (ts++[t])))(Q:Exit->Act->tW->Prop)(hret:∀(a':Act) (w':tW),a'.tmps.getD 2 undef=.slice none 0 0->a'.tmps.getD 3 undef=.bool false->a'.defers=[]->fA w s (.returned (.tuple #[.slice none 0 0,.bool false])) w'->Q .ret a' w')(hgo:ahy s w i Q):Code.wp prog (ab2 f30) Q ⟨#[.string s,undef,u2,u3,u4,.bool false,.int .i64 i,.int .u8 c,.bool true,u9,u10,u11,u12,u13,u14,u15,u16,u17,u18,u19,u20,u21,u22,u23,u24,u25,u26,u27,u28,u29,u30,u31,u32,u33,u34,u35,u36,u37,u38,u39,u40,u41,u42,u43,u44,u45,u46,u47,u48,u49,u50,u51,u52,u53,u54,u55,u56,u57,u58,u59,u60,u61,u62,u63,u64,u65,u66,u67,u68,u69,u70,u71,u72,u73,u74,u75,u76,u77,u78,u79,u80,u81,u82,u83,u84,u85,u86,u87,u88,u89,u90,u91,u92,u93,u94,u95,u96,u97,u98,u99,Od,Oe,Og,Oh,Oi,u105,Oj,Ol,Om,Oo,Oq,Ot,Ou,Ov,Ow,Ox,Oy,Oz,OA,u119,OB,OC,OD,OE,u124,OG,OH,u127,OI,OJ,OK,u131,OM,OO,OP,OQ,OT,OU,u138,u139,OV,OW,OX,OY,OZ,O0,O6,O7,O8,O9,Pb,Pc,u152,Pf,u154,Pg,Ph,Pj,Pm,Pn,Po,undef],[]⟩ wc:=by
 let HBP:Exit->Act->tW->Prop:=bodyPost prog f30 (λ_ _=>True)
 conv=>arg 2;whnf
 obtain⟨iT,hiT,hzT,hsT,hbT⟩:=info_parts zB;have HT:=ak hT;have AP:=ak hr4;have YE:=ak hsc;have hi:i<=s.size:=by omega
 clear hT hr4 hsc
 have Je:ae (ji s i c=(if di c then some (⟨110,s.extract i (ahV s (s.size-i) i),⟨0,false⟩⟩,ahV s (s.size-i) i)
   else if(aS c||(decide (c=45)&&eZ s (i+1)))then(if 20<numDigits s i\/fT s (i+(fE s i).2)=true then none else some (⟨100,s.extract i (i+(fE s i).2),(fE s i).1⟩,i+(fE s i).2))
   else if mM c then some (⟨c.toNat,s.extract i (i+1),⟨0,false⟩⟩,i+1)else none)):=rfl
 have Kk:ae (0=0):=rfl;obtain⟨J,hJ⟩:∃J,J=ahV s (s.size-i) i:=⟨_,rfl⟩
 have hJ1:=VG s i hil (by unfold fT jd;rw[dif_pos hil,YE.o,hsm];simp);have hJ2:=(wj s (s.size-i) i (by omega)).2;rw[<-hJ]at hJ1 hJ2;have xW:ae (ahP s s.size 0 false []=ahP s (s.size-J) J false (ts++[⟨110,s.extract i J,⟨0,false⟩⟩])):=by rw[ae,AP.o,Je.o,hsm,iP9 rfl,<-hJ]
 have HJ:=ak hJ;clear hJ AP Je Kk;go_upto_block 2 with fail;go_cut [10] (λkv wx=>kv=.int .i64 (J:Nat)/\wx=wc)
 case first =>
  go_wp2_with fail;go_loopg [10] (s.size-i) (λq kv wx=>∃k:Nat,kv=.int .i64 k/\wx=wc/\J=ahV s (s.size-k) k/\i<=k/\k<=s.size/\q=s.size-k)
  case atStart=>exact⟨i,rfl,rfl,HJ.o,Nat.le_refl _,hi,rfl⟩
  case round =>
   obtain⟨k,rfl,hwx,hjk,hik,hks,rfl⟩:=hrel;subst hwx;have HJk:=ak hjk;clear hjk;by_cases hkl:k<s.size
   ·obtain⟨g,hg⟩:∃g,s.size-k=g+1:=⟨s.size-k-1,by omega⟩
    have KG:ae (J=if jd (((s[k]'hkl).toNat:Nat):Int)then ahV s (s.size-(k+1)) (k+1)else k):=by rw[ae,HJk.o,hg,ahV,fT,dif_pos hkl,show s.size-(k+1)=g by omega]
    clear HJk hg;go_wp2_with fail;refine(yO _ _).mono ?_;rintro e w3 ⟨rfl,rfl⟩;cases hp:jd (((s[k]'hkl).toNat:Nat):Int)with
    |true =>
     have HJ3:ae (J=ahV s (s.size-(k+1)) (k+1)):=by rw[ae,KG.o,hp,iP9 rfl]
     go_wp2_with fail;go_roundg (s.size-(k+1))
     case measure=>omega
     case rel=>exact⟨k+1,by go_num,rfl,HJ3.o,by omega,by omega,rfl⟩
    |false =>
     have HJ3:ae (J=k):=by rw[ae,KG.o,hp];rfl
     go_wp2_with fail;go_meet;exact⟨by rw[HJ3.o],rfl⟩
   ·obtain rfl:k=s.size:=by omega
    have HJ3:ae (J=s.size):=by rw[ae,HJk.o,Nat.sub_self];rfl
    go_wp2_with fail;go_meet;exact⟨by rw[HJ3.o],rfl⟩
 case rest =>
 obtain⟨rfl,rfl⟩:=hcut;have Dz:ae (nR w u4 ts (wc.alloc (.cells #[.int .u8 110,.string (s.extract i J),.int .u64 0,.bool false,.bool false] 94))):=HT.o.quiet ((aa.refl _ _).alloc _);have hij:((i:Int)<=J):=by omega
 have hjs:((J:Int)<=s.size):=by omega
 go_wp2_with (at_builtin;refine aJ _ rfl (.tmp 73) (.tmp 79) 87 rfl 94 iT (.agg #[.int .u8 0,.string ByteArray.empty,.int .u64 0,.bool false,.bool false]) 5 40 underlying87 hiT hzT hsT hbT rfl (by decide) u4 ts.length (ts.flatMap aY.cells) rfl Dz.o.sl ⟨wc.heap.size,0,none⟩ 1 1 (aY.cells ⟨110,s.extract i J,⟨0,false⟩⟩) rfl rfl (aT _ _ _ _ (by simp)) (Z9 _) (by unfold maxLen;omega) (by omega) ?_;intro v5 w5 s5 m5 l5);have HT5:ae (nR w v5 (ts++[⟨110,s.extract i J,⟨0,false⟩⟩]) w5):=Dz.o.app s5 m5 l5;clear s5 m5 l5;refine hgo _ (by first|exact .inl rfl|exact .inr rfl) ?_;refine BZ.of ?_;exact⟨J,false,_,rfl,rfl,HT5.o,xW.o,by simp;omega,by omega⟩
theorem aiq(s:tBA)(w wc:tW)(hs:s.size<=100000)(i:Nat)(hil:i<s.size)(c:Int)(hc0:0<=c)(hcb:c<=255)(hsc:((s[i]'hil).toNat:Int)=c)(ts:List aY)(htl:ts.length<=i)(hv1:decide (c<32)=false)(hv2:decide (126<c)=false)(Ll:(c==59)=false)(Oc:(c==32)=false){u2 u3 u4 u10 u11 u12 u13 u14 u15 u16 u17 u18 u19 u20 u21 u22 u23 u24 u25 u26 u27 u28 u29 u30 u31 u32 u33 u34 u35 u36 u37 u38 u39 u40 u41 u42 u43 u44 u45 u46 u47 u48 u49 u50 u51 u52 u53 u54 u55 u56 u57 u58 u59 u60 u61 u62 u63 u64 u65 u66 u67 u68 u69 u70 u71 u72 u73 u74 u75 u76 u77 u78 u79 u80 u81 u82 u83 u84 u85 u86 u87 u88 u89 u90 u91 u92 u93 u94 u95 u96 u97 u98 u99 Od Oe Og Oh Oi u105 Oj Ol Om Oo Oq Ot Ou Ov Ow Ox Oy Oz OA u119 OB OC OD OE u124 OG OH u127 OI OJ OK u131 OM OO OP OQ OT OU u138 u139 OV OW OX OY OZ O0 O6 O7 O8 O9 Pb Pc u152 Pf u154 Pg Ph Pj Pm Pn Po:Value} (hT:nR w u4 ts wc) (hsm:di c=false) (hdg:(aS c||(decide (c=45)&&eZ s (i+1)))=true)(hr4:ahP s s.size 0 false []=(match ji s i c with|none=>none|some (t,j)=>ahP s (s.size-j) j false (ts++[t])))(Q:Exit->Act->tW->Prop)(hret:∀(a':Act) (w':tW),a'.tmps.getD 2 undef=.slice none 0 0->a'.tmps.getD 3 undef=.bool false->a'.defers=[]->fA w s (.returned (.tuple #[.slice none 0 0,.bool false])) w'->Q .ret a' w')(hgo:ahy s w i Q):Code.wp prog (ab2 f30) Q ⟨#[.string s,undef,u2,u3,u4,.bool false,.int .i64 i,.int .u8 c,.bool false,.bool true,u10,u11,u12,u13,u14,u15,u16,u17,u18,u19,u20,u21,u22,u23,u24,u25,u26,u27,u28,u29,u30,u31,u32,u33,u34,u35,u36,u37,u38,u39,u40,u41,u42,u43,u44,u45,u46,u47,u48,u49,u50,u51,u52,u53,u54,u55,u56,u57,u58,u59,u60,u61,u62,u63,u64,u65,u66,u67,u68,u69,u70,u71,u72,u73,u74,u75,u76,u77,u78,u79,u80,u81,u82,u83,u84,u85,u86,u87,u88,u89,u90,u91,u92,u93,u94,u95,u96,u97,u98,u99,Od,Oe,Og,Oh,Oi,u105,Oj,Ol,Om,Oo,Oq,Ot,Ou,Ov,Ow,Ox,Oy,Oz,OA,u119,OB,OC,OD,OE,u124,OG,OH,u127,OI,OJ,OK,u131,OM,OO,OP,OQ,OT,OU,u138,u139,OV,OW,OX,OY,OZ,O0,O6,O7,O8,O9,Pb,Pc,u152,Pf,u154,Pg,Ph,Pj,Pm,Pn,Po,undef],[]⟩ wc:=by
 let HBP:Exit->Act->tW->Prop:=bodyPost prog f30 (λ_ _=>True)
 conv=>arg 2;whnf
 obtain⟨iT,hiT,hzT,hsT,hbT⟩:=info_parts zB;have HT:=ak hT;have AP:=ak hr4;have YE:=ak hsc;have hi:i<=s.size:=by omega
 clear hT hr4 hsc
 have Je:ae (ji s i c=(if di c then some (⟨110,s.extract i (ahV s (s.size-i) i),⟨0,false⟩⟩,ahV s (s.size-i) i)
   else if(aS c||(decide (c=45)&&eZ s (i+1)))then(if 20<numDigits s i\/fT s (i+(fE s i).2)=true then none else some (⟨100,s.extract i (i+(fE s i).2),(fE s i).1⟩,i+(fE s i).2))
   else if mM c then some (⟨c.toNat,s.extract i (i+1),⟨0,false⟩⟩,i+1)else none)):=rfl
 have Cs:ae (ji s i c=(if true then(if 20<numDigits s i\/fT s (i+(fE s i).2)=true then none else some (⟨100,s.extract i (i+(fE s i).2),(fE s i).1⟩,i+(fE s i).2))
     else if mM c then some (⟨c.toNat,s.extract i (i+1),⟨0,false⟩⟩,i+1)else none)):=by rw[ae,Je.o,hsm,hdg];rfl
 have Kk:=ak hdg.symm;clear Je hdg;have hpos:=Qj s i (WH s i hil (by rw[YE.o];exact Kk.o.symm));have EY:ae (Calls prog 61 #[.string s,.int .i64 i] wc λe w'=>e=.returned (.tuple #[.agg (fE s i).1.cells,.int .i64 (fE s i).2])/\aa af wc w'):=Mw s i wc (by omega) (by omega);have WI:ae (ji s i c=(if 20<((fE s i).2:Int)-(if(fE s i).1.minus then 1 else 0)\/fT s (i+(fE s i).2)=true then none else some (⟨100,s.extract i (i+(fE s i).2),(fE s i).1⟩,i+(fE s i).2))):=by rw[ae,Cs.o];rfl
 clear Cs Kk hsm YE;generalize fE s i=nk at *;obtain⟨⟨v,mi⟩,k⟩:=nk;simp only[aA.cells]at *;obtain⟨uu,huu⟩:∃uu:Int,uu=((v%18446744073709551616:Nat):Int):=⟨_,rfl⟩
 obtain⟨bg,hbg⟩:∃bg,bg=decide (18446744073709551616<=v):=⟨_,rfl⟩
 rw[<-huu,<-hbg]at EY;have HUU:ae (uu=((v%18446744073709551616:Nat):Int)/\bg=decide (18446744073709551616<=v)):=⟨huu,hbg⟩
 clear huu hbg;go_wp2_with fail;refine EY.o.mono ?_;rintro e w3 ⟨rfl,m3⟩;have HT3:ae (nR w u4 ts (w3.alloc (.cells #[.int .u64 uu,.bool bg,.bool mi] 45))):=(HT.o.quiet m3).quiet ((aa.refl _ _).alloc _);have HB3:ae (aq (w3.alloc (.cells #[.int .u64 uu,.bool bg,.bool mi] 45)) w3.heap.size #[.int .u64 uu,.bool bg,.bool mi] 45):=aq.new _ _ _;clear m3 EY HT;go_upto_region 22 with fail;generalize w3.alloc (.cells #[.int .u64 uu,.bool bg,.bool mi] 45)=W4 at *;generalize w3.heap.size=B at *;go_cut [13] (λmv wx=>mv=.bool (fT s (i+k))/\wx=W4)
 case first =>
  by_cases hm:i+k<s.size
  ·have hm':((i:Int)+k<s.size):=by omega
   have HP:ae (fT s (i+k)=jd (((s[i+k]'hm).toNat:Nat):Int)):=by rw[ae,fT,dif_pos hm]
   go_wp2_with fail;refine(yO _ _).mono ?_;rintro e w4 ⟨rfl,rfl⟩;go_wp2_with fail;go_meet;exact⟨by rw[HP.o],rfl⟩
  ·have hm':decide ((i:Int)+k<s.size)=false:=by simp;omega
   have HP:ae (fT s (i+k)=false):=by rw[ae,fT,dif_neg hm]
   go_wp2_with fail;go_meet;exact⟨by rw[HP.o],rfl⟩
 case rest =>
 obtain⟨rfl,rfl⟩:=hcut;generalize fT s (i+k)=mo at *;have c2:wc.cell? ⟨B,2,none⟩=some (.bool mi):=HB3.o.cell 2;obtain⟨dg,hdg⟩:∃dg:Int,dg=(k:Int)-(if mi then 1 else 0):=⟨_,rfl⟩
 rw[<-hdg]at WI;have HDQ:=ak hdg;clear hdg;go_upto_if 105 with fail;go_cut [14] (λdv wx=>dv=.int .i64 dg/\wx=wc)
 case first =>
  cases mi with
  |true =>go_wp2_with fail;go_meet;exact⟨by rw[HDQ.o];simp,rfl⟩
  |false =>go_wp2_with fail;go_meet;exact⟨by rw[HDQ.o];simp,rfl⟩
 case rest =>
 obtain⟨rfl,rfl⟩:=hcut;by_cases hbad:20<dg\/mo=true
 ·have HN:ae (ahP s s.size 0 false []=none):=by rw[ae,AP.o,WI.o,iP9 hbad]
  have HM:=ak HT3.o.md;clear AP WI;rcases hbad with hbad|rfl
  ·go_wp2_with fail;refine hret _ _ rfl rfl rfl ?_;exact fA.no HN.o HM.o
  ·by_cases hd:20<dg
   ·go_wp2_with fail;refine hret _ _ rfl rfl rfl ?_;exact fA.no HN.o HM.o
   ·have hd':decide (20<dg)=false:=by simpa using hd
    go_wp2_with fail;refine hret _ _ rfl rfl rfl ?_;exact fA.no HN.o HM.o
 ·have xW:ae (ahP s s.size 0 false []=ahP s (s.size-(i+k)) (i+k) false (ts++[⟨100,s.extract i (i+k),⟨v,mi⟩⟩])):=by rw[ae,AP.o,WI.o,iN9 hbad]
  have hd':decide (20<dg)=false:=by simp;omega
  have hmo:mo=false:=by
   cases mo with
   |false=>rfl
   |true=>exact absurd (.inr rfl) hbad
  subst hmo;clear AP WI hbad;have c0:wc.cell? ⟨B,0,none⟩=some (.int .u64 uu):=HB3.o.cell 0;have c1:wc.cell? ⟨B,1,none⟩=some (.bool bg):=HB3.o.cell 1;obtain⟨J,hJ⟩:∃J:Nat,J=i+k:=⟨_,rfl⟩
  have hij:((i:Int)+k=J):=by omega
  have hjs:((J:Int)<=s.size):=by omega
  have hij2:((i:Int)<=J):=by omega
  have ag7:i<J:=by omega
  have hwr:IntKind.i64.wrap ((J:Nat):Int)=J:=by simp[IntKind.wrap,IntKind.signed,IntKind.bits];omega
  rw[<-hJ]at xW;clear hJ hpos;have hnB:¬u4.ownBlock=some B:=HT3.o.sl.az HB3.o (by decide);have e0:∀g:Ext (λk=>u4.ownBlock=some k) wc,g.w.cell? ⟨B,0,none⟩=some (.int .u64 uu):=λg=>(HB3.o.ah g.m hnB).cell 0;have e1:∀g:Ext (λk=>u4.ownBlock=some k) wc,g.w.cell? ⟨B,1,none⟩=some (.bool bg):=λg=>(HB3.o.ah g.m hnB).cell 1;have e2:∀g:Ext (λk=>u4.ownBlock=some k) wc,g.w.cell? ⟨B,2,none⟩=some (.bool mi):=λg=>(HB3.o.ah g.m hnB).cell 2;have ne1:=Ext.ne (λk=>u4.ownBlock=some k) wc;clear c0 c1 c2;go_upto_region 28 with fail;refine aZ [9,10] (λw'=>∃e:Ext (λk=>u4.ownBlock=some k) wc,w'=e.w) (by kernel_rfl) (by kernel_rfl) (by kernel_rfl) ⟨⟨_,(aa.refl _ _).drew⟩,rfl⟩ ?_
  iterate 9 (refine aB rfl rfl rfl ?_;intro K hK;go_big_quiet_op;go_big_quiet_on)
  refine aF rfl rfl ?_;intro K hK;go_big_op;refine hK _ _ rfl ⟨⟨_,((aa.refl _ _).drew).alloc _⟩,rfl⟩ ?_;clear hK K;refine aF rfl rfl ?_;intro K hK;refine cZ _ (.tmp 113) (.tmp 122) 87 rfl 94 iT (.agg #[.int .u8 0,.string ByteArray.empty,.int .u64 0,.bool false,.bool false]) 5 40 underlying87 hiT hzT hsT hbT rfl (by decide) u4 ts.length (ts.flatMap aY.cells) rfl (HT3.o.quiet (((aa.refl _ _).drew).alloc _)).sl ⟨wc.heap.size,0,none⟩ 1 1 [.int .u8 100,.string (s.extract i J),.int .u64 uu,.bool bg,.bool mi] rfl rfl (aT _ _ _ _ (by simp)) (λu hu=>by simp at hu;rcases hu with rfl|rfl|rfl|rfl|rfl<;>rfl) (by unfold maxLen;omega) (by omega) ?_;intro v5 w5 s5 m5 l5;have M5:ae (aa (λk=>u4.ownBlock=some k) wc w5):=(((aa.refl _ _).drew).alloc _).trans m5
  have HT5:ae (nR w v5 (ts++[⟨100,s.extract i J,⟨v,mi⟩⟩]) w5):=by
   refine nR.app (HT3.o.quiet (((aa.refl _ _).drew).alloc _)) ?_ m5 l5;show Sl w5 94 5 v5 (ts.length+1) (ts.flatMap aY.cells++[.int .u8 100,.string (s.extract i J),.int .u64 ((v%18446744073709551616:Nat):Int),.bool (decide (18446744073709551616<=v)),.bool mi])
   rw[<-HUU.o.1,<-HUU.o.2];exact s5
  refine hK _ _ rfl ⟨⟨_,M5.o⟩,rfl⟩ ?_;clear hK K s5 m5 l5;simp only[Act.put,sA9,sB9,sC9]
  iterate 1 (refine aB rfl rfl rfl ?_;intro K hK;go_big_quiet_op;go_big_quiet_on)
  refine cu ?_;simp only[Exit.then];go_wp2_with fail;refine hgo _ (by first|exact .inl rfl|exact .inr rfl) ?_;refine BZ.of ?_;exact⟨J,false,_,by go_num,rfl,HT5.o,xW.o,by simp;omega,by omega⟩
theorem Tm(s:tBA)(w wc:tW)(hs:s.size<=100000)(i:Nat)(hil:i<s.size)(c:Int)(hc0:0<=c)(hcb:c<=255)(hsc:((s[i]'hil).toNat:Int)=c)(ts:List aY)(htl:ts.length<=i)(hv1:decide (c<32)=false)(hv2:decide (126<c)=false)(Ll:(c==59)=false)(Oc:(c==32)=false){u2 u3 u4 u10 u11 u12 u13 u14 u15 u16 u17 u18 u19 u20 u21 u22 u23 u24 u25 u26 u27 u28 u29 u30 u31 u32 u33 u34 u35 u36 u37 u38 u39 u40 u41 u42 u43 u44 u45 u46 u47 u48 u49 u50 u51 u52 u53 u54 u55 u56 u57 u58 u59 u60 u61 u62 u63 u64 u65 u66 u67 u68 u69 u70 u71 u72 u73 u74 u75 u76 u77 u78 u79 u80 u81 u82 u83 u84 u85 u86 u87 u88 u89 u90 u91 u92 u93 u94 u95 u96 u97 u98 u99 Od Oe Og Oh Oi u105 Oj Ol Om Oo Oq Ot Ou Ov Ow Ox Oy Oz OA u119 OB OC OD OE u124 OG OH u127 OI OJ OK u131 OM OO OP OQ OT OU u138 u139 OV OW OX OY OZ O0 O6 O7 O8 O9 Pb Pc u152 Pf u154 Pg Ph Pj Pm Pn Po:Value} (hT:nR w u4 ts wc) (hsm:di c=false) (hdg:(aS c||(decide (c=45)&&eZ s (i+1)))=false)(hr4:ahP s s.size 0 false []=(match ji s i c with|none=>none|some (t,j)=>ahP s (s.size-j) j false (ts++[t])))(Q:Exit->Act->tW->Prop)(hret:∀(a':Act) (w':tW),a'.tmps.getD 2 undef=.slice none 0 0->a'.tmps.getD 3 undef=.bool false->a'.defers=[]->fA w s (.returned (.tuple #[.slice none 0 0,.bool false])) w'->Q .ret a' w')(hgo:ahy s w i Q):Code.wp prog (ab2 f30) Q ⟨#[.string s,undef,u2,u3,u4,.bool false,.int .i64 i,.int .u8 c,.bool false,.bool false,u10,u11,u12,u13,u14,u15,u16,u17,u18,u19,u20,u21,u22,u23,u24,u25,u26,u27,u28,u29,u30,u31,u32,u33,u34,u35,u36,u37,u38,u39,u40,u41,u42,u43,u44,u45,u46,u47,u48,u49,u50,u51,u52,u53,u54,u55,u56,u57,u58,u59,u60,u61,u62,u63,u64,u65,u66,u67,u68,u69,u70,u71,u72,u73,u74,u75,u76,u77,u78,u79,u80,u81,u82,u83,u84,u85,u86,u87,u88,u89,u90,u91,u92,u93,u94,u95,u96,u97,u98,u99,Od,Oe,Og,Oh,Oi,u105,Oj,Ol,Om,Oo,Oq,Ot,Ou,Ov,Ow,Ox,Oy,Oz,OA,u119,OB,OC,OD,OE,u124,OG,OH,u127,OI,OJ,OK,u131,OM,OO,OP,OQ,OT,OU,u138,u139,OV,OW,OX,OY,OZ,O0,O6,O7,O8,O9,Pb,Pc,u152,Pf,u154,Pg,Ph,Pj,Pm,Pn,Po,undef],[]⟩ wc:=by
 let HBP:Exit->Act->tW->Prop:=bodyPost prog f30 (λ_ _=>True)
 conv=>arg 2;whnf
 obtain⟨iT,hiT,hzT,hsT,hbT⟩:=info_parts zB;have HT:=ak hT;have AP:=ak hr4;have YE:=ak hsc;have hi:i<=s.size:=by omega
 clear hT hr4 hsc
 have Je:ae (ji s i c=(if di c then some (⟨110,s.extract i (ahV s (s.size-i) i),⟨0,false⟩⟩,ahV s (s.size-i) i)
   else if(aS c||(decide (c=45)&&eZ s (i+1)))then(if 20<numDigits s i\/fT s (i+(fE s i).2)=true then none else some (⟨100,s.extract i (i+(fE s i).2),(fE s i).1⟩,i+(fE s i).2))
   else if mM c then some (⟨c.toNat,s.extract i (i+1),⟨0,false⟩⟩,i+1)else none)):=rfl
 have Cs:ae (ji s i c=(if false then(if 20<numDigits s i\/fT s (i+(fE s i).2)=true then none else some (⟨100,s.extract i (i+(fE s i).2),(fE s i).1⟩,i+(fE s i).2))
     else if mM c then some (⟨c.toNat,s.extract i (i+1),⟨0,false⟩⟩,i+1)else none)):=by rw[ae,Je.o,hsm,hdg];rfl
 have Kk:ae (0=0):=rfl;clear Je hdg;have aaw:ae (ji s i c=(if mM c then some (⟨c.toNat,s.extract i (i+1),⟨0,false⟩⟩,i+1)else none)):=by rw[ae,Cs.o];rfl
 clear Cs Kk hsm;cases hsg:mM c with
 |false =>
  have HN:ae (ahP s s.size 0 false []=none):=by rw[ae,AP.o,aaw.o,hsg];rfl
  have HM:=ak HT.o.md;unfold mM at hsg;simp only[an,decide_eq_false_iff_not]at hsg;obtain⟨⟨⟨⟨⟨a1,a2⟩,a3⟩,a4⟩,a5⟩,a6⟩:=hsg;have b1:(c==58)=false:=by simpa using a1
  have d1:decide (c=58)=false:=by simpa using a1
  have e1:(c != 58)=true:=by simpa using a1
  have b2:(c==44)=false:=by simpa using a2
  have d2:decide (c=44)=false:=by simpa using a2
  have e2:(c != 44)=true:=by simpa using a2
  have b3:(c==91)=false:=by simpa using a3
  have d3:decide (c=91)=false:=by simpa using a3
  have e3:(c != 91)=true:=by simpa using a3
  have b4:(c==93)=false:=by simpa using a4
  have d4:decide (c=93)=false:=by simpa using a4
  have e4:(c != 93)=true:=by simpa using a4
  have b5:(c==43)=false:=by simpa using a5
  have d5:decide (c=43)=false:=by simpa using a5
  have e5:(c != 43)=true:=by simpa using a5
  have b6:(c==45)=false:=by simpa using a6
  have d6:decide (c=45)=false:=by simpa using a6
  have e6:(c != 45)=true:=by simpa using a6
  clear a1 a2 a3 a4 a5 a6 AP aaw;go_wp2_with fail;refine hret _ _ rfl rfl rfl ?_;exact fA.no HN.o HM.o
 |true =>
  have xW:ae (ahP s s.size 0 false []=ahP s (s.size-(i+1)) (i+1) false (ts++[⟨c.toNat,s.extract i (i+1),⟨0,false⟩⟩])):=by rw[ae,AP.o,aaw.o,hsg,iP9 rfl]
  have hij:((i:Int)+1<=s.size):=by omega
  unfold mM at hsg;simp only[Bool.or_eq_true,decide_eq_true_eq]at hsg;clear AP aaw YE;go_upto_region 30 with fail;go_cut [148] (λv wx=>v=.bool false/\wx=wc)
  case first =>
   clear xW;rcases hsg with((((rfl|rfl)|rfl)|rfl)|rfl)|rfl
   all_goals
    go_wp2_with fail;go_meet;exact⟨rfl,rfl⟩
  case rest =>
  obtain⟨rfl,rfl⟩:=hcut;clear hsg hv1 hv2 Ll Oc;have Dz:ae (∀o,nR w u4 ts (wc.alloc o)):=λo=>HT.o.quiet ((aa.refl _ _).alloc _);have KS:ae ((c.toNat:Int)=c):=by rw[ae];omega
  go_wp2_with (at_builtin;refine aJ _ rfl (.tmp 149) (.tmp 157) 87 rfl 94 iT (.agg #[.int .u8 0,.string ByteArray.empty,.int .u64 0,.bool false,.bool false]) 5 40 underlying87 hiT hzT hsT hbT rfl (by decide) u4 ts.length (ts.flatMap aY.cells) rfl (Dz.o _).sl ⟨wc.heap.size,0,none⟩ 1 1 _ rfl rfl (aT _ _ _ _ (by simp)) (λu hu=>by simp at hu;rcases hu with rfl|rfl|rfl|rfl|rfl<;>rfl) (by unfold maxLen;omega) (by omega) ?_;intro v5 w5 s5 m5 l5);refine hgo _ (by first|exact .inl rfl|exact .inr rfl) ?_;refine BZ.of ?_;refine⟨i+1,false,_,by go_num,rfl,?_,xW.o,by simp;omega,by omega⟩;refine nR.app (Dz.o _) ?_ m5 l5;show Sl w5 94 5 v5 (ts.length+1) (ts.flatMap aY.cells++[.int .u8 ((c.toNat:Nat):Int),.string (s.extract i (i+1)),.int .u64 0,.bool false,.bool false])
  rw[KS.o];exact s5
theorem aiA(s:tBA)(w:tW)(hs:s.size<=100000):Calls prog 30 #[.string s] w λe w'=>fA w s e w':=by
 obtain⟨iT,hiT,hzT,hsT,hbT⟩:=info_parts zB;go_enter func30,ntmps30;go_wp2_with fail;go_loopg [4,5,6] s.size (λq lv sv iv wx=>∃(i:Nat) (said:Bool) (ts:List aY),iv=.int .i64 i/\sv=.bool said/\nR w lv ts wx/\ahP s s.size 0 false []=ahP s (s.size-i) i said ts/\ts.length<=i/\i<=s.size/\q=s.size-i)
 case atStart=>exact⟨0,false,[],rfl,rfl,nR.nil w,rfl,Nat.le_refl _,Nat.zero_le _,rfl⟩
 case round =>
  obtain⟨i,said,ts,rfl,rfl,hT,hr,htl,hi,rfl⟩:=hrel;have HT:=ak hT;have HR:=ak hr;clear hT hr;by_cases hil:i<s.size
  ·have HS:=WG s i said ts hil;have jI:ae _:=HR.o.trans HS;have hcb:((s[i]'hil).toNat:Int)<=255:=by have:=(s[i]'hil).toNat_lt;omega
   clear HS HR;go_upto_region 6 with fail;generalize hc:((s[i]'hil).toNat:Int)=c at *;have hc0:0<=c:=by omega
   have YE:=ak hc;clear hc;by_cases hv:c<32\/126<c
   ·have HN:ae (ahP s s.size 0 false []=none):=by rw[ae,jI.o,iP9 hv]
    have HM:=ak HT.o.md;clear jI;rcases hv with hv|hv
    ·go_wp2_with fail;go_ret2;exact fA.no HN.o HM.o
    ·have hv2:decide (c<32)=false:=by simp;omega
     go_wp2_with fail;go_ret2;exact fA.no HN.o HM.o
   have hv1:decide (c<32)=false:=by simp;omega
   have hv2:decide (126<c)=false:=by simp;omega
   have EP:ae (ahP s s.size 0 false []=(if said||decide (c=59)||decide (c=32)then ahP s (s.size-(i+1)) (i+1) (said||decide (c=59)) ts
     else match ji s i c with
     |none=>none
     |some (t,j)=>ahP s (s.size-j) j said (ts++[t]))):=by(rw[ae,jI.o,iN9 hv])<;>rfl
   clear jI;by_cases zZ:(said||decide (c=59)||decide (c=32))=true
   ·have AP:ae (ahP s s.size 0 false []=ahP s (s.size-(i+1)) (i+1) (said||decide (c=59)) ts):=by rw[ae,EP.o,iP9 zZ]
    clear EP hv;by_cases Ga:c=59
    ·subst Ga;have xW:ae (ahP s s.size 0 false []=ahP s (s.size-(i+1)) (i+1) true ts):=by rw[ae,AP.o];simp
     clear AP zZ;go_wp2_with fail;go_roundg (s.size-(i+1))
     case measure=>omega
     case rel=>exact⟨i+1,true,ts,by go_num,rfl,HT.o,xW.o,by omega,by omega,rfl⟩
    ·have Ll:(c==59)=false:=by simpa using Ga
     have xW:ae (ahP s s.size 0 false []=ahP s (s.size-(i+1)) (i+1) said ts):=by rw[ae,AP.o,decide_eq_false Ga,Bool.or_false]
     rw[decide_eq_false Ga,Bool.or_false]at zZ;clear AP Ga;cases said with
     |true =>
      clear zZ;go_wp2_with fail;go_roundg (s.size-(i+1))
      case measure=>omega
      case rel=>exact⟨i+1,true,ts,by go_num,rfl,HT.o,xW.o,by omega,by omega,rfl⟩
     |false =>
      have h32:c=32:=by simpa using zZ
      subst h32;clear zZ;go_wp2_with fail;go_roundg (s.size-(i+1))
      case measure=>omega
      case rel=>exact⟨i+1,false,ts,by go_num,rfl,HT.o,xW.o,by omega,by omega,rfl⟩
   have hsk:(said||decide (c=59)||decide (c=32))=false:=by simpa using zZ
   simp only[an,decide_eq_false_iff_not]at hsk;obtain⟨⟨rfl,Ga⟩,h32⟩:=hsk
   have AP:ae (ahP s s.size 0 false []=(match ji s i c with
     |none=>none
     |some (t,j)=>ahP s (s.size-j) j false (ts++[t]))):=by(rw[ae,EP.o,iN9 zZ])<;>rfl
   clear EP zZ hv;have Ll:(c==59)=false:=by simpa using Ga
   have Oc:(c==32)=false:=by simpa using h32
   clear Ga h32;go_wp2_with fail;refine(qD _ _).mono ?_;rintro e w2 ⟨rfl,rfl⟩;go_upto_region 13 with fail;go_cut [9] (λdv wx=>dv=.bool (aS c||(decide (c=45)&&eZ s (i+1)))/\wx=w2)
   case first =>
    go_wp2_with fail;refine(Av _ _).mono ?_;rintro e w3 ⟨rfl,rfl⟩;cases hdg:aS c with
    |true =>go_wp2_with fail;go_meet;exact⟨by rw[hdg];rfl,rfl⟩
    |false =>
     by_cases h45:c=45
     ·subst h45;by_cases hi1:i+1<s.size
      ·have aeP:((i:Int)+1<s.size):=by omega
       have HD:ae (eZ s (i+1)=aS (((s[i+1]'hi1).toNat:Nat):Int)):=by rw[ae,eZ,dif_pos hi1]
       go_wp2_with fail;refine(Av _ _).mono ?_;rintro e w4 ⟨rfl,rfl⟩;go_wp2_with fail;go_meet;exact⟨by rw[hdg,HD.o];simp,rfl⟩
      ·have aeP:decide ((i:Int)+1<s.size)=false:=by simp;omega
       have HD:ae (eZ s (i+1)=false):=by rw[ae,eZ,dif_neg hi1]
       go_wp2_with fail;go_meet;exact⟨by rw[hdg,HD.o];simp,rfl⟩
     ·have ahi:(c==45)=false:=by simpa using h45
      go_wp2_with fail;go_meet;exact⟨by rw[hdg,decide_eq_false h45];rfl,rfl⟩
   case rest =>
   obtain⟨rfl,rfl⟩:=hcut;cases hsm:di c with
   |true =>
    refine ‹∀(a:Act) (w:tW),Code.wp prog _ _ a w->_› _ _ ?_;refine Tk s w wc hs i hil c hc0 hcb YE.o ts htl hv1 hv2 Ll Oc HT.o hsm AP.o _ ?_ ?_
    ·intro a' w' h2 h3 hd hp;simp only[Exit.inBlock,Exit.then];refine bodyPost_ret (v:=.tuple #[.slice none 0 0,.bool false]) ?_ hd hp;rw[results_tmp2 rfl,h2,h3]
    ·intro e
     iterate 159 intro _
     intro w' he hg;obtain⟨i',said',ts',rfl,rfl,hT',hR',hl',hi',hlt⟩:=hg;rcases he with rfl|rfl
     all_goals
      simp only[Exit.inBlock,Exit.then,if_true];refine ‹∀(a':Act) (w':tW),Handed _ _ a' w'->_› _ _ ?_;go_roundg (s.size-i')
      case measure=>omega
      case rel=>exact⟨i',said',ts',rfl,rfl,hT',hR',hl',hi',rfl⟩
   |false =>
    cases hdg:(aS c||(decide (c=45)&&eZ s (i+1)))with
    |true =>
     refine ‹∀(a:Act) (w:tW),Code.wp prog _ _ a w->_› _ _ ?_;refine aiq s w wc hs i hil c hc0 hcb YE.o ts htl hv1 hv2 Ll Oc HT.o hsm hdg AP.o _ ?_ ?_
     ·intro a' w' h2 h3 hd hp;simp only[Exit.inBlock,Exit.then];refine bodyPost_ret (v:=.tuple #[.slice none 0 0,.bool false]) ?_ hd hp;rw[results_tmp2 rfl,h2,h3]
     ·intro e
      iterate 159 intro _
      intro w' he hg;obtain⟨i',said',ts',rfl,rfl,hT',hR',hl',hi',hlt⟩:=hg;rcases he with rfl|rfl
      all_goals
       simp only[Exit.inBlock,Exit.then,if_true];refine ‹∀(a':Act) (w':tW),Handed _ _ a' w'->_› _ _ ?_;go_roundg (s.size-i')
       case measure=>omega
       case rel=>exact⟨i',said',ts',rfl,rfl,hT',hR',hl',hi',rfl⟩
    |false =>
     refine ‹∀(a:Act) (w:tW),Code.wp prog _ _ a w->_› _ _ ?_;refine Tm s w wc hs i hil c hc0 hcb YE.o ts htl hv1 hv2 Ll Oc HT.o hsm hdg AP.o _ ?_ ?_
     ·intro a' w' h2 h3 hd hp;simp only[Exit.inBlock,Exit.then];refine bodyPost_ret (v:=.tuple #[.slice none 0 0,.bool false]) ?_ hd hp;rw[results_tmp2 rfl,h2,h3]
     ·intro e
      iterate 159 intro _
      intro w' he hg;obtain⟨i',said',ts',rfl,rfl,hT',hR',hl',hi',hlt⟩:=hg;rcases he with rfl|rfl
      all_goals
       simp only[Exit.inBlock,Exit.then,if_true];refine ‹∀(a':Act) (w':tW),Handed _ _ a' w'->_› _ _ ?_;go_roundg (s.size-i')
       case measure=>omega
       case rel=>exact⟨i',said',ts',rfl,rfl,hT',hR',hl',hi',rfl⟩
  ·obtain rfl:i=s.size:=by omega
   have HE:ae (ahP s s.size 0 false []=some ts):=by rw[ae,HR.o,Nat.sub_self];rfl
   go_wp2_with fail;go_ret2;refine⟨HT.o.md,?_⟩;rw[HE.o];exact⟨_,rfl,HT.o⟩
