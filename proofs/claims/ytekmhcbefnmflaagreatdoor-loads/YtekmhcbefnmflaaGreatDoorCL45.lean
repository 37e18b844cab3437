import Derived.Test.YtekmhcbefnmflaaGreatDoorCL34
import Derived.Test.YtekmhcbefnmflaaGreatDoorCL41
namespace Go.Proofs.YtekmhcbefnmflaaGreatDoor
open Go.RowKit Tryz
open Nat renaming le_refl->ab
open Ending renaming returned->fR
open List renaming length->ee
open Obj renaming cells->eR
open Option renaming some->eC,none->ez
open Value renaming tuple->gb,string->eI,slice->eK,bool->fS
open _root_.Go renaming maxLen->fX,Calls->fL,info_parts->lO,bodyPost_ret->iz
set_option linter.all false
set_option maxRecDepth 100000
set_option maxHeartbeats 2000000
set_option linter.all false
theorem Xz.quiet{w w':tW}{vF:Value}{fs:List jR}(h:Xz w vF fs)(m:aa ah w w'):Xz w' vF fs:=by obtain⟨o,cap,h1,h2⟩:=h;refine⟨o,cap,h1,λhp=>?_⟩;obtain⟨g,cs,h3,h4,h5⟩:=h2 hp;exact⟨g,cs,h3,h4.ae m id,h5⟩
theorem Tf:(prog.info? 451).map (λi=>(i.zero,i.size,i.bytes))=eC (eC (vN),1,24):=by kernel_rfl
structure AL(w:tW)(mb:Nat)(fs:List jR):Prop where
 ex:∃pb vM vF vE,ak w mb #[vP pb,vN,vE] 39/\ak w pb #[vM,vF] 34/\Xz w vF fs
theorem AL.quiet{w w':tW}{mb:Nat}{fs:List jR}(h:AL w mb fs)(m:aa ah w w'):AL w' mb fs:=by obtain⟨pb,vM,vF,vE,h1,h2,h3⟩:=h.ex;exact⟨pb,vM,vF,vE,h1.ae m id,h2.ae m id,h3.quiet m⟩
def Tg(w:tW)(s:tBA)(e:Ending)(w':tW):Prop :=
 aa ah w w'/\match gq s with
  |none=>e=fR (gb #[vO,vI 7])
  |some o=>∃mb,e=fR (gb #[vP mb,vI 0])/\AL w' mb o.2/\o.2.length<=16
theorem FQ(s:tBA)(w:tW)(hs:s.size<=fX):fL prog 12 #[eI s] w λe w'=>Tg w s e w':=by
 obtain⟨iE,hiE,hzE,hsE,hbE⟩:=lO Tf;have HO:=ai (openJ_any s w hs);clear hs;go_in;go_wp2_with fail;refine HO.o.mono ?_;rintro e w1 ⟨m1,hp⟩;have HM:=ai m1;clear m1 HO;cases ho:gq s with
 |none =>rw[ho]at hp;obtain⟨p,rfl⟩:=hp;have HN:=ai ho;clear ho;go_wp2_with fail;go_ret2;refine⟨HM.o,?_⟩;rw[HN.o];rfl
 |some o =>
  rw[ho]at hp;obtain⟨pb,oM,cM,vF,rfl,hb,hf,h8,h16⟩:=hp;have HN:=ai ho;have HB:=ai hb;have HF:=ai hf;have H16:=ai h16;obtain⟨ms,fs⟩:=o;simp only at *;have p0:=hb.c0
  have hmk:(Instr.makeSlice 37 (vI (ee ms:Nat)) (vI (ee ms:Nat))).run prog w1=.ok (eK (eC ⟨w1.heap.size,0,ez⟩) (ee ms) (ee ms)) (w1.alloc (eR (madeCells #[vN] (ee ms)) 451)):=by
   have:=run_make (P:=prog) w1 37 451 iE _ underlying37 hiE hzE .i64 .i64 (ee ms:Nat) (ee ms:Nat) (by omega) (by omega) (by rw[hbE];omega) (by omega);rw[hsE]at this
   simpa [Value.cells]using this
  generalize madeCells #[vN] (ee ms)=cs0 at *;generalize ee ms=nm at *;clear ho hb hf hiE hzE hsE hbE h16;go_wp2_with fail;go_ret2;refine⟨(HM.o.alloc _).alloc _,?_⟩;rw[HN.o];have m2:aa ah w1 ((w1.alloc (eR cs0 451)).alloc (eR #[vP pb,vN,eK (eC ⟨w1.heap.size,0,ez⟩) nm nm] 39)):=aq.alloc _;exact⟨_,rfl,⟨pb,_,vF,_,by simpa using ak.new (w1.alloc (eR cs0 451)) #[vP pb,vN,eK (eC ⟨w1.heap.size,0,ez⟩) nm nm] 39,HB.o.ae m2 id,HF.o.quiet m2⟩,H16.o⟩
theorem O0(w:tW)(n:Int):fL prog 13 #[vI n] w λe w'=>e=fR (vI n)/\w'=w:=by go_in;go_wp2_with fail;go_ret;exact⟨rfl,rfl⟩
theorem Th(w:tW)(a b:Option Addr)(c d:Nat)(l:List tLB)(hn:ee l<=1000)(hA:Sl w 9 1 (eK a (ee l) c) (ee l) (kE l))(hB:Sl w 9 1 (eK b (ee l) d) (ee l) (kE l)):fL prog 7 #[eK a (ee l) c,eK b (ee l) d] w λe w'=>e=fR (fS true)/\aa ah w w':=by
 have HC:af (∀{o:Option Addr} {k:Nat} {w':tW},Sl w 9 1 (eK o (ee l) k) (ee l) (kE l)->aa ah w w'->∀i (hi:i<ee l),∃g,o=eC ⟨g,0,ez⟩/\w'.cell? ⟨g,i,ez⟩=eC (eI (T l[i]))):=fun{o k w'} h m i hi=>by obtain⟨o',c',hv,h2⟩:=(h.ae m (λ_ _=>id)).view;cases hv;obtain⟨g,cs,rfl,hb,ht,_⟩:=h2 (by omega);refine⟨g,rfl,?_⟩;rw[aX hb ht i (by omega)];simp[kE,hi]
 have HA:=ai hA;have HB:=ai hB;clear hA hB;go_in;go_wp2_with fail;go_loopg [5] 1001 (λq iv wx=>∃i:Nat,iv=vI i/\aa ah w wx/\i<=ee l/\q=1001-i)
 case atStart=>exact⟨0,rfl,aA,Nat.zero_le _,rfl⟩
 case round =>
  obtain⟨i,rfl,hm,hi,rfl⟩:=hrel;have EJ:=ai hm;clear hm;by_cases hlt:i<ee l
  ·obtain⟨gA,rfl,a0⟩:=HC.o HA.o EJ.o i hlt;obtain⟨gB,rfl,b0⟩:=HC.o HB.o EJ.o i hlt;generalize T (l[i]'hlt)=ti at *;clear HC HA HB;go_upto_region 6 with fail;go_quiet (fail);have HMq:=ai (EJ.o.trans (aA.drewN nq));generalize wr.drewN nq=wq at *;go_wp2_with fail;go_roundg (1001-(i+1))
   case measure=>omega
   case rel=>exact⟨i+1,by go_num,HMq.o,by omega,rfl⟩
  ·go_wp2_with fail;go_ret;exact⟨rfl,EJ.o⟩
set_option linter.all false
theorem AL.only{w w':tW}{mb mp:Nat}{fs:List jR}{cs:tAV}(h:AL w mb fs)(hb:ak w mp cs 79)(m:aa (Only mp) w w'):AL w' mb fs:=by obtain⟨pb,vM,vF,vE,h1,h2,o,cap,h3,h4⟩:=h.ex;refine⟨pb,vM,vF,vE,h1.ae m (h1.tq hb (by decide)),h2.ae m (h2.tq hb (by decide)),o,cap,h3,λhp=>?_⟩;obtain⟨g,cs',h5,h6,h7⟩:=h4 hp;exact⟨g,cs',h5,h6.ae m (h6.tq hb (by decide)),h7⟩
def Twn(w:tW):Nat->Prop:=λk=>∃cs,ak w k cs 26
def pM(w0:tW)(sb:Nat)(names:List tLB)(w2:tW):Prop :=
 ∀w3,aa (Twn w2) w2 w3->fL prog 6 #[vP sb] w3 λe w4=>∃v mp cs,e=fR v/\Sl w4 9 1 v (ee names) (kE names)/\ak w3 mp cs 79/\aa (Only mp) w3 w4/\w0.heap.size<=mp
theorem pM.turn{w0:tW}{sb:Nat}{names:List tLB}{w2 w3:tW}(h:pM w0 sb names w2)(m:aa (Twn w2) w2 w3):pM w0 sb names w3:=λw4 m'=>h w4 (m.step m' (λi hi ⟨cs,hb⟩=>Classical.byContradiction λhn=>hn ⟨cs,(m.block i hi hn).symm.trans hb⟩))
theorem pM.quiet{w0:tW}{sb:Nat}{names:List tLB}{w2 w3:tW}(h:pM w0 sb names w2)(m:aa ah w2 w3):pM w0 sb names w3:=h.turn (m.mono (λ_ _ e=>e.elim))
theorem AL.turn{w w':tW}{mb:Nat}{fs:List jR}(h:AL w mb fs)(m:aa (Twn w) w w'):AL w' mb fs:=by obtain⟨pb,vM,vF,vE,h1,h2,o,cap,h3,h4⟩:=h.ex;refine⟨pb,vM,vF,vE,h1.ae m (fun⟨_,e⟩=>h1.tq e (by decide) rfl),h2.ae m (fun⟨_,e⟩=>h2.tq e (by decide) rfl),o,cap,h3,λhp=>?_⟩;obtain⟨g,cs',h5,h6,h7⟩:=h4 hp;exact⟨g,cs',h5,h6.ae m (fun⟨_,e⟩=>h6.tq e (by decide) rfl),h7⟩
theorem Ti(w:tW)(s:tBA)(hL:∀w1,aa ah w w1->fL prog 10 #[eI s] w1 λe w'=>e=fR (gb #[vO,vI 7])/\aa ah w1 w')(hs:s.size<=fX)(ho:gq s=ez)(w1:tW)(m:aa ah w w1):fL prog 5 #[eI s] w1 λe w'=>e=fR (gb #[.agg #[vO,vO],fS true])/\aa ah w1 w':=by have HL:=ai (λw2 (m2:aa ah w1 w2)=>hL w2 (m.trans m2));have HD:=ai (λw2=>FQ s w2 hs);have HO:=ai ho;have dU:af (aa ah w1 (w1.alloc (eR #[vO,vO] 26))):=aq;have HB0:=ai (ak.new w1 #[vO,vO] 26);clear hL hs ho m;go_in;go_wp2_with fail;generalize w1.alloc (eR #[vO,vO] 26)=W at *;refine(HL.o _ dU.o).mono ?_;rintro e w2 ⟨rfl,m2⟩;have dV:=ai (dU.o.trans m2);have HB2:=ai (HB0.o.ae m2 id);clear m2 dU HB0 HL;go_wp2_with fail;refine(HD.o w2).mono ?_;rintro e w3 ⟨m3,hp⟩;rw[HO.o]at hp;have hp':e=fR (gb #[vO,vI 7]):=hp;subst hp';have eH:=ai (dV.o.trans m3);have HB3:=ai (HB2.o.ae m3 id);clear m3 hp dV HB2 HD HO;go_wp2_with fail;refine(O0 _ _).mono ?_;rintro e w4 ⟨rfl,rfl⟩;have b0:=HB3.o.c0;have b1:=HB3.o.c1;have bf:=HB3.o.frozen;have hlt:=HB3.o.lt;go_wp2_with fail;refine iz (aw results5 _ _ w1.heap.size 26 #[vO,vO] (0,0) _ _ rfl rfl ((HB3.o.set 0 _).set 1 _) underlying26 rfl (by kernel_rfl)) rfl ⟨rfl,?_⟩;exact(eH.o.set (a:=⟨w1.heap.size,0,ez⟩) (.inr (ab _)) _).set (a:=⟨w1.heap.size,1,ez⟩) (.inr (ab _)) _
theorem NF(w:tW)(s:tBA)(names:List tLB)(hL:∀w1,aa ah w w1->fL prog 10 #[eI s] w1 λe w'=>∃sb,e=fR (gb #[vP sb,vI 0])/\aa ah w1 w'/\pM w sb names w')(hs:s.size<=fX)(o:List dE×List jR)(ho:gq s=eC o)(w1:tW)(m:aa ah w w1):fL prog 5 #[eI s] w1 λe w'=>∃sb mb,e=fR (gb #[.agg #[vP sb,vP mb],fS true])/\aa ah w1 w'/\AL w' mb o.2/\pM w sb names w':=by
 have HL:=ai (λw2 (m2:aa ah w1 w2)=>hL w2 (m.trans m2));have HD:=ai (λw2=>FQ s w2 hs);have HO:=ai ho;have dU:af (aa ah w1 (w1.alloc (eR #[vO,vO] 26))):=aq;have HB0:=ai (ak.new w1 #[vO,vO] 26);clear hL hs ho m;go_in;go_wp2_with fail;generalize w1.alloc (eR #[vO,vO] 26)=W at *;refine(HL.o _ dU.o).mono ?_;rintro e w2 ⟨sb,rfl,m2,hF⟩;have dV:=ai (dU.o.trans m2);have HB2:=ai (HB0.o.ae m2 id);have VZ:=ai hF;clear m2 hF dU HB0 HL;go_wp2_with fail;refine(HD.o w2).mono ?_;rintro e w3 ⟨m3,hp⟩;rw[HO.o]at hp;obtain⟨mb,he,hd,_⟩:=hp;subst he;have eH:=ai (dV.o.trans m3);have HB3:=ai (HB2.o.ae m3 id);have Mj:=ai (VZ.o.quiet m3);have HD3:=ai hd;clear m3 hd dV HB2 VZ HD HO;go_wp2_with fail;refine(O0 _ _).mono ?_;rintro e w4 ⟨rfl,rfl⟩;have b0:=HB3.o.c0;have b1:=HB3.o.c1;have bf:=HB3.o.frozen;have hlt:=HB3.o.lt;go_wp2_with fail;have m4:aa (Twn w4) w4 ((w4.setCell ⟨w1.heap.size,0,ez⟩ (vP sb)).setCell ⟨w1.heap.size,1,ez⟩ (vP mb)):=((aA.bz 0 _).bz 1 _:aa (Only w1.heap.size) w4 _).mono (λk _ e=>by rw[show k=w1.heap.size from e];exact⟨_,HB3.o⟩);refine iz (aw results5 _ _ w1.heap.size 26 #[vP sb,vP mb] (0,0) _ _ rfl rfl ((HB3.o.set 0 _).set 1 _) underlying26 rfl (by kernel_rfl)) rfl ⟨sb,mb,rfl,?_,?_,?_⟩
 ·exact(eH.o.set (a:=⟨w1.heap.size,0,ez⟩) (.inr (ab _)) _).set (a:=⟨w1.heap.size,1,ez⟩) (.inr (ab _)) _
 ·exact HD3.o.turn m4
 ·exact Mj.o.turn m4
theorem XJ(w:tW)(hK:fL prog 4 #[] w λe w'=>e=fR (fS true)/\aa ah w w')(s:tBA)(hL:∀w1,aa ah w w1->fL prog 10 #[eI s] w1 λe w'=>e=fR (gb #[vO,vI 7])/\aa ah w1 w')(hs:s.size<=fX)(ho:gq s=ez):fL prog 3 #[eI s] w λe w'=>e=fR (fS true)/\aa ah w w':=by have HK:=ai hK;have HL:=ai (Ti w s hL hs ho);clear hK hL hs ho;go_in;go_wp2_with fail;refine HK.o.mono ?_;rintro e w1 ⟨rfl,m1⟩;have dB:=ai m1;clear m1 HK;go_wp2_with fail;refine(HL.o w1 dB.o).mono ?_;rintro e w2 ⟨rfl,m2⟩;have dV:=ai (dB.o.trans m2);clear m2 dB HL;go_wp2_with fail;go_ret;exact⟨rfl,dV.o.alloc _⟩
theorem AL.at{w:tW}{mb:Nat}{fs:List jR}(h:AL w mb fs):∃pb oF cF,w.cell? ⟨mb,0,ez⟩=eC (vP pb)/\w.cell? ⟨pb,1,ez⟩=eC (eK oF (ee fs) cF)/\∀w',aa ah w w'->w'.cell? ⟨mb,0,ez⟩=eC (vP pb)/\w'.cell? ⟨pb,1,ez⟩=eC (eK oF (ee fs) cF)/\∀i (hi:i<ee fs),∃g,oF=eC ⟨g,0,ez⟩/\w'.cell? ⟨g,i*8,ez⟩=eC (eI fs[i].name):=by obtain⟨pb,vM,vF,vE,h1,h2,o,cap,rfl,h4⟩:=h.ex;refine⟨pb,o,cap,h1.c0,h2.c1,λw' m=>⟨(h1.ae m id).c0,(h2.ae m id).c1,λi hi=>?_⟩⟩;obtain⟨g,cs,h5,h6,h7⟩:=h4 (by omega);exact⟨g,h5,by rw[(h6.ae m id).cell];exact h7 i hi⟩
theorem Tj(w:tW)(hK:fL prog 4 #[] w λe w'=>e=fR (fS true)/\aa ah w w')(s:tBA)(names:List tLB)(hn:ee names<=1000)(hL:∀w1,aa ah w w1->fL prog 10 #[eI s] w1 λe w'=>∃sb,e=fR (gb #[vP sb,vI 0])/\aa ah w1 w'/\pM w sb names w')(hs:s.size<=fX)(o:List dE×List jR)(ho:gq s=eC o)(hnm:o.2.map (·.name)=names.map T):fL prog 3 #[eI s] w λe w'=>e=fR (fS true)/\aa ah w w':=by
 obtain⟨iS,hiS,hzS,hsS,hbS⟩:=lO Cb;have HK:=ai hK;have HL:=ai (NF w s names hL hs o ho);have hlen:ee o.2=ee names:=by have:=congrArg List.length hnm;simpa using this
 have HNA:af (∀i (h:i<ee o.2) (h':i<ee names),o.2[i].name=T names[i]):=λi h h'=>by have:=congrArg (λl=>l[i]?) hnm;simp[h,h']at this;exact this
 have ad2:=ai hlen;clear hK hL hs ho hnm hlen;go_in;go_wp2_with fail;refine HK.o.mono ?_;rintro e w1 ⟨rfl,m1⟩;have dB:=ai m1;clear m1 HK;go_wp2_with fail;refine(HL.o w1 dB.o).mono ?_;rintro e w2 ⟨sb,mb,rfl,m2,hd,hf⟩;have dV:=ai (dB.o.trans m2);have HD2:=ai hd;have VZ:=ai hf;clear m2 hd hf dB HL;have m3:aa ah w2 (w2.alloc (eR #[vP sb,vP mb] 26)):=aq;have eH:=ai (dV.o.trans m3);have HD3:=ai (HD2.o.quiet m3);have Mj:=ai (VZ.o.quiet m3);have HT3:=ai (ak.new w2 #[vP sb,vP mb] 26);clear m3 dV HD2 VZ;go_upto_region 5 with fail;generalize w2.alloc (eR #[vP sb,vP mb] 26)=W at *;generalize w2.heap.size=tb at *;have t0:=HT3.o.c0;go_wp2_with fail;refine(Mj.o W aA).mono ?_;rintro e w4 ⟨v,mp,cs,rfl,hS,ZE,m4,hlo⟩;obtain⟨oL,cL,rfl,_⟩:=hS.view;have HD4:=ai (HD3.o.only ZE m4);have HT4:=ai (HT3.o.ae m4 (HT3.o.tq ZE (by decide)));have jh:=ai (eH.o.step m4 (λk hk e=>by rw[show k=mp from e]at hk;omega));have HS4:=ai hS;clear hS ZE m4 hlo t0 HD3 HT3 eH Mj;obtain⟨pb,oF,cF,_,_,hat⟩:=HD4.o.at;have HAT:=ai hat;have HTW:=ai (λw' (m:aa ah w4 w')=>(HT4.o.ae m id).c1);clear hat HD4 HT4;go_upto_block 0 with fail;go_wp2_with fail;go_loopg [7,8] 1001 (λq v iv wx=>∃k:Nat,iv=vI k/\tC w4 wx v (names.take k)/\k<=ee names/\q=1001-k)
 case atStart=>exact⟨0,rfl,tC.nil aA,Nat.zero_le _,rfl⟩
 case round =>
  obtain⟨k,rfl,hS,hkn,rfl⟩:=hrel;have hlk:ee (names.take k)=k:=by rw[List.length_take];omega
  obtain⟨o1,c1',rfl,_⟩:=hS.view;rw[hlk]at hS;rw[hlk];have GH:=ai hlk;have HS:=ai hS;obtain⟨a0,a1,hrow⟩:=HAT.o wr HS.o.md;have t1:=HTW.o wr HS.o.md;rw[ad2.o]at a1;clear hS hlk;by_cases hlt:k<ee names
  ·obtain⟨g,hg,r0⟩:=hrow k (by rw[ad2.o];exact hlt);subst hg;rw[HNA.o k _ hlt]at r0;have Ww:af (names.take (k+1)=names.take k++[names[k]]):=by unfold af;rw[List.take_succ_eq_append_getElem hlt]
   generalize names[k]=nk at *;have VL:=ai (HS.o.quiet ((aa.refl ah wr).alloc (eR #[eI (T nk)] 9)));have tN:af (Sl (wr.alloc (eR #[eI (T nk)] 9)) 9 1 (eK o1 k c1') k (kE (names.take k))):=by have:=VL.o.sl;rw[GH.o]at this;exact this
   clear hrow HAT HTW HNA;go_wp2_with (at_builtin;refine aP _ rfl (.tmp 46) (.tmp 59) 29 rfl 9 iS (eI ByteArray.empty) 1 16 underlying29 hiS hzS hsS hbS rfl (by decide) (eK o1 k c1') k (kE (names.take k)) rfl tN.o ⟨wr.heap.size,0,ez⟩ 1 1 (#[eI (T nk)]:tAV).toList rfl rfl (aY wr #[eI (T nk)] 9 _ rfl) (by simp[Value.oneCell']) (by unfold fX;omega) (by omega) ?_;intro v5 w5 s5 m5 l5;obtain⟨o5,c5,hv5,_⟩:=s5.view;subst hv5);have Yd:af (tC w4 w5 (eK o5 (k+1) c5) (names.take (k+1))):=by unfold af;rw[Ww.o];exact VL.o.app (by rw[GH.o];exact s5) m5 l5
   clear s5 m5 l5 VL tN HS a0 a1 t1 r0;go_roundg (1001-(k+1))
   case measure=>omega
   case rel=>exact⟨k+1,by go_num,Yd.o,by omega,rfl⟩
  ·have hkk:k=ee names:=by omega
   have HE:af (names.take k=names):=List.take_of_length_le (by omega);rw[HE.o]at HS;subst hkk;have ad3:=ai (Th wr oL o1 cL c1' names hn (HS4.o.ae HS.o.md (λ_ _=>id)) HS.o.sl);have Zz:=ai (jh.o.trans HS.o.md);clear HS HAT HTW HNA hrow HE GH;go_wp2_with fail;refine ad3.o.mono ?_;rintro e w6 ⟨rfl,m6⟩;have yq:=ai (Zz.o.trans m6);clear m6 ad3 Zz;go_wp2_with fail;go_ret;exact⟨rfl,yq.o⟩
