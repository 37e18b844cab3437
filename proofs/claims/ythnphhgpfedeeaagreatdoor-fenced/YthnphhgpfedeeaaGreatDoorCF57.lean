import Derived.Test.YthnphhgpfedeeaaGreatDoorCF56
import Derived.Test.YthnphhgpfedeeaaGreatDoorRows
import Derived.ProofKit
import Derived.OpenShut
import Derived.LaidHandle
import Derived.Lib.LaidU8
namespace Go.Proofs.YthnphhgpfedeeaaGreatDoor
open Go.RowKit
open Go.ChangeMaps Go Go.ChangeShapes Go.WideShapes Go.ChangeAt Go.RowKit
set_option linter.all false
set_option maxRecDepth 100000
set_option maxHeartbeats 4000000
set_option linter.all false
theorem ani{w:tW}{v:Value}{l:List tLB}(h:Sl w 9 1 v l.length (zF l)):∃o c,v=.slice o l.length c/\∀i (hi:i<l.length),∃g,o=some ⟨g,0,none⟩/\w.cell? ⟨g,i,none⟩=some (.string (T l[i])):=by obtain⟨o,c,hv,h2⟩:=h.view;refine⟨o,c,hv,λi hi=>?_⟩;obtain⟨g,cs,rfl,hb,ht,_⟩:=h2 (by omega);refine⟨g,rfl,?_⟩;rw[aW hb ht i (by omega)];simp[zF,hi]
theorem amS{w:tW}{o:Option Addr}{c:Nat}{l:List Nat}(h:Sl w 22 1 (.slice o l.length c) l.length (Qy l)):∀i (hi:i<l.length),∃g,o=some ⟨g,0,none⟩/\w.cell? ⟨g,i,none⟩=some (.int .u64 l[i]):=λi hi=>by
 obtain⟨o',c',hv,h2⟩:=h.view;cases hv;obtain⟨g,cs,rfl,hb,ht,_⟩:=h2 (by omega);refine⟨g,rfl,?_⟩;rw[aW hb ht i (by omega)];simp[Qy,hi]
theorem alp(w:tW)(hA:Calls Tryz.prog 7 #[] w λe w'=>e=.returned (.bool true)/\aa ae w w')(MU:tBA)(hL:∀w1,aa ae w w1->Calls Tryz.prog 16 #[.string MU] w1 λe w'=>e=.returned (.tuple #[.pointer none,.int .i64 7])/\aa ae w1 w')(inp:tBA)(fuel which:Int):Calls Tryz.prog 6 #[.string MU,.string inp,.int .i64 fuel,.int .i64 which] w λe w'=>e=.returned (.bool true)/\aa ae w w':=by have HA:=ai hA;have HL:=ai hL;clear hA hL;go_enter Tryz.func6,Tryz.ntmps6;go_wp2_with fail;refine HA.o.mono ?_;rintro e w1 ⟨rfl,m1⟩;have dh:=ai m1;clear m1 HA;go_wp2_with fail;refine(HL.o _ dh.o).mono ?_;rintro e w2 ⟨rfl,m2⟩;have dD:=ai (dh.o.trans m2);clear m2 dh;go_wp2_with fail;refine(HL.o _ dD.o).mono ?_;rintro e w3 ⟨rfl,m3⟩;have dw:=ai (dD.o.trans m3);clear m3 dD HL;go_wp2_with fail;go_ret;exact⟨rfl,dw.o⟩
theorem ak6(w:tW)(hA:Calls Tryz.prog 7 #[] w λe w'=>e=.returned (.bool true)/\aa ae w w')(MU:tLB)(hD:(dP MU).2.2.bad=false)(hL:∀w1,aa ae w w1->Calls Tryz.prog 16 #[.string (T MU)] w1 λe w'=>∃sb,e=.returned (.tuple #[pt sb,.int .i64 0])/\Made w1 MU sb w')(inp:tBA)(hs:inp.size<=9223372036854775807)(fuel which:Int)(d0:-9223372036854775808<=fuel)(d1:fuel<=9223372036854775807)(v0:-9223372036854775808<=which)(v1:which<=9223372036854775807):Calls Tryz.prog 6 #[.string (T MU),.string inp,.int .i64 fuel,.int .i64 which] w λe w'=>e=.returned (.bool true)/\aa ae w w':=by
 have HA:=ai hA;have HL:=ai hL;have HFR:af (∀w1 w2 w3 sb1 sb2,Made w1 MU sb1 w2->Made w2 MU sb2 w3->_):=λw1 w2 w3 sb1 sb2 h1 h2=>amP hD h1 h2 inp hs;have hk:=Jc fuel 3000 (by decide);have kD:af (∀w',Calls Tryz.prog 9 #[.int .i64 fuel,.int .i64 3000] w' λe w''=>e=.returned (.int .i64 (py fuel 3000))/\w''=w'):=λw'=>Eg w' fuel 3000 d0 d1 (by decide) (by decide);have hn:=(akx hD).2;have O8:af (∀i (hi:i<(dP MU).2.1.length),_):=λi hi=>al6 (ajm hD).1 (ajm hD).2 hi inp (py fuel 3000) hk;have qQ:af (0<(dP MU).2.1.length->∀w',Calls Tryz.prog 9 #[.int .i64 which,.int .i64 ((dP MU).2.1.length:Nat)] w' λe w''=>e=.returned (.int .i64 (py which (dP MU).2.1.length))/\w''=w'):=λhp w'=>Eg w' which _ v0 v1 hp (by omega);have HPT:af (0<(dP MU).2.1.length->py which (dP MU).2.1.length<(dP MU).2.1.length):=λhp=>Jc which _ hp;clear hA hL hD d0 d1 v0 v1;generalize py fuel 3000=k at *;generalize py which (dP MU).2.1.length=idx at *;go_enter Tryz.func6,Tryz.ntmps6;go_wp2_with fail;refine HA.o.mono ?_;rintro e w1 ⟨rfl,m1⟩;have dh:=ai m1;clear m1 HA;go_wp2_with fail;refine(HL.o _ dh.o).mono ?_;rintro e w2 ⟨sb1,rfl,anP⟩;have an7:=ai anP;have dD:af (aa ae w w2):=by obtain⟨bs,b,vF,vM,gs,mb,tv,wT,hB,hl,hm,_⟩:=anP;exact dh.o.trans hm
 clear anP;go_wp2_with fail;refine(HL.o _ dD.o).mono ?_;rintro e w3 ⟨sb2,rfl,an8⟩;have HF:=ai (HFR.o _ _ _ _ _ an7.o an8);clear an8 an7 dD HL HFR;go_wp2_with fail;refine HF.o.mono ?_;rintro e w4 ⟨v,rfl,hS,hN4,hrun⟩;have hS':Sl w4 9 1 v ((dP MU).2.1.map (·.name)).length (zF ((dP MU).2.1.map (·.name))):=by rw[List.length_map];exact hS
 obtain⟨o,c,hv,hat⟩:=ani hS';rw[List.length_map]at hv;subst hv
 have HAT:af (∀i (hi:i<(dP MU).2.1.length),∃g,o=some ⟨g,0,none⟩/\w4.cell? ⟨g,i,none⟩=some (.string (T (dP MU).2.1[i].name))):=λi hi=>by
  have:=hat i (by rw[List.length_map];exact hi)
  rwa [List.getElem_map]at this
 have Q9:af (aa ae w w4):=dh.o.trans hN4;have HRU:=ai hrun;clear hS hS' hat hN4 hrun HF;by_cases hz:(dP MU).2.1.length=0
 ·rw[hz];clear HAT HRU O8 qQ HPT kD;go_wp2_with fail;go_ret;exact⟨rfl,Q9.o⟩
 ·have hpos:0<(dP MU).2.1.length:=by omega
  have hidx:=HPT.o hpos;obtain⟨g,ho,y0⟩:=HAT.o idx hidx;subst ho;have HP:=ai (qQ.o hpos);obtain⟨F1,F2,F3⟩:=O8.o idx hidx;have HF1:=ai F1;have ZH:=ai F2;have V9:=ai F3
  have HR:af (Calls Tryz.prog 12 #[pt sb1,.string (T (dP MU).2.1[idx].name),.string inp,.int .i64 (k:Int)] w4 λe w5=>∃vL,e=.returned (.agg (mK (tL (dP MU).2.1 [] (jB (dP MU).1) (dP MU).2.1[idx].name inp (k:Int)).1 vL))/\Sl w5 22 1 vL (tL (dP MU).2.1 [] (jB (dP MU).1) (dP MU).2.1[idx].name inp (k:Int)).1.log.length (Qy (tL (dP MU).2.1 [] (jB (dP MU).1) (dP MU).2.1[idx].name inp (k:Int)).1.log)/\aa ae w1 w5 /\
    ∀w6,aa ae w5 w6->Calls Tryz.prog 12 #[pt sb2,.string (T (dP MU).2.1[idx].name),.string inp,.int .i64 ((k:Int)+1000)] w6 λe w7=>∃vL,e=.returned (.agg (mK (tL (dP MU).2.1 [] (jB (dP MU).1) (dP MU).2.1[idx].name inp ((k:Int)+1000)).1 vL))/\Sl w7 22 1 vL (tL (dP MU).2.1 [] (jB (dP MU).1) (dP MU).2.1[idx].name inp ((k:Int)+1000)).1.log.length (Qy (tL (dP MU).2.1 [] (jB (dP MU).1) (dP MU).2.1[idx].name inp ((k:Int)+1000)).1.log)/\aa ae w1 w7/\iL maT w6 w7) :=
   (HRU.o w4 ax _ (k:Int) (by omega)).mono (λe w5 ⟨vL,h1,h2,h3,h4⟩=>⟨vL,h1,h2,h3,λw6 m6=>h4 w6 m6 ((k:Int)+1000) (by omega)⟩)
  clear HAT HRU O8 qQ HPT F1 F2 F3;generalize(dP MU).2.1[idx].name=nm at *;generalize(tL (dP MU).2.1 [] (jB (dP MU).1) nm inp (k:Int)).1=A at *;generalize(tL (dP MU).2.1 [] (jB (dP MU).1) nm inp ((k:Int)+1000)).1=B at *;generalize(dP MU).2.1.length=nF at *;go_wp2_with fail;refine(HP.o _).mono ?_;rintro e w4 ⟨rfl,rfl⟩;go_wp2_with fail;refine(kD.o _).mono ?_;rintro e w4 ⟨rfl,rfl⟩;clear HP kD Q9;go_wp2_with fail;refine HR.o.mono ?_;rintro e w5 ⟨vL,rfl,hL,hN5,hnext⟩;obtain⟨oL,cL,KM,_⟩:=hL.view;subst KM;have Q8:=ai (hnext (w5.alloc (.cells (mK A (.slice oL A.log.length cL)) 34)) aj);have iT:af (ak (w5.alloc (.cells (mK A (.slice oL A.log.length cL)) 34)) w5.heap.size (mK A (.slice oL A.log.length cL)) 34):=ak.new w5 _ _;have HL5:af (Sl (w5.alloc (.cells (mK A (.slice oL A.log.length cL)) 34)) 22 1 (.slice oL A.log.length cL) A.log.length (Qy A.log)):=hL.ag ((aa.refl ae _).alloc _) (λ_ _=>id);clear hL hN5 hnext HR y0;unfold mK at Q8 iT HL5 ⊢;go_wp2_with fail;refine Q8.o.mono ?_;rintro e w7 ⟨vL2,rfl,hL2,hN7,t7⟩;obtain⟨oL2,cL2,aos,_⟩:=hL2.view;subst aos;have TB:=ai (iT.o.eG t7 (by decide));have HL7:=ai (HL5.o.eG t7 (by decide));have an9:=ai hL2;have HN7:=ai (dh.o.trans hN7);clear hL2 hN7 t7 Q8 iT HL5;go_upto_region 16 with fail;have hmin:min (inp.size:Int) 32=((min inp.size 32:Nat):Int):=by omega
  rw[hmin];have hsA:(strOf A.inp).size=min inp.size 32:=(akn _).trans HF1.o.inp;have hsB:(strOf B.inp).size=min inp.size 32:=(akn _).trans ZH.o.inp;have hz32:min inp.size 32<=32:=by omega
  have huA:=HF1.o.used;have huB:=ZH.o.used;have hlA:=HF1.o.log;have htA:=HF1.o.trap;have m8:aa ae w7 (w7.alloc (.cells #[.int .i64 B.trap,.string (T B.fn),.int .i64 B.slot,.int .u64 B.r0,.string (strOf B.inp),.slice oL2 B.log.length cL2,.int .i64 B.used] 34)):=aj;have HBz:af (ak (w7.alloc (.cells #[.int .i64 B.trap,.string (T B.fn),.int .i64 B.slot,.int .u64 B.r0,.string (strOf B.inp),.slice oL2 B.log.length cL2,.int .i64 B.used] 34)) w7.heap.size #[.int .i64 B.trap,.string (T B.fn),.int .i64 B.slot,.int .u64 B.r0,.string (strOf B.inp),.slice oL2 B.log.length cL2,.int .i64 B.used] 34):=ak.new w7 _ _;have HBy:=ai (TB.o.ag m8 id);have HLy:=ai (HL7.o.ag m8 (λ_ _=>id));have HLz:=ai (an9.o.ag m8 (λ_ _=>id));have uF:=ai (HN7.o.trans m8);clear m8 hmin TB HL7 an9 HN7;generalize w7.alloc (.cells #[.int .i64 B.trap,.string (T B.fn),.int .i64 B.slot,.int .u64 B.r0,.string (strOf B.inp),.slice oL2 B.log.length cL2,.int .i64 B.used] 34)=W at *;generalize w7.heap.size=G2 at *;generalize w5.heap.size=G1 at *;generalize min inp.size 32=sz at *;by_cases ht:A.trap=1
  ·obtain⟨hu,hr⟩:=HF1.o.ou ht;rw[ht,hu,hr]at HBy;generalize strOf A.inp=sA at *;generalize strOf B.inp=sB at *;generalize A.log.length=nA at *;generalize B.used=uB at *;have x0:W.cell? ⟨G1,0,none⟩=some (.int .i64 1):=HBy.o.cell 0;have x3:W.cell? ⟨G1,3,none⟩=some (.int .u64 0):=HBy.o.cell 3;have x4:W.cell? ⟨G1,4,none⟩=some (.string sA):=HBy.o.cell 4;have x5:W.cell? ⟨G1,5,none⟩=some (.slice oL nA cL):=HBy.o.cell 5;have x6:W.cell? ⟨G1,6,none⟩=some (.int .i64 k):=HBy.o.cell 6;have z4:W.cell? ⟨G2,4,none⟩=some (.string sB):=HBz.o.cell 4;have z6:W.cell? ⟨G2,6,none⟩=some (.int .i64 uB):=HBz.o.cell 6;clear HBy HBz HLy HLz HF1 ZH V9;go_wp2_with fail;go_ret;exact⟨rfl,uF.o⟩
  ·have hBA:=V9.o ht;subst hBA;have HLG:=ai (λ(wx:tW) (m:aa ae W wx)=>amS (HLy.o.ag m (λ_ _=>id)));have HLH:=ai (λ(wx:tW) (m:aa ae W wx)=>amS (HLz.o.ag m (λ_ _=>id)));have GM:=ai (λ(wx:tW) (m:aa ae W wx)=>(HBy.o.ag m id).cell 5);have HC2:=ai (λ(wx:tW) (m:aa ae W wx)=>(HBz.o.ag m id).cell 5);have t1:decide ((B.trap:Int)=1)=false:=by simp;omega
   have t2:((B.trap:Int)==1)=false:=by simp;omega
   generalize strOf B.inp=sB at *;generalize hlg:B.log=lg at *;generalize B.used=uB at *;generalize B.trap=tB at *;generalize B.r0=rB at *;generalize B.slot=slB at *;generalize T B.fn=fB at *;have x0:W.cell? ⟨G1,0,none⟩=some (.int .i64 tB):=HBy.o.cell 0;have x1:W.cell? ⟨G1,1,none⟩=some (.string fB):=HBy.o.cell 1;have x2:W.cell? ⟨G1,2,none⟩=some (.int .i64 slB):=HBy.o.cell 2;have x3:W.cell? ⟨G1,3,none⟩=some (.int .u64 rB):=HBy.o.cell 3;have x4:W.cell? ⟨G1,4,none⟩=some (.string sB):=HBy.o.cell 4;have x5:W.cell? ⟨G1,5,none⟩=some (.slice oL lg.length cL):=HBy.o.cell 5;have x6:W.cell? ⟨G1,6,none⟩=some (.int .i64 uB):=HBy.o.cell 6;have z0:W.cell? ⟨G2,0,none⟩=some (.int .i64 tB):=HBz.o.cell 0;have z1:W.cell? ⟨G2,1,none⟩=some (.string fB):=HBz.o.cell 1;have z2:W.cell? ⟨G2,2,none⟩=some (.int .i64 slB):=HBz.o.cell 2;have z3:W.cell? ⟨G2,3,none⟩=some (.int .u64 rB):=HBz.o.cell 3;have z4:W.cell? ⟨G2,4,none⟩=some (.string sB):=HBz.o.cell 4;have z5:W.cell? ⟨G2,5,none⟩=some (.slice oL2 lg.length cL2):=HBz.o.cell 5;have z6:W.cell? ⟨G2,6,none⟩=some (.int .i64 uB):=HBz.o.cell 6;clear HBy HBz HLy HLz HF1 ZH V9 ht hlg huB;go_upto_region 20 with fail;go_upto_region 22 with fail;clear x0 x1 x2 x3 x4 x6 z0 z1 z2 z3 z4 z6 t1 t2;go_wp2_with fail;go_loopg [20] 21 (λq iv wx=>∃i:Nat,iv=.int .i64 i/\aa ae W wx/\i<=lg.length/\q=21-i)
   case atStart=>exact⟨0,rfl,ax,Nat.zero_le _,rfl⟩
   case round =>
    obtain⟨i,rfl,hm,hi,rfl⟩:=hrel;have NI:=ai hm;clear hm x5 z5;have x5:wr.cell? ⟨G1,5,none⟩=some (.slice oL lg.length cL):=GM.o wr NI.o;have z5:wr.cell? ⟨G2,5,none⟩=some (.slice oL2 lg.length cL2):=HC2.o wr NI.o;by_cases hlt:i<lg.length
    ·obtain⟨gA,rfl,a0⟩:=HLG.o wr NI.o i hlt;obtain⟨gB,rfl,b0⟩:=HLH.o wr NI.o i hlt;generalize lg[i]=ni at *;clear HLG HLH GM HC2;go_upto_region 25 with fail;go_quiet (fail);have HMq:af (aa ae W (wr.drewN nq)):=NI.o.trans (ax.drewN nq);generalize wr.drewN nq=wq at *;go_wp2_with fail;go_roundg (21-(i+1))
     case measure=>omega
     case rel=>exact⟨i+1,by go_num,HMq.o,by omega,rfl⟩
    ·go_wp2_with fail;go_ret;exact⟨rfl,uF.o.trans NI.o⟩
theorem anQ(w:tW)(hW:sV w)(hE:Env w)(hM:mE w)(MU:tLB)(hi:MU.length<=maxLen)(inp:tBA)(hs:inp.size<=9223372036854775807)(fuel which:Int)(d0:-9223372036854775808<=fuel)(d1:fuel<=9223372036854775807)(v0:-9223372036854775808<=which)(v1:which<=9223372036854775807):Calls Tryz.prog 6 #[.string (T MU),.string inp,.int .i64 fuel,.int .i64 which] w λe w'=>e=.returned (.bool true)/\aa ae w w':=by
 cases hD:(dP MU).2.2.bad with
 |true =>
  refine alp w (amR w hW hE hM) (T MU) (λw1 m=>?_) inp fuel which;rcases akZ w1 (hW.ag m) MU hi with h|h
  ·exact h.2
  ·rw[hD]at h;exact absurd h.1 (by decide)
 |false=>exact ak6 w (amR w hW hE hM) MU hD (λw1 m=>ajF w1 (hW.ag m) MU hi hD) inp hs fuel which d0 d1 v0 v1
theorem aoK:ownKnob Tryz.prog.godebug=none:=by kernel_rfl
theorem aoE:laidOutB Tryz.prog=true:=by kernel_rfl
theorem aow:Tryz.f6.params=#[9,9,3,3]:=by kernel_rfl
theorem aov{W:tW}(hL:laidMetH Tryz.prog Rows.fencedRow.laid W):laidMet Tryz.prog Rows.fencedRow.laid W:=by
 have hf:(Rows.fencedRow.laid.filter λx=>x.2.handleName?.isSome)=[]:=by rfl
 unfold laidMetH at hL;rw[hf]at hL;exact hL
theorem aoB{W:tW}(hL:laidMet Tryz.prog Rows.fencedRow.laid W):Env W:=by
 obtain ⟨g, t, cs, fuel, p, hg', ht', hvar, hd⟩ := Lib.laidMet.reads hL (n := "internal/strconv.uint64pow10") (d := Rows.laid_internal_strconv_uint64pow10) (by simp [Rows.fencedRow])
 obtain rfl := Option.some.inj ((show Tryz.prog.globalNamed "internal/strconv.uint64pow10" = some 4 by kernel_rfl).symm.trans hg')
 obtain rfl:=Option.some.inj ((show(Tryz.prog.globals[4]?).map (·.type)=some 398 by kernel_rfl).symm.trans ht');have hd2:DataW.trod (λ_=>()) Tryz.prog W 0 (λ_=>true) false fuel 398 cs.toList=some (Lib.tabData .u64 Lib.pow10Tab,p):=hd;unfold Env Lib.TabIs;rw[hvar,<-Lib.cells_of_tab Tryz.underlying398 Tryz.underlying22 (by kernel_rfl) (by kernel_rfl) hd2]
theorem aoA{W:tW}(hL:laidMet Tryz.prog Rows.fencedRow.laid W):sV W:=by
 obtain ⟨g, t, cs, fuel, p, hg', ht', hvar, hd⟩ := Lib.laidMet.reads hL (n := "spool/ops.sizeWords") (d := Rows.laid_spool_ops_sizeWords) (by simp [Rows.fencedRow])
 have hg : Tryz.prog.globalNamed "spool/ops.sizeWords" = some 0 := by kernel_rfl
 obtain rfl:=Option.some.inj (hg.symm.trans hg');obtain rfl:=Option.some.inj ((show(Tryz.prog.globals[0]?).map (·.type)=some 224 by kernel_rfl).symm.trans ht');have hc1:Tryz.prog.cellsOf 9=1:=by kernel_rfl
 have key:∀i,i<4->∀b:tLB,([DataW.lit (.string [49]),.lit (.string [50]),.lit (.string [52]),.lit (.string [56])]:List (DataW Unit))[i]?=some (.lit (.string b))->W.cell? ⟨0,i,none⟩=some (.string (T b)):=λi hi b hb=>by
  obtain⟨fuel',d,q,hds,hf⟩:=Lib.array_elem Tryz.underlying224 hd i hi;rw[hb]at hds;cases hds;rw[hc1,Nat.mul_one]at hf;obtain⟨s',h,hx,hs⟩:=DataW.trod_string Tryz.underlying9 hf
  have h1:cs[i]?=some (.string s'):=by
   have h2:=congrArg (λl=>l[0]?) h
   simpa using h2
  have h3:T b=s':=by
   have:b=s'.data.toList:=by
    have h4:=congrArg Prod.fst hx
    simpa using h4
   rw[this];apply ByteArray.ext;simp[T]
  rw[h3,<-h1]
  simpa using World.var?_cell hg hvar i
 exact⟨key 0 (by omega) _ rfl,key 1 (by omega) _ rfl,key 2 (by omega) _ rfl,key 3 (by omega) _ rfl⟩
def aoG:DataW Unit->List Value
 |.lit (.int k z)=>[.int k z]
 |.lit (.string b)=>[.string ⟨b.toArray⟩]
 |_=>[]
def aoH:DataW Unit->List Value
 |.agg l=>l.flatMap aoG
 |d=>aoG d
def aoI:DataW Unit->List Value
 |.agg l=>l.flatMap aoH
 |d=>aoH d
def aoF(d:DataW Unit):Obj->Obj
 |.cells _ t fr=>.cells (aoI d).toArray t fr
 |o=>o
def aou(P:Program)(os:Os):tW:={World.holding P os ⟨#[],#[],[]⟩with heap:=Rows.fencedRow.laid.foldl (λh x=>h.modify ((P.globalNamed x.1).getD 0) (aoF x.2)) (World.holding P os ⟨#[],#[],[]⟩).heap}
theorem aox(os:Os)(args:tAV):laidMetH Tryz.prog Rows.fencedRow.laid ((aou Tryz.prog os).forCall (λ_ _=>0) ⟨#[],args,[]⟩).memory :=
 laidMetH_of_parts (laidMet_of_run' 8 (by kernel_rfl) (by kernel_rfl)) (by kernel_rfl)
theorem aoJ{W:tW}(h:W.ShapedOpen Tryz.prog):mE W:=by
 obtain⟨cs,hh,hs,hr⟩:=h.1 1 #[.int .i64 0] 3 (of_decide_eq_true (by kernel_rfl)) (by kernel_rfl);obtain⟨ts,hts,_,hall⟩:=hr (by kernel_rfl);rw[show Tryz.prog.cellTypes Tryz.prog.depth 3=some [3] by kernel_rfl]at hts;cases hts;have h1:0<cs.size:=by rw[hs];decide
 obtain⟨u,hu',hok⟩:=hall 0 cs[0] (by simp[h1]);have:u=3:=by simpa using hu'.symm
 subst this;have hcell:W.cell? ⟨1,0,none⟩=some cs[0]:=by simp[World.cell?,hh,h1]
 unfold mE;rw[hcell];unfold Cell.ok at hok;rw[Tryz.underlying3]at hok;cases hv:cs[0]<;>rw[hv]at hok<;>first |(obtain⟨rfl,_⟩:=hok;exact⟨_,rfl⟩)|simp at hok
theorem aoC(H:Type)(enc:TypeId×Value->H)(W:tW)(base:Nat)(args:tAV)(ds gs:List (DataW H))(before:List MemPlace)(afJ:W.ShapedOpen Tryz.prog)(hval:∀(j:Nat) t v,Tryz.f6.params[j]?=some t->args[j]?=some v->Value.okWide Tryz.prog W .any base t v) (hW:DataW.Whole enc Tryz.prog Tryz.f6.params.toList Rows.fencedSpec.vars false W args.toList ds gs before) (hL:laidMetH Tryz.prog Rows.fencedRow.laid W):Calls Tryz.prog 6 args W λe W'=>∃v,e=.returned v/\Rows.fencedSpec.post enc Tryz.prog Tryz.f6 false true false false W args v W':=by
 have hW':=hW;obtain⟨p,q,hA0,hV0,rfl,hfz,hnd⟩:=hW;have hA:DataW.TrodAll enc Tryz.prog W 0 (λ_=>true) true Tryz.f6.params.toList args.toList ds p:=hA0;have hV:DataW.TrodVars enc Tryz.prog W (λ_=>true) [] gs q:=hV0;rw[aow]at hA hval;obtain⟨v0,v1,v2,v3,d0,d1,d2,d3,p0,p1,p2,p3,rfl,rfl,rfl,t0,t1,t2,t3⟩:=trodAll_four hA
 obtain⟨rfl,rfl⟩:gs=[]/\q=[]:=by
  cases gs with
  |nil=>exact⟨rfl,hV⟩
  |cons g r=>exact absurd hV (by intro h;cases h)
 obtain⟨s,rfl,rfl,rfl,ws⟩:=open_string Tryz.underlying9 (hval 0 9 v0 rfl rfl) t0;obtain⟨inp,rfl,rfl,rfl,wi⟩:=open_string Tryz.underlying9 (hval 1 9 v1 rfl rfl) t1;obtain⟨fuel,rfl,rfl,rfl,wf0⟩:=open_int Tryz.underlying3 (hval 2 3 v2 rfl rfl) t2;obtain⟨which,rfl,rfl,rfl,wf1⟩:=open_int Tryz.underlying3 (hval 3 3 v3 rfl rfl) t3;have hmin:IntKind.i64.min=-9223372036854775808:=by decide
 have hmax:IntKind.i64.max=9223372036854775807:=by decide
 have hr0:-9223372036854775808<=fuel/\fuel<=9223372036854775807:=by simp[Lit.wf]at wf0;omega
 have hr1:-9223372036854775808<=which/\which<=9223372036854775807:=by simp[Lit.wf]at wf1;omega
 have e1:Rows.fencedSpec.fn H ([.lit (.string s.data.toList),.lit (.string inp.data.toList),.lit (.int .i64 fuel),.lit (.int .i64 which)]++[])={results:=[.lit (.bool true)],args:=[.lit (.string s.data.toList),.lit (.string inp.data.toList),.lit (.int .i64 fuel),.lit (.int .i64 which)]}:=by simp[Rows.fencedSpec]
 have hs:T s.data.toList=s:=by apply ByteArray.ext;simp[T]
 have hC:Calls Tryz.prog 6 #[.string s,.string inp,.int .i64 fuel,.int .i64 which] W λe w'=>e=.returned (.bool true)/\aa ae W w':=by have:=anQ W (aoA (aov hL)) (aoB (aov hL)) (aoJ afJ) s.data.toList (by have:=ws;rw[<-hs,bG]at this;exact this) inp (by have:=wi;unfold maxLen at this;omega) fuel which hr0.1 hr0.2 hr1.1 hr1.2;rw[hs]at this;exact this
 refine hC.mono λe W' ⟨he,m⟩=>?_;subst he;refine⟨_,rfl,_,_,_,[],[],[],hW',?_,?_,?_,?_,λh=>by cases h⟩
 ·rw[e1];exact trodAll_mk1 (shut_bool Tryz.underlying4 true)
 ·rw[e1];exact trodAll_mk4 (shut_string Tryz.underlying9 ws) (shut_string Tryz.underlying9 wi) (shut_int Tryz.underlying3 wf0) (shut_int Tryz.underlying3 wf1)
 ·rw[e1];rfl
 ·exact m.below.frame _
theorem aoy(os:Os)(started:os.Started)(H:Type)(enc:TypeId×Value->H):ReturnsInHanded {} Tryz.checked os 6 .any (λw args=>(Rows.fencedSpec.pre enc Tryz.prog Tryz.f6 [] false w args/\laidMetH Tryz.prog Rows.fencedRow.laid w)/\sizedMet enc Tryz.prog Tryz.f6 (OpenSpec.ofChange Rows.fencedSpec) false w args) (Rows.fencedSpec.post enc Tryz.prog Tryz.f6 false true false false):=by
 refine returnsInHanded_of_calls (C:=Tryz.checked) aoK started (by kernel_rfl) ?_ ?_
 ·exact ChangeSpec.witness_at (enc:=enc) (C:=Tryz.checked) (os:=os) (X:=λw _=>laidMetH Tryz.prog Rows.fencedRow.laid w) false (aou Tryz.prog os) #[.string ⟨#[]⟩,.string ⟨#[]⟩,.int .i64 0,.int .i64 0] 8 rfl (by kernel_rfl) (by kernel_rfl) (by kernel_rfl) (by kernel_rfl) (by kernel_rfl) (aox os _)
 intro w tape i _ hsh _ hok hpre _;obtain⟨_,_,_,fn',hfn',_,_,_,_,hval⟩:=hok;obtain rfl:fn'=Tryz.f6:=Option.some.inj (hfn'.symm.trans Tryz.func6);obtain⟨⟨⟨ds,gs,before,hw,_⟩,hx⟩,hz⟩:=hpre;have hw':=DataW.Whole.of_heap (w':=w.forCall tape i) (by rfl) hw;refine(aoC H enc (w.forCall tape i) w.heap.size i.args ds gs before hsh hval hw' (hx.of_heap (by rfl))).mono λe W' ⟨v,he,hp⟩=>?_;subst he;exact ChangeSpec.post_blind hp
