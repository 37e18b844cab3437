import Derived.Test.YthnphhgpfedeeaaGreatDoorCR31
import Derived.Test.YthnphhgpfedeeaaGreatDoorCR32
import Derived.Test.YthnphhgpfedeeaaGreatDoorCR02
namespace Go.Proofs.YthnphhgpfedeeaaGreatDoor
open Go.RowKit Tryz
open Go.RowKit Go.Sort
open _root_.Array renaming length_toList->ca
open Lib renaming compareBytes->ab
open List renaming length_map->al,getElem_mem->ao,drop_eq_getElem_cons->ba,set_getElem_self->bh,getElem_append_right->bj,getElem_map->bt,map_append->b5,cons_lt_cons_iff->b9,take_add_one->cw,ext_getElem->cx
open Nat renaming le_of_lt->an,zero_le->ar,zero_add->cb,le_trans->cj,lt_of_lt_of_le->cq
set_option linter.all false
set_option maxRecDepth 100000
set_option maxHeartbeats 2000000
theorem Hr{α:Type}(f:α->α)(l:List α)(j:Nat)(h:j<l.length)(y:α)(hy:y=f l[j]):((l.take j).map f++l.drop j).set j y=(l.take (j+1)).map f++l.drop (j+1):=by
 have e:j=((l.take j).map f).length:=by simp;omega
 rw[List.set_append_right _ _ (by rw[<-e];exact Nat.le_refl _),<-e,Nat.sub_self,ba h,List.set_cons_zero,cw,b5,List.append_assoc];simp[h,hy]
def CR(mn fn:List tBA)(fs:List aS)(i:Nat):List aS:=(fs.take i).map (aS.linked mn fn)++fs.drop i
def nH(mn fn:List tBA)(code:List PI)(j:Nat):List PI:=(code.take j).map (PI.linked mn fn)++code.drop j
theorem tF(mn fn:List tBA)(code:List PI)(j:Nat)(h:j<=code.length):(nH mn fn code j).length=code.length:=by simp[nH];omega
theorem Fj(mn fn:List tBA)(code:List PI)(j:Nat)(h:j<code.length):(nH mn fn code j)[j]'(by rw[tF _ _ _ _ (by omega)];exact h)=code[j]:=by unfold nH;rw[bj (by simp;omega)];simp[Nat.min_eq_left (an h)]
theorem Ht(mn fn:List tBA)(code:List PI)(j:Nat)(h:j<code.length):(nH mn fn code j).set j (PI.linked mn fn code[j])=nH mn fn code (j+1):=Hr _ code j h _ rfl
theorem Ub(mn fn:List tBA)(code:List PI):nH mn fn code code.length=code.map (PI.linked mn fn):=by simp[nH]
theorem zS(mn fn:List tBA)(fs:List aS)(i:Nat)(h:i<=fs.length):(CR mn fn fs i).length=fs.length:=by simp[CR];omega
theorem Uc(mn fn:List tBA)(fs:List aS)(i:Nat)(h:i<fs.length):(CR mn fn fs i)[i]'(by rw[zS _ _ _ _ (by omega)];exact h)=fs[i]:=by unfold CR;rw[bj (by simp;omega)];simp[Nat.min_eq_left (an h)]
theorem XT(mn fn:List tBA)(fs:List aS)(i:Nat)(h:i<fs.length):(CR mn fn fs i).set i (aS.linked mn fn fs[i])=CR mn fn fs (i+1):=Hr _ fs i h _ rfl
theorem XU(mn fn:List tBA)(fs:List aS):CR mn fn fs fs.length=fs.map (aS.linked mn fn):=by simp[CR]
def fT(fs:List aS)(i:Nat):aS:=fs[i]?.getD ⟨[],[]⟩
theorem Fl(fs:List aS)(i:Nat)(h:i<fs.length):fT fs i=fs[i]:=by simp[fT,h]
def gi(mn fn:List tBA)(fs:List aS)(i j:Nat):List aS:=(CR mn fn fs i).set i ⟨(fT fs i).name,nH mn fn (fT fs i).code j⟩
theorem Bz(mn fn:List tBA)(fs:List aS)(i j:Nat)(h:i<=fs.length):(gi mn fn fs i j).length=fs.length:=by rw[gi,List.length_set,zS _ _ _ _ h]
theorem Hu(mn fn:List tBA)(fs:List aS)(i j:Nat)(_h:i<fs.length)(h2:i<(gi mn fn fs i j).length):(gi mn fn fs i j)[i]=⟨(fT fs i).name,nH mn fn (fT fs i).code j⟩:=by simp only[gi,List.getElem_set_self]
theorem PN(mn fn:List tBA)(fs:List aS)(i:Nat)(h:i<fs.length):gi mn fn fs i 0=CR mn fn fs i:=by
 have e:(⟨(fT fs i).name,nH mn fn (fT fs i).code 0⟩:aS)=(CR mn fn fs i)[i]'(by rw[zS _ _ _ _ (by omega)];exact h):=by rw[Uc _ _ _ _ h,Fl _ _ h];simp[nH]
 rw[gi,e,bh]
theorem Ud(mn fn:List tBA)(fs:List aS)(i:Nat)(h:i<fs.length):gi mn fn fs i (fT fs i).code.length=CR mn fn fs (i+1):=by rw[gi,Ub,Fl _ _ h,<-XT _ _ _ _ h];rfl
theorem PO(mn fn:List tBA)(fs:List aS)(i:Nat):(CR mn fn fs i).map (·.name)=fs.map (·.name):=by unfold CR;rw[b5,List.map_map];have:((λx:aS=>x.name)∘aS.linked mn fn)=(λx=>x.name):=rfl;rw[this,<-b5,List.take_append_drop]
theorem KD(mn fn:List tBA)(fs:List aS)(i j:Nat)(h:i<fs.length):(gi mn fn fs i j).map (·.name)=fs.map (·.name):=by
 rw[gi,List.map_set,PO];have e:(fT fs i).name=(fs.map (·.name))[i]'(by simpa using h):=by rw[Fl _ _ h,bt]
 rw[e,bh]
theorem ui.Ue{wT w:tW}{bs:List Nat}{vM vF:Value}{ms:List az}{mn fn:List tBA}{fs:List aS}{vs:List Value}{i j:Nat}(h:ui wT w bs vM vF ms (gi mn fn fs i j) vs)(hi:i<fs.length)(hv:i<vs.length){g n c:Nat}(he:vs[i]=.slice (some ⟨g,0,none⟩) n c)(hj:j<(fT fs i).code.length) (z:Int) (hz:CQ mn fn (fT fs i).code[j]=z):ui wT (w.setCell ⟨g,j*8+4,none⟩ (.int .i32 z)) bs vM vF ms (gi mn fn fs i (j+1)) vs:=by
 have hi2:i<(gi mn fn fs i j).length:=by rw[Bz _ _ _ _ _ (by omega)];exact hi
 have hg:=Hu mn fn fs i j hi hi2;have hj2:j<(gi mn fn fs i j)[i].code.length:=by rw[hg];show j<(nH mn fn (fT fs i).code j).length;rw[tF _ _ _ _ (by omega)];exact hj
 have key:=h.num i hi2 hv he j hj2 z
 have e:(gi mn fn fs i j).set i ⟨(gi mn fn fs i j)[i].name,(gi mn fn fs i j)[i].code.set j {(gi mn fn fs i j)[i].code[j]with num:=z}⟩=gi mn fn fs i (j+1):=by
  have e2:(⟨(gi mn fn fs i j)[i].name,(gi mn fn fs i j)[i].code.set j {(gi mn fn fs i j)[i].code[j]with num:=z}⟩:aS)=⟨(fT fs i).name,nH mn fn (fT fs i).code (j+1)⟩:=by
   have e3:(gi mn fn fs i j)[i].code[j]=(fT fs i).code[j]:=by
    have:∀(l:List PI) (hl:j<l.length),l=nH mn fn (fT fs i).code j->l[j]=(fT fs i).code[j]:=λl hl e=>by subst e;exact Fj mn fn _ j hj
    exact this _ hj2 (by rw[hg])
   rw[e3];have e4:({(fT fs i).code[j]with num:=z}:PI)=PI.linked mn fn (fT fs i).code[j]:=by unfold PI.linked;rw[hz]
   rw[e4,hg];exact congrArg (aS.mk _) (Ht mn fn _ j hj)
  rw[e2];unfold gi;rw[List.set_set]
 rwa [e]at key
theorem PQ(mn fn:List tBA)(fs:List aS)(i j:Nat)(hj:j<(fT fs i).code.length)(hz:CQ mn fn (fT fs i).code[j]=(fT fs i).code[j].num):gi mn fn fs i (j+1)=gi mn fn fs i j:=by
 have e4:PI.linked mn fn (fT fs i).code[j]=(nH mn fn (fT fs i).code j)[j]'(by rw[tF _ _ _ _ (by omega)];exact hj):=by rw[Fj mn fn _ j hj];unfold PI.linked;rw[hz]
 unfold gi;rw[<-Ht mn fn _ j hj,e4,bh]
theorem ui.codeL{wT w:tW}{bs:List Nat}{vM vF:Value}{ms:List az}{mn fn:List tBA}{fs:List aS}{vs:List Value}{i j:Nat}(h:ui wT w bs vM vF ms (gi mn fn fs i j) vs)(hi:i<fs.length)(hv:i<vs.length)(hj:j<=(fT fs i).code.length):Sl w 138 8 vs[i] (fT fs i).code.length (eu bs (nH mn fn (fT fs i).code j)):=by
 have hi2:i<(gi mn fn fs i j).length:=by rw[Bz _ _ _ _ _ (by omega)];exact hi
 have:=h.code i hi2 hv;rw[Hu mn fn fs i j hi hi2]at this;have e:(⟨(fT fs i).name,nH mn fn (fT fs i).code j⟩:aS).code.length=(fT fs i).code.length:=tF mn fn _ j hj;rw[e]at this;exact this
theorem ui.slices{wT w:tW}{bs:List Nat}{vM vF:Value}{ms:List az}{fs:List aS}{vs:List Value}(h:ui wT w bs vM vF ms fs vs):∀x∈(fs.map (·.name)).zip vs,∃o n c,x.2=.slice o n c:=by intro x hx;obtain⟨i,hi,rfl⟩:=List.getElem_of_mem hx;rw[List.length_zip,al]at hi;obtain⟨o,c,e,_⟩:=(h.code i (by omega) (by omega)).view;rw[List.getElem_zip];exact⟨o,_,c,e⟩
theorem DB{vs:List Value}(names:List tLB)(h:vs.length=names.length):(names.zip vs).map (λx=>T x.1)=names.map T:=by rw[show(λx:tLB×Value=>T x.1)=T∘Prod.fst from rfl,<-List.map_map,List.map_fst_zip (by omega)]
theorem ui.aen{wT w:tW}{bs:List Nat}{vM vF:Value}{ms:List az}{fs:List aS}{vs:List Value}(h:ui wT w bs vM vF ms fs vs)(hl:fs.length<=1000)(nm:tBA):Calls prog 85 #[.agg #[vM,vF],.string nm] w λe w'=>e=.returned (.int .i64 (placeM nm ((fs.map (·.name)).map T)))/\aa ae w w':=by
 obtain⟨oM,cM,hM,_⟩:=h.maps.view;have hz:((fs.map (·.name)).zip vs).length=fs.length:=by rw[List.length_zip,al,h.len,Nat.min_self]
 have:=Hg w nm ((fs.map (·.name)).zip vs) h.slices vM vF oM ms.length cM hM (by rw[hz];exact h.rows) (by rw[hz];exact hl)
 rwa [DB _ (by rw[al];exact h.len)]at this
theorem ui.kI{wT w:tW}{bs:List Nat}{vM vF:Value}{ms:List az}{fs:List aS}{vs:List Value}(h:ui wT w bs vM vF ms fs vs)(hl:ms.length<=1000)(nm:tBA):Calls prog 86 #[.agg #[vM,vF],.string nm] w λe w'=>e=.returned (.int .i64 (placeM nm (ms.map (λx=>T x.name))))/\aa ae w w':=by obtain⟨oF,cF,hF,_⟩:=h.rows.view;exact TS w nm ms vM vF oF _ cF hF h.maps hl
theorem BA{w:tW}{bs:List Nat}{mn fn:List tBA}{code:List PI}{v:Value}{j:Nat}(h:Sl w 138 8 v code.length (eu bs (nH mn fn code j))){o:Option Addr}{c:Nat}(hv:v=.slice o code.length c)(hj:j<code.length):∃g,o=some ⟨g,0,none⟩/\w.cell? ⟨g,j*8,none⟩=some (.pointer (some ⟨bs[code[j].k]?.getD 0,0,none⟩))/\w.cell? ⟨g,j*8+1,none⟩=some (.int .u8 code[j].d)/\w.cell? ⟨g,j*8+2,none⟩=some (.int .u8 code[j].s) /\ w.cell? ⟨g,j*8+3,none⟩=some (.int .i16 code[j].jump)/\w.cell? ⟨g,j*8+4,none⟩=some (.int .i32 code[j].num)/\w.cell? ⟨g,j*8+5,none⟩=some (.int .i32 code[j].high)/\w.cell? ⟨g,j*8+6,none⟩=some (.string ByteArray.empty)/\w.cell? ⟨g,j*8+7,none⟩=some (.string (T code[j].name))/\w.frozen? ⟨g,j*8+4,none⟩=false:=by
 have hlen:=tF mn fn code j (by omega);have hj2:j<(nH mn fn code j).length:=by omega
 obtain⟨g,rfl,hg,y0,y1,y2,y3,y4,y5,y6,y7⟩:=kZ h hlen.symm hv j hj2;have e:(nH mn fn code j)[j]=code[j]:=Fj mn fn code j hj;rw[e]at y0 y1 y2 y3 y4 y5 y7;obtain⟨o',c',hv',h2⟩:=h.view;rw[hv]at hv';cases hv';obtain⟨g',cs,e2,hb,_⟩:=h2 (by omega);cases e2;exact⟨g,rfl,y0,y1,y2,y3,y4,y5,y6,y7,hb.frozen _⟩
structure Bx(w:tW)(B X:Nat)(cs cX:tAV):Prop where
 b:ak w B cs 90
 x:ak w X cX 90
theorem Bx.cell{w:tW}{B X:Nat}{cs cX:tAV}(h:Bx w B X cs cX)(i:Nat):w.cell? ⟨B,i,none⟩=cs[i]?:=h.b.cell i
theorem Bx.alloc{w:tW}{B X:Nat}{cs cX:tAV}(h:Bx w B X cs cX)(o:Obj):Bx (w.alloc o) B X cs cX:=⟨h.b.alloc o,h.x.alloc o⟩
theorem Bx.ag{w w':tW}{B X:Nat}{cs cX:tAV}(h:Bx w B X cs cX)(m:aa ae w w')(_:¬ae B):Bx w' B X cs cX:=⟨h.b.ag m id,h.x.ag m id⟩
theorem Bx.setOther{w:tW}{B X:Nat}{cs cX:tAV}(h:Bx w B X cs cX){a:Addr}(h1:a.block≠B)(h2:a.block≠X)(v:Value):Bx (w.setCell a v) B X cs cX:=⟨h.b.setOther h1 v,h.x.setOther h2 v⟩
theorem PS(wT w:tW)(tv:Value)(bs:List Nat)(hT:aH 0 wT tv bs aq)(vM vF:Value)(ms:List az)(fs:List aS)(vs:List Value)(hP:ui wT w bs vM vF ms fs vs)(hm:ms.length<=1000)(hf:fs.length<=1000)(hok:∀f∈fs,f.code.length<=1000/\∀x∈f.code,eU x)(mn fn:List tBA) (hmn:mn=ms.map (λx=>T x.name)) (hfn:fn=(fs.map (·.name)).map T) (X:Nat) (cX:tAV) (hX:ak w X cX 90):Calls prog 49 #[.agg #[vM,vF]] w λe w'=>e=.returned (.tuple #[])/\ui wT w' bs vM vF ms (fs.map (aS.linked mn fn)) vs/\ak w' X cX 90:=by
 obtain⟨oM,cM,yR,_⟩:=hP.maps.view;obtain⟨oF,cF,jZ,_⟩:=hP.rows.view;subst yR jZ;have HT:=ai hT;have uH:=ai hok
 have ZB:af (ui wT (w.alloc (.cells #[.slice oM ms.length cM,.slice oF fs.length cF] 90)) bs (.slice oM ms.length cM) (.slice oF fs.length cF) ms (CR mn fn fs 0) vs):=by
  have e:CR mn fn fs 0=fs:=by simp[CR]
  rw[e];exact hP.quiet aj
 have HB0:af (Bx (w.alloc (.cells #[.slice oM ms.length cM,.slice oF fs.length cF] 90)) w.heap.size X #[.slice oM ms.length cM,.slice oF fs.length cF] cX):=⟨ak.new _ _ _,hX.alloc _⟩
 have hvl:vs.length=fs.length:=hP.len;have HVL:=ai hvl;have KC:=ai hfn;have HMN:=ai hmn;clear hP hT hok hmn hfn hvl hX;go_enter func49,ntmps49;go_wp2_with fail;generalize w.alloc (.cells #[.slice oM ms.length cM,.slice oF fs.length cF] 90)=wB at *;generalize w.heap.size=B at *;go_loopg [9] fs.length (λg iv wx=>∃i:Nat,iv=.int .i64 i/\ui wT wx bs (.slice oM ms.length cM) (.slice oF fs.length cF) ms (CR mn fn fs i) vs/\Bx wx B X #[.slice oM ms.length cM,.slice oF fs.length cF] cX/\i<=fs.length/\g=fs.length-i)
 case atStart=>exact⟨0,rfl,ZB.o,HB0.o,ar _,rfl⟩
 case round =>
  obtain⟨i,rfl,hpw,hbw,hil,rfl⟩:=hrel;have XM:=ai hpw;have HBr:=ai hbw;clear hpw hbw ZB HB0;by_cases hi:i<fs.length
  ·have CP:i<vs.length:=by rw[HVL.o];exact hi
   have qQ:af (ui wT wr bs (.slice oM ms.length cM) (.slice oF fs.length cF) ms (gi mn fn fs i 0) vs):=by rw[af,PN mn fn fs i hi];exact XM.o
   have pF:=qQ.o.codeL hi CP (ar _);obtain⟨oC,cC,hvi,_⟩:=pF.view;have hfl:(CR mn fn fs i).length=fs.length:=zS mn fn fs i hil
   obtain⟨gF,hoF,c0,c1⟩:∃gF,oF=some ⟨gF,0,none⟩/\wr.cell? ⟨gF,i*2,none⟩=some (.string (T fs[i].name))/\wr.cell? ⟨gF,i*2+1,none⟩=some vs[i]:=by
    have hr:=XM.o.ppr HT.o;have:=We.TI (oF:=oF) (cF:=cF) (by rw[hfl];exact hr) i (by rw[hfl];exact hi) CP
    rwa [Uc mn fn fs i hi]at this
   subst hoF;rw[hvi]at c1;have ZM:=ai hvi;have ach:af ((fT fs i).code.length<=1000/\∀x∈(fT fs i).code,eU x):=by rw[af,Fl _ _ hi];exact uH.o fs[i] (ao hi)
   have hcl:=ach.o.1;have nD:af (gi mn fn fs i (fT fs i).code.length=CR mn fn fs (i+1)):=Ud mn fn fs i hi;clear pF hvi hfl XM;generalize T fs[i].name=nm at *;obtain⟨cl,aaE⟩:∃cl,cl=(fT fs i).code.length:=⟨_,rfl⟩
   have XV:=ai aaE;rw[<-aaE]at c1 hcl;clear aaE;go_wp2_with fail;have ZH:af (ak (wr.alloc (.cells #[.string nm,.slice oC cl cC] 96)) wr.heap.size #[.string nm,.slice oC cl cC] 96):=ak.new _ _ _;have HB2:af (Bx (wr.alloc (.cells #[.string nm,.slice oC cl cC] 96)) B X #[.slice oM ms.length cM,.slice (some ⟨gF,0,none⟩) fs.length cF] cX):=HBr.o.alloc _;have kD:af (ui wT (wr.alloc (.cells #[.string nm,.slice oC cl cC] 96)) bs (.slice oM ms.length cM) (.slice (some ⟨gF,0,none⟩) fs.length cF) ms (gi mn fn fs i 0) vs):=qQ.o.quiet aj;generalize wr.alloc (.cells #[.string nm,.slice oC cl cC] 96)=w1 at *;generalize wr.heap.size=F at *;clear c0 c1 qQ HBr;go_loopg [16] cl (λg iv wx=>∃j:Nat,iv=.int .i64 j/\ui wT wx bs (.slice oM ms.length cM) (.slice (some ⟨gF,0,none⟩) fs.length cF) ms (gi mn fn fs i j) vs/\ak wx F #[.string nm,.slice oC cl cC] 96/\Bx wx B X #[.slice oM ms.length cM,.slice (some ⟨gF,0,none⟩) fs.length cF] cX/\j<=cl/\g=cl-j)
   case atStart=>exact⟨0,rfl,kD.o,ZH.o,HB2.o,ar _,rfl⟩
   case round =>
    obtain⟨j,rfl,hpw,hfw,hbw,hjl,rfl⟩:=hrel;have JW:=ai hpw;have HFW:=ai hfw;have Du:=ai hbw;clear hpw hfw hbw kD ZH HB2;by_cases hj:j<cl
    ·have HJ:af (j<(fT fs i).code.length):=by rw[af,<-XV.o];exact hj
     have hjj:=HJ.o;obtain⟨g,hoC,y0,y1,y2,y3,y4,y5,y6,y7,y8⟩:=BA (JW.o.codeL hi CP (an HJ.o)) ZM.o HJ.o;subst hoC;have z1:wr.cell? ⟨F,1,none⟩=some (.slice (some ⟨g,0,none⟩) cl cC):=HFW.o.cell 1;have hx:=ach.o.2 (fT fs i).code[j] (ao HJ.o);have HAT:af (∀w',aa ae wr w'->bY w' (bs[(fT fs i).code[j].k]?.getD 0) (fT fs i).code[j].o):=λw' m=>jI (HT.o.ag (JW.o.md.trans m)) (fT fs i).code[j] hx.k;have hrf:(if(fT fs i).code[j].s=1 then(fT fs i).code[j].o.aO else 0)<=1000:=by have:=hx.refs;split<;>omega
     have JF:af (CQ mn fn (fT fs i).code[j]=if(if(fT fs i).code[j].s=1 then(fT fs i).code[j].o.aO else 0)=1 then placeM (T (fT fs i).code[j].name) fn else if(if(fT fs i).code[j].s=1 then(fT fs i).code[j].o.aO else 0)=2 then placeM (T (fT fs i).code[j].name) mn else(fT fs i).code[j].num):=rfl;have aci:af (CQ mn fn (fT fs i).code[j]=(fT fs i).code[j].num->gi mn fn fs i (j+1)=gi mn fn fs i j):=PQ mn fn fs i j HJ.o;have HG7:af (∀w',aa ae wr w'->w'.cell? ⟨g,j*8+7,none⟩=some (.string (T (fT fs i).code[j].name))/\w'.cell? ⟨g,j*8+4,none⟩=some (.int .i32 (fT fs i).code[j].num)/\w'.frozen? ⟨g,j*8+4,none⟩=false):=λw' m=>by obtain⟨g',e,_,_,_,_,x4,_,_,x7,x8⟩:=BA ((JW.o.quiet m).codeL hi CP (an HJ.o)) ZM.o HJ.o;cases e;exact⟨x7,x4,x8⟩
     have zy:af (some g≠some F):=(JW.o.codeL hi CP (an HJ.o)).au HFW.o (by decide)∘(λe=>by rw[ZM.o];exact e);have HNB:af (some g≠some B):=(JW.o.codeL hi CP (an HJ.o)).au Du.o.b (by decide)∘(λe=>by rw[ZM.o];exact e);have Q8:af (some g≠some X):=(JW.o.codeL hi CP (an HJ.o)).au Du.o.x (by decide)∘(λe=>by rw[ZM.o];exact e);have HFX:af (∀w',aa ae wr w'->Calls prog 85 #[.agg #[.slice oM ms.length cM,.slice (some ⟨gF,0,none⟩) fs.length cF],.string (T (fT fs i).code[j].name)] w' λe w2=>e=.returned (.int .i64 (placeM (T (fT fs i).code[j].name) fn))/\aa ae w' w2):=λw' m=>by have:=(JW.o.quiet m).aen (by rw[Bz _ _ _ _ _ hil];exact hf) (T (fT fs i).code[j].name);rw[KD _ _ _ _ _ hi,<-KC.o]at this;exact this
     have HMX:af (∀w',aa ae wr w'->Calls prog 86 #[.agg #[.slice oM ms.length cM,.slice (some ⟨gF,0,none⟩) fs.length cF],.string (T (fT fs i).code[j].name)] w' λe w2=>e=.returned (.int .i64 (placeM (T (fT fs i).code[j].name) mn))/\aa ae w' w2):=λw' m=>by have:=(JW.o.quiet m).kI hm (T (fT fs i).code[j].name);rw[<-HMN.o]at this;exact this
     have hpf:-1<=placeM (T (fT fs i).code[j].name) fn/\placeM (T (fT fs i).code[j].name) fn<1001:=by
      have:=lG (T (fT fs i).code[j].name) fn;have e:fn.length=fs.length:=by rw[KC.o,al,al]
      omega
     have hpm:-1<=placeM (T (fT fs i).code[j].name) mn/\placeM (T (fT fs i).code[j].name) mn<1001:=by
      have:=lG (T (fT fs i).code[j].name) mn;have e:mn.length=ms.length:=by rw[HMN.o,al]
      omega
     rw[<-XV.o]at ZM nD;clear hx;generalize(fT fs i).code[j].o=o at *;generalize(fT fs i).code[j].jump=jmp at *;generalize(fT fs i).code[j].d=xd at *;generalize(fT fs i).code[j].s=xs at *;generalize(fT fs i).code[j].num=xn at *;generalize(fT fs i).code[j].high=xh at *;generalize placeM (T (fT fs i).code[j].name) fn=pf at *;generalize placeM (T (fT fs i).code[j].name) mn=pm at *;generalize T (fT fs i).code[j].name=xm at *;generalize bs[(fT fs i).code[j].k]?.getD 0=b at *;have AY:af (∀w',aa ae wr w'->Calls prog 84 #[.agg #[.pointer (some ⟨b,0,none⟩),.int .u8 xd,.int .u8 xs,.int .i16 jmp,.int .i32 xn,.int .i32 xh,.string ByteArray.empty,.string xm]] w' λe w2=>e=.returned (.int .i64 ((if xs=1 then o.aO else 0:Nat):Int))/\aa ae w' w2):=λw' m=>jJ w' b o (HAT.o w' m) xd xs xn xh jmp _ xm;generalize(if xs=1 then o.aO else 0)=rf at *;go_wp2_with fail;refine(AY.o _ ax).mono ?_;rintro e W ⟨rfl,m5⟩;have Uf:=ai (JW.o.quiet m5);have Ug:=ai (HFW.o.ag m5 id);have Fm:=ai (Du.o.ag m5 id);have Hw:af (∀w',aa ae W w'->w'.cell? ⟨g,j*8+7,none⟩=some (.string xm)/\w'.cell? ⟨g,j*8+4,none⟩=some (.int .i32 xn)/\w'.frozen? ⟨g,j*8+4,none⟩=false):=λw' m=>HG7.o w' (m5.trans m);have aeo:af (∀w',aa ae W w'->Calls prog 85 #[.agg #[.slice oM ms.length cM,.slice (some ⟨gF,0,none⟩) fs.length cF],.string xm] w' λe w2=>e=.returned (.int .i64 pf)/\aa ae w' w2):=λw' m=>HFX.o w' (m5.trans m);have aep:af (∀w',aa ae W w'->Calls prog 86 #[.agg #[.slice oM ms.length cM,.slice (some ⟨gF,0,none⟩) fs.length cF],.string xm] w' λe w2=>e=.returned (.int .i64 pm)/\aa ae w' w2):=λw' m=>HMX.o w' (m5.trans m);clear m5 y0 y1 y2 y3 y4 y5 y6 y7 y8 z1 AY HAT JW HFW Du HG7 HFX HMX;by_cases h1:rf=1
     ·subst h1;generalize pf=pl at *;have HNM:af (CQ mn fn (fT fs i).code[j]=pl):=by rw[af,JF.o];rfl
      go_upto_region 10 with fail
      refine jl [.inl (.pointer (some ⟨g,j*8,none⟩)),.inl (.agg #[.slice oM ms.length cM,.slice (some ⟨gF,0,none⟩) fs.length cF]),.inl (.pointer (some ⟨g,j*8,none⟩)),.inl (.pointer (some ⟨g,j*8,none⟩)),.inl (.pointer (some ⟨g,j*8+7,none⟩)),.inl (.string xm),.inl (.int .i64 pl),.inl (.int .i32 pl),.inl (.pointer (some ⟨g,j*8,none⟩)),.inl (.pointer (some ⟨g,j*8+4,none⟩)),.inr (λ_ _ w'=>∃w1,aa ae W w1/\aa ae (w1.setCell ⟨g,j*8+4,none⟩ (.int .i32 pl)) w')]
       (λL w'=>L 10=false->aa ae W w') (λi w1 w2=>i≠10->aa ae w1 w2) (by kernel_rfl) (by kernel_rfl) (by kernel_rfl) (λ_=>aJ) ?_ ?_ (.inr (λ_ _ _=>ax)) ?_
      ·intro jj s hs i L v w1 w2 hn hj n hr;refine jD (N:=λi w1 w2=>i≠10->aa ae w1 w2) (show pR _ _ _ 0 _ from ?_) jj s hs i L v w1 w2 hn (by rw[cb];exact hj) n hr;refine⟨λi L u w1 w2 hn hk n ⟨w3,m3,m4⟩=>⟨w3,m3,m4.trans (n (λe=>?_))⟩,trivial⟩;subst e;rw[hn.1]at hk;cases hk
      ·intro i L w1 w2 hn hC n h10;by_cases e:i=10
       ·subst e;simp[gK]at h10
       ·exact(hC (by simpa [gK,Ne.symm e]using h10)).trans (n e)
      refine bS rfl (λL w' hN hC _ K hK=>?_) ?_
      ·go_big_op;exact hK _ _ _ rfl (λ_=>ax) rfl
      simp only[Act.put,sA9,sB9,sC9];refine bS rfl (λL w' hN hC _ K hK=>?_) ?_
      ·have hm:=hC (hN.2 10 _ rfl (by decide));have e0:w'.cell? ⟨B,0,none⟩=some (.slice oM ms.length cM):=(Fm.o.ag hm id).cell 0;have e1:w'.cell? ⟨B,1,none⟩=some (.slice (some ⟨gF,0,none⟩) fs.length cF):=(Fm.o.ag hm id).cell 1;go_big_op;exact hK _ _ _ rfl (λ_=>ax) rfl
      simp only[Act.put,sA9,sB9,sC9]
      iterate 3 (refine bS rfl (λL w' hN hC _ K hK=>?_) ?_;(· go_big_op;exact hK _ _ _ rfl (λ_=>ax) rfl);simp only[Act.put,sA9,sB9,sC9])
      refine bS rfl (λL w' hN hC _ K hK=>?_) ?_
      ·have hm:=hC (hN.2 10 _ rfl (by decide));have e1:w'.cell? ⟨g,j*8+7,none⟩=some (.string xm):=(Hw.o w' hm).1;go_big_op;exact hK _ _ _ rfl (λ_=>ax) rfl
      simp only[Act.put,sA9,sB9,sC9];refine bS rfl (λL w' hN hC _ K hK=>?_) ?_
      ·have hm:=hC (hN.2 10 _ rfl (by decide));go_big_op;refine(aeo.o w' hm).mono ?_;rintro e w2 ⟨rfl,m2⟩;exact hK _ _ _ rfl (λ_=>m2) rfl
      simp only[Act.put,sA9,sB9,sC9]
      iterate 3 (refine bS rfl (λL w' hN hC _ K hK=>?_) ?_;(· go_big_op;exact hK _ _ _ rfl (λ_=>ax) rfl);simp only[Act.put,sA9,sB9,sC9])
      refine lK rfl (λL w' hN hC _ K hK=>?_) (λx10=>?_)
      ·have hm:=hC hN.1;have e1:=(Hw.o w' hm).2.1;have e2:=(Hw.o w' hm).2.2;go_big_op;exact hK _ _ (.int .i64 0) rfl (λh=>absurd rfl h) ⟨w',hm,ax⟩
      simp only[Act.put];refine wI (λL w' hL hC hA=>?_);obtain⟨w8,m8,m9⟩:∃w1,aa ae W w1/\aa ae (w1.setCell ⟨g,j*8+4,none⟩ (.int .i32 pl)) w':=wJ hA 10;have Jr:af (ui wT w' bs (.slice oM ms.length cM) (.slice (some ⟨gF,0,none⟩) fs.length cF) ms (gi mn fn fs i (j+1)) vs):=((Uf.o.quiet m8).Ue hi CP ZM.o HJ.o pl HNM.o).quiet m9;have KC:af (ak w' F #[.string nm,.slice (some ⟨g,0,none⟩) cl cC] 96):=((Ug.o.ag m8 id).setOther (λe=>zy.o (congrArg some e)) _).ag m9 id;have TV:af (Bx w' B X #[.slice oM ms.length cM,.slice (some ⟨gF,0,none⟩) fs.length cF] cX):=((Fm.o.ag m8 id).setOther (λe=>HNB.o (congrArg some e)) (λe=>Q8.o (congrArg some e)) _).ag m9 id;clear m8 m9 hA hC hL Uf Ug Fm Hw
      try simp only[Exit.then]
      go_wp2_with fail;go_roundg (cl-(j+1))
      case measure=>omega
      case rel=>exact⟨j+1,by go_num,Jr.o,KC.o,TV.o,by omega,rfl⟩
     ·have t1:decide ((rf:Int)=1)=false:=by simp;omega
      have t2:((rf:Int)==1)=false:=by simp;omega
      by_cases h2:rf=2
      ·subst h2;generalize pm=pl at *;have HNM:af (CQ mn fn (fT fs i).code[j]=pl):=by rw[af,JF.o];rfl
       go_upto_region 12 with fail
       refine jl [.inl (.pointer (some ⟨g,j*8,none⟩)),.inl (.agg #[.slice oM ms.length cM,.slice (some ⟨gF,0,none⟩) fs.length cF]),.inl (.pointer (some ⟨g,j*8,none⟩)),.inl (.pointer (some ⟨g,j*8,none⟩)),.inl (.pointer (some ⟨g,j*8+7,none⟩)),.inl (.string xm),.inl (.int .i64 pl),.inl (.int .i32 pl),.inl (.pointer (some ⟨g,j*8,none⟩)),.inl (.pointer (some ⟨g,j*8+4,none⟩)),.inr (λ_ _ w'=>∃w1,aa ae W w1/\aa ae (w1.setCell ⟨g,j*8+4,none⟩ (.int .i32 pl)) w')]
        (λL w'=>L 10=false->aa ae W w') (λi w1 w2=>i≠10->aa ae w1 w2) (by kernel_rfl) (by kernel_rfl) (by kernel_rfl) (λ_=>aJ) ?_ ?_ (.inr (λ_ _ _=>ax)) ?_
       ·intro jj s hs i L v w1 w2 hn hj n hr;refine jD (N:=λi w1 w2=>i≠10->aa ae w1 w2) (show pR _ _ _ 0 _ from ?_) jj s hs i L v w1 w2 hn (by rw[cb];exact hj) n hr;refine⟨λi L u w1 w2 hn hk n ⟨w3,m3,m4⟩=>⟨w3,m3,m4.trans (n (λe=>?_))⟩,trivial⟩;subst e;rw[hn.1]at hk;cases hk
       ·intro i L w1 w2 hn hC n h10;by_cases e:i=10
        ·subst e;simp[gK]at h10
        ·exact(hC (by simpa [gK,Ne.symm e]using h10)).trans (n e)
       refine bS rfl (λL w' hN hC _ K hK=>?_) ?_
       ·go_big_op;exact hK _ _ _ rfl (λ_=>ax) rfl
       simp only[Act.put,sA9,sB9,sC9];refine bS rfl (λL w' hN hC _ K hK=>?_) ?_
       ·have hm:=hC (hN.2 10 _ rfl (by decide));have e0:w'.cell? ⟨B,0,none⟩=some (.slice oM ms.length cM):=(Fm.o.ag hm id).cell 0;have e1:w'.cell? ⟨B,1,none⟩=some (.slice (some ⟨gF,0,none⟩) fs.length cF):=(Fm.o.ag hm id).cell 1;go_big_op;exact hK _ _ _ rfl (λ_=>ax) rfl
       simp only[Act.put,sA9,sB9,sC9]
       iterate 3 (refine bS rfl (λL w' hN hC _ K hK=>?_) ?_;(· go_big_op;exact hK _ _ _ rfl (λ_=>ax) rfl);simp only[Act.put,sA9,sB9,sC9])
       refine bS rfl (λL w' hN hC _ K hK=>?_) ?_
       ·have hm:=hC (hN.2 10 _ rfl (by decide));have e1:w'.cell? ⟨g,j*8+7,none⟩=some (.string xm):=(Hw.o w' hm).1;go_big_op;exact hK _ _ _ rfl (λ_=>ax) rfl
       simp only[Act.put,sA9,sB9,sC9];refine bS rfl (λL w' hN hC _ K hK=>?_) ?_
       ·have hm:=hC (hN.2 10 _ rfl (by decide));go_big_op;refine(aep.o w' hm).mono ?_;rintro e w2 ⟨rfl,m2⟩;exact hK _ _ _ rfl (λ_=>m2) rfl
       simp only[Act.put,sA9,sB9,sC9]
       iterate 3 (refine bS rfl (λL w' hN hC _ K hK=>?_) ?_;(· go_big_op;exact hK _ _ _ rfl (λ_=>ax) rfl);simp only[Act.put,sA9,sB9,sC9])
       refine lK rfl (λL w' hN hC _ K hK=>?_) (λx10=>?_)
       ·have hm:=hC hN.1;have e1:=(Hw.o w' hm).2.1;have e2:=(Hw.o w' hm).2.2;go_big_op;exact hK _ _ (.int .i64 0) rfl (λh=>absurd rfl h) ⟨w',hm,ax⟩
       simp only[Act.put];refine wI (λL w' hL hC hA=>?_);obtain⟨w8,m8,m9⟩:∃w1,aa ae W w1/\aa ae (w1.setCell ⟨g,j*8+4,none⟩ (.int .i32 pl)) w':=wJ hA 10;have Jr:af (ui wT w' bs (.slice oM ms.length cM) (.slice (some ⟨gF,0,none⟩) fs.length cF) ms (gi mn fn fs i (j+1)) vs):=((Uf.o.quiet m8).Ue hi CP ZM.o HJ.o pl HNM.o).quiet m9;have KC:af (ak w' F #[.string nm,.slice (some ⟨g,0,none⟩) cl cC] 96):=((Ug.o.ag m8 id).setOther (λe=>zy.o (congrArg some e)) _).ag m9 id;have TV:af (Bx w' B X #[.slice oM ms.length cM,.slice (some ⟨gF,0,none⟩) fs.length cF] cX):=((Fm.o.ag m8 id).setOther (λe=>HNB.o (congrArg some e)) (λe=>Q8.o (congrArg some e)) _).ag m9 id;clear m8 m9 hA hC hL Uf Ug Fm Hw
       try simp only[Exit.then]
       go_wp2_with fail;go_roundg (cl-(j+1))
       case measure=>omega
       case rel=>exact⟨j+1,by go_num,Jr.o,KC.o,TV.o,by omega,rfl⟩
      ·have t3:decide ((rf:Int)=2)=false:=by simp;omega
       have t4:((rf:Int)==2)=false:=by simp;omega
       have Jr:af (ui wT W bs (.slice oM ms.length cM) (.slice (some ⟨gF,0,none⟩) fs.length cF) ms (gi mn fn fs i (j+1)) vs):=by rw[af,aci.o (by rw[JF.o,iN9 h1,iN9 h2])];exact Uf.o
       clear h1 h2;go_wp2_with fail;go_roundg (cl-(j+1))
       case measure=>omega
       case rel=>exact⟨j+1,by go_num,Jr.o,Ug.o,Fm.o,by omega,rfl⟩
    ·obtain rfl:j=cl:=by omega
     have Jr:af (ui wT wr bs (.slice oM ms.length cM) (.slice (some ⟨gF,0,none⟩) fs.length cF) ms (CR mn fn fs (i+1)) vs):=by rw[af,<-nD.o,<-XV.o];exact JW.o
     go_wp2_with fail;go_roundg (fs.length-(i+1))
     case measure=>omega
     case rel=>exact⟨i+1,by go_num,Jr.o,Du.o,by omega,rfl⟩
  ·obtain rfl:i=fs.length:=by omega
   have Kz:af (ui wT wr bs (.slice oM ms.length cM) (.slice oF fs.length cF) ms (fs.map (aS.linked mn fn)) vs):=by rw[af,<-XU];exact XM.o
   go_wp2_with fail;go_end0;exact⟨rfl,Kz.o,HBr.o.x⟩
section
variable {α : Type} [Inhabited α]
theorem vP(enc:α->List Value)(k:Nat)(hk:∀x,(enc x).length=k)(l:List α):(flatK enc k l.toArray).toList=l.flatMap enc:=by
 have hl:(l.flatMap enc).length=l.length*k:=by
  induction l with
  |nil=>simp
  |cons x l ih=>rw[List.flatMap_cons,List.length_append,ih,hk,List.length_cons,Nat.succ_mul,Nat.add_comm]
 refine cx (by rw[ca,size_flatK,hl];rfl) λt h1 h2=>?_;have ht:t<l.length*k:=by rw[<-hl];exact h2
 have k0:0<k:=by
  rcases Nat.eq_zero_or_pos k with h|h
  ·subst h;simp at ht
  ·exact h
 have hi:t/k<l.length:=Nat.div_lt_of_lt_mul (by rw[Nat.mul_comm];exact ht);have hc:=Nat.mod_lt t k0;have e:=flat_get enc k hk l (t/k) (t%k) hi hc;rw[Nat.div_add_mod' t k,List.getElem?_eq_getElem h2]at e;have e1:(flatK enc k l.toArray).toList[t]=(flatK enc k l.toArray)[t]!:=by rw[getElem!_pos (flatK enc k l.toArray) t (by simpa using h1)];simp
 rw[e1,get_flatK enc k l.toArray t (by simpa using ht)];have e2:l.toArray[t/k]! = l[t/k]:=by rw[getElem!_pos l.toArray (t/k) (by simpa using hi)];simp
 rw[e2];have e3:(enc l[t/k])[t%k]?=some (enc l[t/k])[t%k]!:=by rw[getElem!_pos (enc l[t/k]) (t%k) (by rw[hk];exact hc),List.getElem?_eq_getElem (by rw[hk];exact hc)]
 rw[e3]at e;exact(Option.some.inj e).symm
theorem PT{d d':Array α}{n:Nat}(hn:n=d.size)(h:PermIn 0 n d d'):d'.toList.Perm d.toList:=by
 obtain⟨hs,_,hp⟩:=h;subst hn;have e1:(d'.extract 0 d.size).toList=d'.toList:=by rw[<-hs];simp
 have e2:(d.extract 0 d.size).toList=d.toList:=by simp
 rwa [e1,e2]at hp
theorem Hy{lt:α->α->Bool}{d:Array α}{n:Nat}(hn:n=d.size)(h:SortedIn lt 0 n d):d.toList.Pairwise (λx y=>lt y x=false):=by
 rw[List.pairwise_iff_getElem];intro i j hi hj hij;have:=h i j (ar _) hij (by rw[hn];simpa using hj);rw[getElem!_pos d i (by simpa using hi),getElem!_pos d j (by simpa using hj)]at this
 simpa using this
theorem Uh{w:tW}{g:Nat}{o:Obj}{os:Array Obj}(h:w.heap[g]?=some o):(grow w os).heap[g]?=some o:=by
 have hg:=(Array.getElem?_eq_some_iff.1 h).1;show(w.heap++os)[g]?=_
 rw[Array.getElem?_append_left hg,h]
theorem Fp{w:tW}{e:TypeId}(enc:α->List Value)(k:Nat)(hk:∀x,(enc x).length=k){g cap n:Nat}{l l':List α}(hl:l'.length=l.length)(hs:Sl w e k (.slice (some ⟨g,0,none⟩) l.length cap) l.length (l.flatMap enc))(os:Array Obj):Sl (sortWorldK enc k w g 0 n l'.toArray os) e k (.slice (some ⟨g,0,none⟩) l.length cap) l.length (l'.flatMap enc)/\aa (λb=>b=g) w (sortWorldK enc k w g 0 n l'.toArray os):=by
 have hF:=vP enc k hk l';have hFs:(flatK enc k l'.toArray).size=l.length*k:=by rw[size_flatK];simp[hl]
 have hlen:(l'.flatMap enc).length=l.length*k:=by rw[<-hF,ca,hFs]
 generalize flatK enc k l'.toArray=F at hF hFs;rcases hs.2 with⟨h,_⟩ |⟨g',cap',cur,h,h0,hg,hn,hm,hcs,ht⟩
 ·cases h
 cases h
 have hb:(sortWorldK enc k w g 0 n l'.toArray os).heap[g]?=some (.cells (putCells id 0 (flatK enc k l'.toArray) cur) e):=by
  refine Uh ?_;show(w.heap.modify g _)[g]?=_
  rw[Array.getElem?_modify,iP9 rfl,hg];rfl
 refine⟨⟨hlen,.inr ⟨g,cap,_,rfl,h0,hb,hn,hm,?_,?_⟩⟩,⟨rfl,rfl,rfl,?_,λb hb1 hb2=>?_⟩⟩
 ·unfold putCells;rw[Array.size_mapIdx,hcs]
 ·rw[<-vP enc k hk l'];have ae4:(flatK enc k l'.toArray).size=l.length*k:=by rw[size_flatK];simp[hl]
  have ae5:l.length*k<=cur.size:=by rw[hcs];exact Nat.mul_le_mul_right _ hn
  refine cx (by simp[putCells,hl];omega) λt h1 h2=>?_;have h3:t<(flatK enc k l'.toArray).size:=by simpa using h2
  rw[List.getElem_take];simp only[putCells,Array.getElem_toList,Array.getElem_mapIdx];rw[iP9 ⟨ar _,by omega⟩,Nat.sub_zero,getElem!_pos _ t h3];rfl
 ·show w.heap.size<=(w.heap.modify g _++os).size
  simp
 ·show(w.heap.modify g _++os)[b]?=_
  rw[Array.getElem?_append_left (by simpa using hb1),Array.getElem?_modify,iN9 (λe=>hb2 e.symm)]
theorem PU{w:tW}{e:TypeId}(enc:α->List Value)(k:Nat)(hk:∀x,(enc x).length=k){g cap:Nat}{l:List α}(hs:Sl w e k (.slice (some ⟨g,0,none⟩) l.length cap) l.length (l.flatMap enc)):HoldsK enc k w g 0 l.toArray/\g<w.heap.size:=by
 rcases hs.2 with⟨h',_⟩ |⟨g',cap',cs,h',_,hg,_,_,_,ht⟩
 ·cases h'
 cases h';have hb:ak w g cs e:=hg;refine⟨λj hj=>?_,hb.lt⟩;rw[cb];refine⟨?_,hb.frozen _⟩;have hj':j<l.length*k:=by rw[size_flatK]at hj;simpa using hj
 rw[aW hb ht j hj',<-vP enc k hk l,getElem!_pos _ j hj,List.getElem?_eq_getElem (by simpa using hj)];simp
theorem Mg{ρ:Go.Shelf.Ren}(L:SlLaysF0.n6 prog ρ)(k:Nat)(aE:∀w,(isAgg (ρ.t 24)).run prog w=.ok true w)(zE:∀w,(Go.sizeOf (ρ.t 24)).run prog w=.ok k w)(enc:α->List Value)(hk:∀x,(enc x).length=k)(h1:∀x,∀v∈enc x,v.oneCell'=true)(cf:α->α->Int)(hO:SWO (ltOf cf))(f:Nat)(eg:∀args w,(callFunc f args).run prog w=.ok (.enter f args) w) (hcmp:∀(w:tW) x y,Calls prog f #[.agg (enc x).toArray,.agg (enc y).toArray] w λe w'=>e=.returned (.int .i64 (cf x y))/\∃q os',w'=grow (w.drewN q) os')(w:tW) (e:TypeId) (v:Value) (l:List α) (g cap:Nat) (hv:v=.slice (some ⟨g,0,none⟩) l.length cap) (hl:l.length<=1000000) (hs:Sl w e k v l.length (l.flatMap enc)):Calls prog (ρ.f 6) #[v,.func (.func f) #[] #[]] w λr w'=>r=.returned (.tuple #[])/\∃l':List α,l'.Perm l/\l'.Pairwise (λx y=>ltOf cf y x=false)/\Sl w' e k v l'.length (l'.flatMap enc)/\aa (λb=>v.ownBlock=some b) w w':=by
 subst hv;obtain⟨hH,hg⟩:=PU enc k hk hs;have hcon:=AnyQ.slices_SortFunc L k aE zE enc hk h1 cf hO f #[] g 0 cap l.toArray w eg (λm os dk _ x y=>hcmp _ x y) hH hg (by simp;omega);refine hcon.mono ?_;rintro r w' ⟨rfl,d',n,os,hp,rq,rfl⟩;have hp':=PT rfl hp;have hs':=Hy (d:=d') (by rw[hp.1]) rq;have e1:d'.toList.length=l.length:=by rw[hp'.length_eq]
 obtain⟨hA,hB⟩:=Fp (n:=n) enc k hk (l':=d'.toList) e1 hs os;refine⟨rfl,d'.toList,by simpa using hp',hs',?_,?_⟩
 ·rw[e1];exact hA
 ·exact⟨hB.os,hB.tape,hB.output,hB.size,λb hb hn=>hB.block b hb (λe=>hn (by rw[e];rfl))⟩
end
def ZN(s:tBA)(l:List tBA):Bool:=l.any (λx=>decide (x=s))
theorem XW(s:tBA)(l:List tBA):ZN s l=true↔s∈l:=by
 unfold ZN;rw[List.any_eq_true];constructor
 ·rintro⟨x,hx,e⟩;have:x=s:=by simpa using e
  exact this ▸ hx
 ·exact λh=>⟨s,h,by simp⟩
def dupIn(seen:List tBA):List tBA->Bool
 |[]=>false
 |s::l=>if ZN s seen then true else dupIn (s::seen) l
def twiceP(i:Nat)(seen:List tBA):List (List tBA)->Int
 |[]=>-1
 |p::l=>if dupIn seen p then i else twiceP (i+1) (p.reverse++seen) l
theorem KE(seen l:List tBA)(i:Nat)(h:i<l.length):dupIn seen (l.drop i)=if ZN l[i] seen then true else dupIn (l[i]::seen) (l.drop (i+1)):=by rw[ba h,dupIn]
theorem Hz(seen:List tBA)(l:List (List tBA))(k:Nat)(h:k<l.length):twiceP k seen (l.drop k)=if dupIn seen l[k]then(k:Int)else twiceP (k+1) (l[k].reverse++seen) (l.drop (k+1)):=by rw[ba h,twiceP]
theorem H9{α:Type}(l:List α)(i:Nat)(h:i<l.length)(r:List α):(l.take (i+1)).reverse++r=l[i]::((l.take i).reverse++r):=by rw[cw,List.reverse_append];simp[h]
def jO(w:tW)(b:Nat)(seen:List tBA):Prop:=∃f,MapOf w b f/\∀s,(f s).isSome=true↔s∈seen
theorem jO.quiet{w w':tW}{b:Nat}{seen:List tBA}(h:jO w b seen)(m:aa ae w w'):jO w' b seen:=by obtain⟨f,h1,h2⟩:=h;exact⟨f,h1.ag m id,h2⟩
theorem jO.lookup{w:tW}{b:Nat}{seen:List tBA}(h:jO w b seen)(s:tBA):∃v,(Instr.lookup 105 (.map (some b)) (.string s) true).run prog w=.ok (.tuple #[v,.bool (ZN s seen)]) w:=by
 obtain⟨f,h1,h2⟩:=h;have e:(f s).isSome=ZN s seen:=by rw[Bool.eq_iff_iff,h2 s,XW]
 have:=h1.lookup (P:=prog) (t:=105) underlying105 underlying9 (zeroValue3 w) s;rw[e]at this;exact⟨_,this⟩
theorem jO.update{w:tW}{b:Nat}{seen:List tBA}(h:jO w b seen)(s:tBA)(u:Value):∃w',(Instr.mapUpdate 105 (.map (some b)) (.string s) u).run prog w=.ok () w'/\jO w' b (s::seen)/\aa (λk=>k=b) w w':=by
 obtain⟨f,h1,h2⟩:=h;obtain⟨w',hr,hm,md⟩:=h1.update (P:=prog) (t:=105) underlying105 underlying9 s u;refine⟨w',hr,⟨_,hm,λs'=>?_⟩,md⟩;by_cases c:s'=s
 ·simp[c]
 ·simp[c,h2 s']
theorem PW(w0 w:tW)(bs:List Nat)(v:Value)(ps:List bq)(hP:Parts w0 bs v ps w)(hpl:ps.length<=1000)(hfl:∀p∈ps,p.fs.length<=1000)(r:Int)(hr:r=twiceP 0 [] (ps.map (λp=>p.fs.map (λf=>T f.name)))):Calls prog 80 #[v] w λe w'=>e=.returned (.int .i64 r)/\aa ae w w':=by
 obtain⟨o,c,hvv,_⟩:=hP.sl.view;subst hvv;have HP:=ai hP;have Pq:=ai hfl;have HS0:af (jO (w.alloc (.map #[] 0)) w.heap.size []):=⟨_,MapOf.new w,λs=>by simp⟩
 have eX:af (aa ae w (w.alloc (.map #[] 0))):=aj;have HR:=ai hr;clear hP hfl hr;have hmm:=@run_makeMap prog;go_enter func80,ntmps80;go_wp2_with fail;clear hmm;generalize w.alloc (.map #[] 0)=wB at *;obtain⟨B,hB⟩:∃B,B=w.heap.size:=⟨_,rfl⟩
 have HB:af (w.heap.size<=B):=by rw[hB];exact Nat.le_refl _
 rw[<-hB]at HS0
 try rw[<-hB]
 clear hB;go_loopg [13] ps.length (λg iv wx=>∃(k:Nat) (seen:List tBA),iv=.int .i64 k/\aa ae w wx/\jO wx B seen/\r=twiceP k seen ((ps.map (λp=>p.fs.map (λf=>T f.name))).drop k)/\k<=ps.length/\g=ps.length-k)
 case atStart=>exact⟨0,[],rfl,eX.o,HS0.o,HR.o,ar _,rfl⟩
 case round =>
  obtain⟨k,seen,rfl,hmd,hse,hmi,hk,rfl⟩:=hrel;have nP:=ai hmd;have V6:=ai hse;have HMI:=ai hmi;clear hmd hmi hse HS0 eX;by_cases hkl:k<ps.length
  ·obtain⟨gP,rfl,c0,c1'⟩:=(HP.o.quiet nP.o).at k hkl;have Et:af (r=if dupIn seen (ps[k].fs.map (λf=>T f.name))then(k:Int)else twiceP (k+1) ((ps[k].fs.map (λf=>T f.name)).reverse++seen) ((ps.map (λp=>p.fs.map (λf=>T f.name))).drop (k+1))):=by rw[af,HMI.o,Hz seen _ k (by simpa using hkl),bt]
   have Md:af (∀w',aa ae wr w'->eV w' bs ps[k]):=λw' m=>(HP.o.quiet (nP.o.trans m)).each _ (ao hkl);have hfk:=Pq.o ps[k] (ao hkl);obtain⟨a1,a2,ha,_⟩:=(Md.o wr ax).maps.view;obtain⟨b1,b2,hb,_⟩:=(Md.o wr ax).fns.sl.view;rw[ha]at c0;rw[hb]at c1';have FP:af (∀w',aa ae w w'->pG w' ps[k].lo bs (.slice b1 ps[k].fs.length b2) ps[k].fs ps[k].vs):=λw' m=>by rw[<-hb];exact((HP.o.quiet m).each _ (ao hkl)).fns
   clear Md ha hb HMI;generalize ps[k].fs=fs at *;generalize ps[k].vs=vs at *;generalize ps[k].lo=lo at *;generalize ps[k].ms.length=zx at *;obtain⟨names,hnm⟩:∃names,names=fs.map (λf=>T f.name):=⟨_,rfl⟩
   have HNM:=ai hnm;have HNL:af (names.length=fs.length):=by rw[af,hnm,al]
   rw[<-hnm]at Et;clear hnm;go_wp2_with fail;have NI:af (aa ae w (wr.alloc (.cells #[.slice a1 zx a2,.slice b1 fs.length b2] 90))):=nP.o.alloc _;have HSr:af (jO (wr.alloc (.cells #[.slice a1 zx a2,.slice b1 fs.length b2] 90)) B seen):=V6.o.quiet aj;generalize wr.alloc (.cells #[.slice a1 zx a2,.slice b1 fs.length b2] 90)=w1 at *;generalize wr.heap.size=H1 at *;clear c0 c1' V6 nP;go_loopg [21] fs.length (λg iv wx=>∃i:Nat,iv=.int .i64 i/\aa ae w wx/\jO wx B ((names.take i).reverse++seen)/\dupIn seen names=dupIn ((names.take i).reverse++seen) (names.drop i)/\i<=fs.length/\g=fs.length-i)
   case atStart=>exact⟨0,rfl,NI.o,HSr.o,rfl,ar _,rfl⟩
   case round =>
    obtain⟨i,rfl,hmd,hse,hdu,hi,rfl⟩:=hrel;have dD:=ai hmd;have V6:=ai hse;have HDU:=ai hdu;clear hmd hse hdu NI HSr;by_cases hil:i<fs.length
    ·have Cw:=FP.o wr dD.o;have CP:i<vs.length:=by rw[Cw.len];exact hil
     obtain⟨gF,rfl,c0,c1'⟩:=Cw.TI i hil CP;obtain⟨oC,cC,hvc,_⟩:=(Cw.cd i hil CP).view;rw[hvc]at c1';have hin:i<names.length:=by rw[HNL.o];exact hil
     have HNi:af (names[i]=T fs[i].name):=by
      have:∀(l:List tBA) (h:i<l.length),l=fs.map (λf=>T f.name)->l[i]=T fs[i].name:=λl h e=>by subst e;rw[bt]
      exact this names hin HNM.o
     have HD2:af (dupIn seen names=if ZN (T fs[i].name) ((names.take i).reverse++seen)then true else dupIn ((names.take (i+1)).reverse++seen) (names.drop (i+1))):=by rw[af,HDU.o,KE _ _ i hin,HNi.o,H9 names i hin seen,HNi.o]
     have HS2:af (T fs[i].name::((names.take i).reverse++seen)=(names.take (i+1)).reverse++seen):=by rw[af,H9 names i hin seen,HNi.o]
     clear Cw hvc HNi;generalize T fs[i].name=nm at *;generalize fs[i].code.length=cl at *;have dw:af (aa ae wr (wr.alloc (.cells #[.string nm,.slice oC cl cC] 96))):=aj;have hF7:(wr.alloc (.cells #[.string nm,.slice oC cl cC] 96)).cell? ⟨wr.heap.size,0,none⟩=some (.string nm):=(ak.new wr #[.string nm,.slice oC cl cC] 96).cell 0;obtain⟨lv,hlk⟩:=(V6.o.quiet dw.o).lookup nm;by_cases KF:ZN nm ((names.take i).reverse++seen)=true
     ·rw[KF]at hlk;have Bv:af (r=k):=by rw[af,Et.o,HD2.o,iP9 KF];rfl
      have XQ:=ai (dD.o.trans dw.o);clear KF;go_wp2_with fail;go_ret;exact⟨dB Bv.o.symm,XQ.o⟩
     ·rw[Bool.not_eq_true]at KF;rw[KF]at hlk;obtain⟨w5,hup,hs5,m5⟩:=(V6.o.quiet dw.o).update nm (.int .i64 k);have iC:af (aa ae w w5):=(dD.o.trans dw.o).step m5 (λb hb e=>by have:=HB.o;omega);have GX:af (jO w5 B ((names.take (i+1)).reverse++seen)):=by rw[af,<-HS2.o];exact hs5
      have HD5:af (dupIn seen names=dupIn ((names.take (i+1)).reverse++seen) (names.drop (i+1))):=by rw[af,HD2.o,iN9 (by rw[KF];decide)]
      clear KF hs5 m5;go_wp2_with fail;go_roundg (fs.length-(i+1))
      case measure=>omega
      case rel=>exact⟨i+1,by go_num,iC.o,GX.o,HD5.o,by omega,rfl⟩
    ·obtain rfl:i=fs.length:=by omega
     have HE:af (dupIn seen names=false):=by have:=HDU.o;rw[<-HNL.o,List.drop_length]at this;exact this
     have GX:af (jO wr B (names.reverse++seen)):=by have:=V6.o;rw[<-HNL.o,List.take_length]at this;exact this
     have HMN:af (r=twiceP (k+1) (names.reverse++seen) ((ps.map (λp=>p.fs.map (λf=>T f.name))).drop (k+1))):=by rw[af,Et.o,iN9 (by rw[HE.o];decide)]
     go_wp2_with fail;go_roundg (ps.length-(k+1))
     case measure=>omega
     case rel=>exact⟨k+1,_,by go_num,dD.o,GX.o,HMN.o,by omega,rfl⟩
  ·obtain rfl:k=ps.length:=by omega
   have Kz:af (r=-1):=by rw[af,HMI.o,List.drop_eq_nil_of_le (by simp)];rfl
   go_wp2_with fail;go_ret;exact⟨by rw[Kz.o];rfl,nP.o⟩
def ZO(a b:az):Bool:=decide (a.name=b.name)&&(decide (a.key=b.key)&&(decide (a.value=b.value)&&decide (a.entries=b.entries)))
def clash(seen:List az)(m:az):Bool:=((seen.find? (λa=>decide (T a.name=T m.name))).map (λa=>!ZO a m)).getD false
def othIn(seen:List az):List az->Bool
 |[]=>false
 |m::l=>if clash seen m then true else othIn (m::seen) l
def otherP(i:Nat)(seen:List az):List (List az)->Int
 |[]=>-1
 |p::l=>if othIn seen p then i else otherP (i+1) (p.reverse++seen) l
theorem Mh:∀a b:tLB,decide (ab a b<0)=decide (a<b)
 |[],[]=>by simp[ab,List.lt_irrefl]
 |[],b::bs=>by simp[ab]
 |a::as',[]=>by simp[ab]
 |a::as',b::bs=>by
  unfold ab;by_cases h:a<b
  ·rw[iP9 h];simp[b9,h]
  ·rw[iN9 h];by_cases h2:b<a
   ·rw[iP9 h2];have h3:¬a=b:=λe=>by subst e;exact h h2
    simp[b9,h,h3]
   ·rw[iN9 h2];have h3:a=b:=by apply UInt8.toNat_inj.1;have h4:¬a.toNat<b.toNat:=λe=>h (UInt8.lt_iff_toNat_lt.2 e);have h5:¬b.toNat<a.toNat:=λe=>h2 (UInt8.lt_iff_toNat_lt.2 e);omega
    subst h3;rw[Mh as' bs];simp
section
variable {α : Type} (nm : α -> List UInt8)
def cfN(x y:α):Int:=ab (nm x) (nm y)
theorem ltN(x y:α):ltOf (cfN nm) x y=ji (T (nm x)) (T (nm y)):=by
 unfold ltOf cfN;rw[Mh,EZ];have e:∀l:tLB,(T l).toList=l:=λl=>by rw[ByteArray.toList_eq];simp[T]
 rw[e,e]
theorem acj:SWO (ltOf (cfN nm)) where
 irrefl x:=by rw[ltN];exact Bn _
 trans x y z h1 h2:=by rw[ltN]at *;exact yP h1 h2
 ntrans x y z h1 h2:=by rw[ltN]at *;exact Py h2 h1
end
theorem Mi(w:tW)(a b:tLB):Calls prog 153 #[.string (T a),.string (T b)] w λe w'=>e=.returned (.int .i64 (ab a b))/\w'=w:=by
 have h:=Any.strings_Compare lc (T a) (T b) w;have e:∀l:tLB,(T l).data.toList=l:=λl=>by simp[T]
 rw[e,e]at h;exact h
theorem Ia(w:tW):Calls prog 261 #[.int .u64 0] w λe w'=>e=.returned (.int .i64 0)/\w'=w:=by have h:=Any.bits_Len lb 0 w (by omega) (by omega);refine h.mono ?_;rintro e w' ⟨rfl,rfl⟩;exact⟨rfl,rfl⟩
theorem PX(w:tW)(a b:tLB)(x1 x2 x3 y1 y2 y3:Int):Calls prog 152 #[.agg #[.string (T a),.int .u8 x1,.int .u8 x2,.int .u8 x3],.agg #[.string (T b),.int .u8 y1,.int .u8 y2,.int .u8 y3]] w λe w'=>e=.returned (.int .i64 (ab a b))/\∃q os',w'=grow (w.drewN q) os':=by have hcon:=λW=>Mi W a b;generalize ab a b=r at *;generalize T a=ta at *;generalize T b=tb at *;go_enter func152,ntmps152;go_wp2_with fail;refine(hcon _).mono ?_;rintro e w' ⟨rfl,rfl⟩;go_wp2_with fail;go_ret;exact⟨rfl,0,_,by rw[alloc_eq_grow,alloc_eq_grow,grow_grow];rfl⟩
theorem PY(w:tW)(a b:tLB)(o1 o2:Option Addr)(n1 c1 n2 c2:Nat):Calls prog 155 #[.agg #[.string (T a),.slice o1 n1 c1],.agg #[.string (T b),.slice o2 n2 c2]] w λe w'=>e=.returned (.int .i64 (ab a b))/\∃q os',w'=grow (w.drewN q) os':=by have hcon:=λW=>Mi W a b;generalize ab a b=r at *;generalize T a=ta at *;generalize T b=tb at *;go_enter func155,ntmps155;go_wp2_with fail;refine(hcon _).mono ?_;rintro e w' ⟨rfl,rfl⟩;go_wp2_with fail;go_ret;exact⟨rfl,0,_,by rw[alloc_eq_grow,alloc_eq_grow,grow_grow];rfl⟩
structure bZ where
 f:aS
 o:Option Addr
 n:Nat
 c:Nat
def bZ.v(x:bZ):Value:=.slice x.o x.n x.c
def bZ.cells(x:bZ):List Value:=[.string (T x.f.name),.slice x.o x.n x.c]
theorem KG(w:tW)(v:Value)(l:List az)(g cap:Nat)(hv:v=.slice (some ⟨g,0,none⟩) l.length cap)(hl:l.length<=1000000)(hs:Sl w 100 4 v l.length (l.flatMap az.cells)):Calls prog 151 #[v,.func (.func 152) #[] #[]] w λr w'=>r=.returned (.tuple #[])/\∃l':List az,l'.Perm l/\l'.Pairwise (λx y=>ji (T y.name) (T x.name)=false)/\Sl w' 100 4 v l'.length (l'.flatMap az.cells)/\aa (λb=>v.ownBlock=some b) w w':=by
 have eg:∀args w,(callFunc 152 args).run prog w=.ok (.enter 152 args) w:=enters_of func152 (by kernel_rfl) rfl;have inh:Inhabited az:=⟨⟨[],0,0,0⟩⟩
 have h:=Mg soM 4 isAgg100 sizeOf100 az.cells (λ_=>rfl) (λx v hv=>by simp[az.cells]at hv;rcases hv with rfl|rfl|rfl|rfl<;>rfl) (cfN az.name) (acj _) 152 eg (λw x y=>PX w x.name y.name _ _ _ _ _ _) w 100 v l g cap hv hl hs;refine h.mono ?_;rintro r w' ⟨rfl,l',hp,hq,hs',hm⟩;exact⟨rfl,l',hp,hq.imp (fun{x y} e=>by rw[<-ltN az.name];exact e),hs',hm⟩
theorem KH(w:tW)(v:Value)(l:List bZ)(g cap:Nat)(hv:v=.slice (some ⟨g,0,none⟩) l.length cap)(hl:l.length<=1000000)(hs:Sl w 96 2 v l.length (l.flatMap bZ.cells)):Calls prog 154 #[v,.func (.func 155) #[] #[]] w λr w'=>r=.returned (.tuple #[])/\∃l':List bZ,l'.Perm l/\l'.Pairwise (λx y=>ji (T y.f.name) (T x.f.name)=false)/\Sl w' 96 2 v l'.length (l'.flatMap bZ.cells)/\aa (λb=>v.ownBlock=some b) w w':=by
 have eg:∀args w,(callFunc 155 args).run prog w=.ok (.enter 155 args) w:=enters_of func155 (by kernel_rfl) rfl;have inh:Inhabited bZ:=⟨⟨⟨[],[]⟩,none,0,0⟩⟩
 have h:=Mg soF 2 isAgg96 sizeOf96 bZ.cells (λ_=>rfl) (λx v hv=>by simp[bZ.cells]at hv;rcases hv with rfl|rfl<;>rfl) (cfN (λx:bZ=>x.f.name)) (acj _) 155 eg (λw x y=>PY w x.f.name y.f.name _ _ _ _ _ _) w 96 v l g cap hv hl hs;refine h.mono ?_;rintro r w' ⟨rfl,l',hp,hq,hs',hm⟩;exact⟨rfl,l',hp,hq.imp (fun{x y} e=>by rw[<-ltN (λx:bZ=>x.f.name)];exact e),hs',hm⟩
theorem Ui(w:tW)(f:Value)(hf:f=.func (.func 152) #[] #[]):Calls prog 303 #[.slice none 0 0,.int .i64 0,.int .i64 0,f] w λe w'=>e=.returned (.tuple #[])/\aa ae w w':=by
 subst hf;go_enter func303,ntmps303;go_wp2_with fail;go_loopg [8] 1 (λg iv wx=>iv=.int .i64 1/\aa ae w wx/\g=1)
 case atStart=>exact⟨rfl,ax,rfl⟩
 case round =>obtain⟨rfl,HM,rfl⟩:=hrel;go_wp2_with fail;go_end0;exact⟨rfl,HM⟩
theorem Uj(w:tW)(f:Value)(hf:f=.func (.func 152) #[] #[]):Calls prog 260 #[.slice none 0 0,.int .i64 0,.int .i64 0,.int .i64 0,f] w λe w'=>e=.returned (.tuple #[])/\aa ae w w':=by
 subst hf;go_enter func260,ntmps260;go_wp2_with fail;go_loopg [1,2,3] 1 (λg a b c wx=>a=.int .i64 0/\b=.int .i64 0/\c=.int .i64 0/\aa ae w wx/\g=1)
 case atStart=>exact⟨rfl,rfl,rfl,ax,rfl⟩
 case round =>obtain⟨rfl,rfl,rfl,HM,rfl⟩:=hrel;go_wp2_with fail;refine(Ui _ _ rfl).mono ?_;rintro e w2 ⟨rfl,m2⟩;go_wp2_with fail;refine bodyPost_ret (results_none rfl _ _ _) rfl ?_;exact⟨rfl,HM.trans m2⟩
theorem PZ(w:tW):Calls prog 151 #[.slice none 0 0,.func (.func 152) #[] #[]] w λe w'=>e=.returned (.tuple #[])/\aa ae w w':=by go_enter func151,ntmps151;go_wp2_with fail;refine(Ia _).mono ?_;rintro e w1 ⟨rfl,rfl⟩;go_wp2_with fail;refine(Uj _ _ rfl).mono ?_;rintro e w2 ⟨rfl,m2⟩;go_wp2_with fail;go_end0;exact⟨rfl,m2⟩
theorem Uk(w:tW)(f:Value)(hf:f=.func (.func 155) #[] #[]):Calls prog 314 #[.slice none 0 0,.int .i64 0,.int .i64 0,f] w λe w'=>e=.returned (.tuple #[])/\aa ae w w':=by
 subst hf;go_enter func314,ntmps314;go_wp2_with fail;go_loopg [8] 1 (λg iv wx=>iv=.int .i64 1/\aa ae w wx/\g=1)
 case atStart=>exact⟨rfl,ax,rfl⟩
 case round =>obtain⟨rfl,HM,rfl⟩:=hrel;go_wp2_with fail;go_end0;exact⟨rfl,HM⟩
theorem Ul(w:tW)(f:Value)(hf:f=.func (.func 155) #[] #[]):Calls prog 263 #[.slice none 0 0,.int .i64 0,.int .i64 0,.int .i64 0,f] w λe w'=>e=.returned (.tuple #[])/\aa ae w w':=by
 subst hf;go_enter func263,ntmps263;go_wp2_with fail;go_loopg [1,2,3] 1 (λg a b c wx=>a=.int .i64 0/\b=.int .i64 0/\c=.int .i64 0/\aa ae w wx/\g=1)
 case atStart=>exact⟨rfl,rfl,rfl,ax,rfl⟩
 case round =>obtain⟨rfl,rfl,rfl,HM,rfl⟩:=hrel;go_wp2_with fail;refine(Uk _ _ rfl).mono ?_;rintro e w2 ⟨rfl,m2⟩;go_wp2_with fail;refine bodyPost_ret (results_none rfl _ _ _) rfl ?_;exact⟨rfl,HM.trans m2⟩
theorem P4(w:tW):Calls prog 154 #[.slice none 0 0,.func (.func 155) #[] #[]] w λe w'=>e=.returned (.tuple #[])/\aa ae w w':=by go_enter func154,ntmps154;go_wp2_with fail;refine(Ia _).mono ?_;rintro e w1 ⟨rfl,rfl⟩;go_wp2_with fail;refine(Ul _ _ rfl).mono ?_;rintro e w2 ⟨rfl,m2⟩;go_wp2_with fail;go_end0;exact⟨rfl,m2⟩
theorem P5(w:tW)(v:Value)(l:List az)(hl:l.length<=1000000)(hs:Sl w 100 4 v l.length (l.flatMap az.cells)):Calls prog 151 #[v,.func (.func 152) #[] #[]] w λr w'=>r=.returned (.tuple #[])/\∃l':List az,l'.Perm l/\l'.Pairwise (λx y=>ji (T y.name) (T x.name)=false)/\Sl w' 100 4 v l'.length (l'.flatMap az.cells)/\aa (λb=>v.ownBlock=some b) w w':=by
 rcases hs.2 with⟨h',hn⟩ |⟨g,cap,cs,h',_⟩
 case inr=>exact KG w v l g cap h' hl hs
 case inl =>have e:l=[]:=List.length_eq_zero_iff.1 (by omega);subst e;rw[h'];refine(PZ w).mono ?_;rintro r w' ⟨rfl,m⟩;exact⟨rfl,[],List.Perm.refl _,List.Pairwise.nil,Sl.nil _ _ _,m.os,m.tape,m.output,m.size,λb hb _=>m.block b hb id⟩
theorem P6(w:tW)(v:Value)(l:List bZ)(hl:l.length<=1000000)(hs:Sl w 96 2 v l.length (l.flatMap bZ.cells)):Calls prog 154 #[v,.func (.func 155) #[] #[]] w λr w'=>r=.returned (.tuple #[])/\∃l':List bZ,l'.Perm l/\l'.Pairwise (λx y=>ji (T y.f.name) (T x.f.name)=false)/\Sl w' 96 2 v l'.length (l'.flatMap bZ.cells)/\aa (λb=>v.ownBlock=some b) w w':=by
 rcases hs.2 with⟨h',hn⟩ |⟨g,cap,cs,h',_⟩
 case inr=>exact KH w v l g cap h' hl hs
 case inl =>have e:l=[]:=List.length_eq_zero_iff.1 (by omega);subst e;rw[h'];refine(P4 w).mono ?_;rintro r w' ⟨rfl,m⟩;exact⟨rfl,[],List.Perm.refl _,List.Pairwise.nil,Sl.nil _ _ _,m.os,m.tape,m.output,m.size,λb hb _=>m.block b hb id⟩
theorem DC(w:tW)(vM vF:Value)(ms:List az)(rs:List bZ)(JG:ms.length<=1000000)(hrl:rs.length<=1000000)(hM:Sl w 100 4 vM ms.length (ms.flatMap az.cells))(hF:Sl w 96 2 vF rs.length (rs.flatMap bZ.cells)):Calls prog 77 #[.agg #[vM,vF]] w λr w'=>r=.returned (.tuple #[])/\∃(ms':List az) (rs':List bZ),ms'.Perm ms/\ms'.Pairwise (λx y=>ji (T y.name) (T x.name)=false)/\rs'.Perm rs/\rs'.Pairwise (λx y=>ji (T y.f.name) (T x.f.name)=false) /\ Sl w' 100 4 vM ms'.length (ms'.flatMap az.cells)/\Sl w' 96 2 vF rs'.length (rs'.flatMap bZ.cells)/\aa (λb=>vM.ownBlock=some b\/vF.ownBlock=some b) w w':=by
 obtain⟨oM,cM,yR,_⟩:=hM.view;obtain⟨oF,cF,jZ,_⟩:=hF.view;have m0:aa ae w (w.alloc (.cells #[vM,vF] 90)):=aj;have hb0:=ak.new w #[vM,vF] 90
 have H1:af (Calls prog 151 #[vM,.func (.func 152) #[] #[]] (w.alloc (.cells #[vM,vF] 90)) λr w'=>r=.returned (.tuple #[])/\∃l':List az,l'.Perm ms/\l'.Pairwise (λx y=>ji (T y.name) (T x.name)=false)/\Sl w' 100 4 vM l'.length (l'.flatMap az.cells)/\aa (λb=>vM.ownBlock=some b) (w.alloc (.cells #[vM,vF] 90)) w') :=
  P5 _ vM ms JG (hM.ag m0 (λ_ _=>id))
 have H2:af (∀w',aa (λb=>vM.ownBlock=some b) (w.alloc (.cells #[vM,vF] 90)) w'->ak w' w.heap.size #[vM,vF] 90/\Calls prog 154 #[vF,.func (.func 155) #[] #[]] w' λr w''=>r=.returned (.tuple #[])/\∃l':List bZ,l'.Perm rs/\l'.Pairwise (λx y=>ji (T y.f.name) (T x.f.name)=false)/\Sl w'' 96 2 vF l'.length (l'.flatMap bZ.cells)/\aa (λb=>vF.ownBlock=some b) w' w''):=λw' m=>by refine⟨hb0.ag m ((hM.ag m0 (λ_ _=>id)).au hb0 (by decide)),P6 _ vF rs hrl ((hF.ag m0 (λ_ _=>id)).ag m (λk hk e=>?_))⟩;exact hM.apart hF (by decide) e hk
 have H3:af (∀w' w'' (ms':List az),Sl w' 100 4 vM ms'.length (ms'.flatMap az.cells)->aa (λb=>vF.ownBlock=some b) w' w''->Sl w'' 100 4 vM ms'.length (ms'.flatMap az.cells)):=λw' w'' ms' h m=>h.ag m (λk hk e=>hM.apart hF (by decide) hk e);have eX:=ai m0;subst yR jZ;clear hM hF hb0 m0;go_enter func77,ntmps77;go_wp2_with fail;refine H1.o.mono ?_;rintro e w1 ⟨rfl,ms',p1,q1,s1,m1⟩;have hb1:=(H2.o w1 m1).1.cell 1;have z1:w1.cell? ⟨w.heap.size,1,none⟩=some (.slice oF rs.length cF):=hb1;have HC:af (Calls prog 154 #[.slice oF rs.length cF,.func (.func 155) #[] #[]] w1 λr w''=>r=.returned (.tuple #[])/\∃l':List bZ,l'.Perm rs/\l'.Pairwise (λx y=>ji (T y.f.name) (T x.f.name)=false)/\Sl w'' 96 2 (.slice oF rs.length cF) l'.length (l'.flatMap bZ.cells)/\aa (λb=>(Value.slice oF rs.length cF).ownBlock=some b) w1 w''):=(H2.o w1 m1).2;have qQ:af (ms'.Perm ms/\ms'.Pairwise (λx y=>ji (T y.name) (T x.name)=false)/\Sl w1 100 4 (.slice oM ms.length cM) ms'.length (ms'.flatMap az.cells)/\aa (λb=>(Value.slice oM ms.length cM).ownBlock=some b) (w.alloc (.cells #[.slice oM ms.length cM,.slice oF rs.length cF] 90)) w1):=⟨p1,q1,s1,m1⟩
 clear hb1 p1 q1 s1 m1 H1 H2;go_wp2_with fail;refine HC.o.mono ?_;rintro e w2 ⟨rfl,rs',p2,q2,s2,m2⟩;have kD:af (rs'.Perm rs/\rs'.Pairwise (λx y=>ji (T y.f.name) (T x.f.name)=false)/\Sl w2 96 2 (.slice oF rs.length cF) rs'.length (rs'.flatMap bZ.cells)/\aa (λb=>(Value.slice oF rs.length cF).ownBlock=some b) w1 w2):=⟨p2,q2,s2,m2⟩
 clear p2 q2 s2 m2 HC z1;go_wp2_with fail;go_end0;obtain⟨p1,q1,s1,m1⟩:=qQ.o;obtain⟨p2,q2,s2,m2⟩:=kD.o;refine⟨rfl,ms',rs',p1,q1,p2,q2,H3.o _ _ _ s1 m2,s2,?_⟩;have hm:=eX.o;exact⟨m2.os.trans (m1.os.trans hm.os),m2.tape.trans (m1.tape.trans hm.tape),m2.output.trans (m1.output.trans hm.output),cj hm.size (cj m1.size m2.size),λk hk hn=>by rw[m2.block k (cq hk (cj hm.size m1.size)) (λe=>hn (.inr e)),m1.block k (cq hk hm.size) (λe=>hn (.inl e)),hm.block k hk id]⟩
