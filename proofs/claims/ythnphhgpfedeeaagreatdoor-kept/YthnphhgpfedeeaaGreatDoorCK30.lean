import Derived.Test.YthnphhgpfedeeaaGreatDoorCK28
import Derived.Lib.SlBytesConst
namespace Go.Proofs.YthnphhgpfedeeaaGreatDoor
open Go.RowKit Tryz
open Bool renaming eq_iff_iff->cx,false->fj,true->fR
open Lib renaming run_append_own_string->cj
open List renaming length_append->al,append_assoc->ao,length_cons->ba,drop_length->bt,length_nil->b5,drop_eq_getElem_cons->b9,getElem_mem->cq,length_drop->cw,mem_cons_of_mem->cy,map_cons->cD,take_length->cG,getElem_zip->cH,map_toArray->cI,length->eJ
open Nat renaming le_trans->ab,zero_le->ar,le_refl->bh,lt_of_lt_of_le->bj
open Decidable renaming decide->gh
open Ending renaming returned->fW
open Obj renaming cells->fL
open Option renaming none->eL,some->eK
open Value renaming slice->eS,string->eR,agg->fY,tuple->jl,bool->fX
open _root_.Go renaming Value->fa,maxLen->jz,Calls->fS,bodyPost_ret->kx,Program->lj,TypeId->ju,TypeInfo->pN,Oper->iz,Operand->pd,wpList->n9,wpList_plain->pP
set_option linter.all false
set_option maxRecDepth 100000
set_option maxHeartbeats 2000000
theorem Ext.same{S:Nat->Prop}{w:tW}(e:Ext S w){g:Nat}(hg:g<w.heap.size)(hS:¬S g)(i:Nat):e.w.cell? ⟨g,i,eL⟩=w.cell? ⟨g,i,eL⟩:=by simp[World.cell?,e.m.block g hg hS]
structure gz(w0:tW)(lo b:Nat)(bs:tLN)(vM vF:fa)(ms:List aB)(pb:Nat)(q:PR)(fs:List bz)(vs:tLV)(w:tW):Prop where
 r:BX w0 lo b bs q vF fs vs w
 m:Sl w 100 4 vM (eJ ms) (ms.flatMap aB.cells)
 p:au w pb #[vM,vF] 90
section
variable {w0 w w' : World} {lo b : Nat} {bs : List Nat} {vM vF : fa} {ms : List aB} {pb : Nat} {q q' : PR} {fs : List bz} {vs : List fa}
theorem gz.read(h:gz w0 lo b bs vM vF ms pb q fs vs w)(hr:eu w' b q')(m:aa (Only b) w w'):gz w0 lo b bs vM vF ms pb q' fs vs w' :=
 ⟨h.r.read hr m,h.m.ai m (λk hk e=>h.m.aA h.r.rd (by decide) (hk.trans (congrArg eK e))),h.p.ai m (λe=>by have h1:=h.p;have h2:=h.r.rd;unfold eu at h2;unfold au at h1 h2;rw[show pb=b from e,h2]at h1;cases h1)⟩
theorem gz.quiet(h:gz w0 lo b bs vM vF ms pb q fs vs w)(m:aa af w w'):gz w0 lo b bs vM vF ms pb q fs vs w' :=
 ⟨h.r.quiet m,h.m.ai m (λ_ _=>id),h.p.ai m id⟩
theorem gz.name(h:gz w0 lo b bs vM vF ms pb q fs vs w)(i:Nat)(hi:i<eJ fs)(hv:i<eJ vs){g n c:Nat}(he:vs[i]=eS (eK ⟨g,0,eL⟩) n c)(k:Nat)(hk:k<eJ fs[i].code)(nm:tLB):gz w0 lo b bs vM vF ms pb q (fs.set i ⟨fs[i].name,fs[i].code.set k {fs[i].code[k]with name:=nm}⟩) vs (w.setCell ⟨g,k*8+7,eL⟩ (eR (T nm))):=by
 have hs:=h.r.fn.cd i hi hv;have hg:vs[i].ownBlock=eK g:=by rw[he];rfl
 exact⟨h.r.name i hi hv he k hk nm,h.m.ai ((aa.refl (Only g) w).bA _ _) (λk' hk' e=>hs.apart h.m (by decide) hg (hk'.trans (congrArg eK e))),au.setOther h.p (λe=>hs.aA h.p (by decide) (hg.trans (congrArg eK e))) _⟩
theorem gz.keep(h:gz w0 lo b bs vM vF ms pb q fs vs w){fb:Nat}{cs:tAV}(hB:au w fb cs 96)(m:aa (Only b) w w'):au w' fb cs 96 :=
 hB.ai m (λe=>by have h2:=h.r.rd;unfold eu at h2;unfold au at hB h2;rw[show fb=b from e,h2]at hB;cases hB)
theorem gz.adL(h:gz w0 lo b bs vM vF ms pb q fs vs w){fb:Nat}{cs:tAV}(hB:au w fb cs 96)(i:Nat)(hi:i<eJ fs)(hv:i<eJ vs){g n c:Nat}(he:vs[i]=eS (eK ⟨g,0,eL⟩) n c)(j:Nat)(u:fa):au (w.setCell ⟨g,j,eL⟩ u) fb cs 96 :=
 au.setOther hB (λe=>(h.r.fn.cd i hi hv).aA hB (by decide) (by rw[he];exact congrArg eK e)) _
end
theorem Ra(w:tW)(b:Nat)(q:PR)(hR:eu w b q)(hl:eJ q.rest<=jz)(wT:tW)(tv:fa)(bs:tLN)(hT:aM 0 wT tv bs az)(mT:aa af wT w)(hbT:wT.heap.size<=b)(lo:Nat)(hlo:wT.heap.size<=lo)(ms:List aB) (hms:eJ ms<=1000) (vM:fa) (hM:Sl w 100 4 vM (eJ ms) (ms.flatMap aB.cells)) (fs:List bz) (hfs:eJ fs<=256) (hcl:∀f∈fs,eJ f.code<=2000) (vF:fa) (vs:tLV) (hF:pR w lo bs vF fs vs):fS prog 156 #[vP b,fY #[vM,vF]] w λe w'=>e=fW (jl #[])/\BX w lo b bs (Fz ms fs q).2 vF (Fz ms fs q).1 vs w':=by
 obtain⟨oF,cF,rfl,_⟩:=hF.sl.view;obtain⟨oM,cM,rfl,_⟩:=hM.view;have Yu:Fz ms fs q=((refsF ms [] fs ((jE q).1:Int) (jE q).2).1,aO (gh ((refsF ms [] fs ((jE q).1:Int) (jE q).2).2.1=0)) (refsF ms [] fs ((jE q).1:Int) (jE q).2).2.2):=rfl;have H2:=aq (λw h=>GR b q w h hl);have hl1:=ab (zt q) hl;have ht:=Vr q;rw[Yu];clear Yu;generalize jE q=r1 at *;obtain⟨lf,q1⟩:=r1;simp only at *;generalize hres:refsF ms [] fs (lf:Int) q1=res;have abJ:=aq hres;clear hres
 have hB0:gz w lo b bs (eS oM (eJ ms) cM) (eS oF (eJ fs) cF) ms w.heap.size q fs vs (w.alloc (fL #[eS oM (eJ ms) cM,eS oF (eJ fs) cF] 90)) :=
  ⟨⟨au.alloc hR _,hF.quiet aw,aw⟩,hM.ai ((aa.refl af _).alloc _) (λ_ _=>id),au.new _ _ _⟩
 have HB0:=aq hB0;have HT:=aq hT;have Ew:=aq mT;have HCl:=aq hcl;clear hT mT hB0 hM hF hR hcl;go_in;go_wp2_with fail;refine(H2.o _ HB0.o.r.rd).mono ?_;rintro e w1 ⟨rfl,h1,m1⟩;have HB1:=aq (HB0.o.read h1 m1);clear h1 m1 HB0;have c1:=HB1.o.p.c1;go_upto_block 0 with fail;go_cut [4] (λleft wx=>∃(l:Int) (r:PR) (done:List bz),left=vI l/\-1000000<=l/\l<=1000000/\gz w lo b bs (eS oM (eJ ms) cM) (eS oF (eJ fs) cF) ms w.heap.size r done vs wx/\res=(done,l,r))
 case first =>
  go_wp2_with fail;go_loopg [4,15] (eJ fs) (λg left i wl=>∃(n:Nat) (l:Int) (r:PR) (done:List bz),i=vI n/\left=vI l/\n<=eJ fs/\g=eJ fs-n/\-(n*2000:Int)<=l/\l<=65536/\done.length=n/\gz w lo b bs (eS oM (eJ ms) cM) (eS oF (eJ fs) cF) ms w.heap.size r (done++fs.drop n) vs wl/\refsF ms done (fs.drop n) l r=res/\r.rest.length<=jz)
  case atStart=>exact⟨0,lf,q1,[],rfl,rfl,ar _,rfl,by omega,by omega,rfl,HB1.o,abJ.o,hl1⟩
  case round =>
   obtain⟨n,l,r,done,rfl,rfl,hn,rfl,hl0,hl2,hdn,hB,hE,hrl⟩:=hrel;have HB:=aq hB;have HE:=aq hE;clear hB hE HB1 c1 abJ;by_cases hlt:n<eJ fs
   ·obtain⟨f,hdr,hfx⟩:∃f,fs.drop n=f::fs.drop (n+1)/\f=fs[n]:=⟨_,b9 hlt,rfl⟩
    have hfl:eJ f.code<=2000:=by rw[hfx];exact HCl.o _ (cq hlt)
    rw[hdr]at HB HE;subst hdn;have HDr:=aq hdr;clear hdr hfx;obtain⟨zu,dh⟩:=f;simp only at hfl;have GW:ah (refsF ms (done++[⟨zu,(refsI ms (eJ done) 0 dh l r []).1⟩]) (fs.drop (eJ done+1)) (refsI ms (eJ done) 0 dh l r []).2.1 (refsI ms (eJ done) 0 dh l r []).2.2=res):=HE.o;clear HE;generalize hri:refsI ms (eJ done) 0 dh l r []=ri at *;have HRi:=aq hri;clear hri;have ZV:(done++⟨zu,dh⟩::fs.drop (eJ done+1)).length=eJ fs:=by simp;omega
    have hvl:eJ done<eJ vs:=by rw[HB.o.r.fn.len,ZV];exact hlt
    have hgm:=λh'=>oH done (fs.drop (eJ done+1)) (⟨zu,dh⟩:bz) h';have qA:=HB.o.r.fn.cd (eJ done) (by rw[ZV];exact hlt) hvl;rw[hgm]at qA;obtain⟨oC,cC,hvn,_⟩:=qA.view;have HVn:=aq hvn;have hsF:=HB.o.r.fn.sl;rw[ZV]at hsF;obtain⟨oF',cF',eF,f5⟩:=hsF.view;cases eF;obtain⟨gF,csF,rfl,QZ,htF,_⟩:=f5 (by omega);have abK:∀j,j<2->wr.cell? ⟨gF,eJ done*2+j,eL⟩=(nW (zu,eS oC (eJ dh) cC))[j]?:=λj hj=>by rw[QZ.cell,<-Array.getElem?_toList,<-List.getElem?_take_of_lt (show eJ done*2+j<eJ fs*2 by omega),htF,flat_get nW 2 (λ_=>rfl) _ (eJ done) j (by simp;omega) hj,GU _ _ _ (by simp) hvl,hvn];simp
    have y0:wr.cell? ⟨gF,eJ done*2,eL⟩=eK (eR (T zu)):=abK 0 (by omega);have y1:wr.cell? ⟨gF,eJ done*2+1,eL⟩=eK (eS oC (eJ dh) cC):=abK 1 (by omega);have HBn:ah (gz w lo b bs (eS oM (eJ ms) cM) (eS (eK ⟨gF,0,eL⟩) (eJ fs) cF) ms w.heap.size r (done++⟨zu,dh⟩::fs.drop (eJ done+1)) vs (wr.alloc (fL #[eR (T zu),eS oC (eJ dh) cC] 96))):=HB.o.quiet aw;have HFb:=aq (au.new wr #[eR (T zu),eS oC (eJ dh) cC] 96);have ZW:ah (∀a:List PI,(done++⟨zu,a⟩::fs.drop (eJ done+1)).length=eJ fs):=λa=>by simp;omega
    have HVl:=aq hvl;clear abK QZ htF f5 hsF hvn qA hgm ZV HB;obtain⟨wO,hwO⟩:∃wO,wO=wr:=⟨_,rfl⟩
    subst hwO;go_wp2_with fail;go_loopg [4,7,23] (eJ dh) (λg left slot i wl=>∃(k sl:Nat) (l':Int) (r':PR) (acc:List PI),i=vI k/\slot=vI sl/\left=vI l'/\k<=eJ dh/\g=eJ dh-k/\sl<=2*k/\-(eJ done*2000+k:Int)<=l'/\l'<=65536/\acc.length=k/\gz w lo b bs (eS oM (eJ ms) cM) (eS (eK ⟨gF,0,eL⟩) (eJ fs) cF) ms w.heap.size r' (done++⟨zu,acc++dh.drop k⟩::fs.drop (eJ done+1)) vs wl/\au wl wO.heap.size #[eR (T zu),eS oC (eJ dh) cC] 96/\refsI ms (eJ done) sl (dh.drop k) l' r' acc=ri/\r'.rest.length<=jz)
    case atStart=>exact⟨0,0,l,r,[],rfl,rfl,rfl,ar _,rfl,ar _,by omega,by omega,rfl,HBn.o,HFb.o,HRi.o,hrl⟩
    case round =>
     obtain⟨k,sl,l',r',acc,rfl,rfl,rfl,hk,rfl,hsl,hb1,hb2,hak,hB2,adM,adN,hrl2⟩:=hrel;have HB2:=aq hB2;have Vx:=aq adM;have Vy:=aq adN;clear hB2 adM adN HBn HFb HRi;have z1:=Vx.o.c1;by_cases hkl:k<eJ dh
     ·obtain⟨x,hdx⟩:∃x,dh.drop k=x::dh.drop (k+1):=⟨_,b9 hkl⟩
      rw[hdx]at HB2 Vy;subst hak
      have qA:Sl wr 138 8 (eS oC (eJ dh) cC) (eJ dh) (fH bs (acc++x::dh.drop (eJ acc+1))):=by
       have:=HB2.o.r.fn.cd (eJ done) (by rw[ZW.o];exact hlt) hvl;rw[oH,HVn.o]at this;simp only[al,ba,cw]at this
       rwa [show eJ acc+(eJ dh-(eJ acc+1)+1)=eJ dh by omega]at this
      have hxl:eJ acc<(acc++x::dh.drop (eJ acc+1)).length:=by simp
      obtain⟨g,rfl,hg,x0,x1,x2,x3,x4,x5,x6,x7⟩:=l9 qA (by simp;omega) rfl (eJ acc) hxl;rw[oH]at x0 x1 x2 x3 x4 x5 x7;have hxo:=HB2.o.r.fn.ok ⟨zu,acc++x::dh.drop (eJ acc+1)⟩ (by simp) x (by simp);have HMw:=aq (λw' (m:aa (λk=>k=b\/lo<=k) w w')=>Ew.o.step m (λi hi e=>by rcases e with e|e<;>omega));have HTx:=aq (λw' m=>kF (HT.o.ai (HMw.o w' m)) x hxo.k);have hxs:=hxo.slots;have hB3:=λnm w' (h:gz w lo b bs (eS oM (eJ ms) cM) (eS (eK ⟨gF,0,eL⟩) (eJ fs) cF) ms w.heap.size nm (done++⟨zu,acc++x::dh.drop (eJ acc+1)⟩::fs.drop (eJ done+1)) vs w')=>h;have HRf:ah (x.bD=if x.s=1 then x.o.bD else 0):=rfl;generalize hbx:bs[x.k]?.getD 0=bx at *;have Dp:ah (∀w' nm,aa (λk=>k=b\/lo<=k) w w'->fS prog 84 #[fY #[vP bx,vB x.d,vB x.s,.int .i16 x.jump,vJ x.num,vJ x.high,eR ByteArray.empty,eR (T nm)]] w' λe w''=>e=fW (vI (x.bD:Nat))/\aa af w' w''):=λw' nm m=>by rw[HRf.o];exact kG w' bx x.o (HTx.o w' m) x.d x.s x.num x.high x.jump _ _
      have ym:ah (∀(r2:PR) (y:PI) (w':tW),gz w lo b bs (eS oM (eJ ms) cM) (eS (eK ⟨gF,0,eL⟩) (eJ fs) cF) ms w.heap.size r2 (done++⟨zu,acc++y::dh.drop (eJ acc+1)⟩::fs.drop (eJ done+1)) vs w'->(w'.cell? ⟨g,eJ acc*8,eL⟩=eK (vP (bs[y.k]?.getD 0))/\w'.cell? ⟨g,eJ acc*8+1,eL⟩=eK (vB y.d)/\w'.cell? ⟨g,eJ acc*8+2,eL⟩=eK (vB y.s)/\w'.cell? ⟨g,eJ acc*8+3,eL⟩=eK (.int .i16 y.jump)/\w'.cell? ⟨g,eJ acc*8+4,eL⟩=eK (vJ y.num)/\w'.cell? ⟨g,eJ acc*8+5,eL⟩=eK (vJ y.high)/\w'.cell? ⟨g,eJ acc*8+6,eL⟩=eK (eR ByteArray.empty)/\w'.cell? ⟨g,eJ acc*8+7,eL⟩=eK (eR (T y.name)))/\w'.frozen? ⟨g,eJ acc*8+7,eL⟩=fj):=λr2 y w' hb=>by
       have qA:Sl w' 138 8 (eS (eK ⟨g,0,eL⟩) (eJ dh) cC) (eJ dh) (fH bs (acc++y::dh.drop (eJ acc+1))):=by
        have:=hb.r.fn.cd (eJ done) (by rw[ZW.o];exact hlt) hvl;rw[oH,HVn.o]at this;simp only[al,ba,cw]at this
        rwa [show eJ acc+(eJ dh-(eJ acc+1)+1)=eJ dh by omega]at this
       obtain⟨g',e',hg,x0,x1,x2,x3,x4,x5,x6,x7⟩:=l9 qA (by simp;omega) rfl (eJ acc) (by simp);cases e';rw[oH]at x0 x1 x2 x3 x4 x5 x7;obtain⟨cs,hbk,_⟩:=qA.blk;exact⟨⟨x0,x1,x2,x3,x4,x5,x6,x7⟩,hbk.frozen _⟩
      clear qA hxl hB3 hdx;have HXo:=aq hxo;clear hxo;by_cases hr0:x.bD=0
      ·have Rc:ah (refsI ms (eJ done) (sl+x.o.slots) (dh.drop (eJ acc+1)) l' r' (acc++[x])=ri):=by have:=Vy.o;rw[refsI,iN9 (by simpa using hr0)]at this;exact this
       have h00:((x.bD:Nat):Int)=0:=by omega
       go_wp2_with fail;refine(Dp.o _ _ HB2.o.r.md).mono ?_;rintro e w3 ⟨rfl,m3⟩;have HB3:ah _:=HB2.o.quiet m3;obtain⟨⟨p0,_,_,_,_,_,_,_⟩,_⟩:=ym.o _ _ _ HB3.o;rw[hbx]at p0;obtain⟨p2,_,_,_⟩:=(HTx.o _ HB3.o.r.md).cells;have ZX:=aq (Vx.o.ai m3 id);clear m3 HB2 Vx x0 x1 x2 x3 x4 x5 x6 x7 z1;generalize x.o.slots=os at *;go_wp2_with fail;go_roundg (eJ dh-(eJ acc+1))
       case measure=>omega
       case rel=>exact⟨eJ acc+1,sl+os,l',r',acc++[x],by go_num,by go_num,rfl,by omega,rfl,by omega,by omega,by omega,by simp,by have:=HB3.o;rwa [ao],ZX.o,Rc.o,hrl2⟩
      ·have h00:¬((x.bD:Nat):Int)=0:=by omega
       have Rc:ah (refsI ms (eJ done) (sl+x.o.slots) (dh.drop (eJ acc+1)) (l'-1) (aO (gh (x.bD≠2)||jd ms (Ak (eJ done) sl r').1) (aO (gh (x.num=0)) (Ak (eJ done) sl r').2)) (acc++[{x with name:=(Ak (eJ done) sl r').1}])=ri):=by have:=Vy.o;rw[refsI,iP9 (by simpa using hr0)]at this;exact this
       have PH:=aq (λw h=>ZS b r' (eJ done) sl w h hrl2);have hrl3:=ab (ZU (eJ done) sl r') hrl2;generalize Ak (eJ done) sl r'=rp at *;obtain⟨nm,r3⟩:=rp;simp only at Rc PH hrl3;go_wp2_with fail;refine(Dp.o _ _ HB2.o.r.md).mono ?_;rintro e w3 ⟨rfl,m3⟩;have HB3:ah _:=HB2.o.quiet m3;have ZX:=aq (Vx.o.ai m3 id);clear m3 HB2 Vx x0 x1 x2 x3 x4 x5 x6 x7 z1;go_wp2_with fail;refine(PH.o _ HB3.o.r.rd).mono ?_;rintro e w4 ⟨rfl,h4,m4⟩;have iH:=aq (HB3.o.read h4 m4);have adO:=aq (HB3.o.keep ZX.o m4);clear m4 h4 HB3 ZX;obtain⟨⟨_,_,_,_,_,_,_,p7⟩,fr7⟩:=ym.o _ _ _ iH.o;have HFi:ah (eJ done<(done++⟨zu,acc++x::dh.drop (eJ acc+1)⟩::fs.drop (eJ done+1)).length):=by rw[ah,ZW.o];exact hlt
       have QX:=iH.o.name (eJ done) HFi.o hvl HVn.o (eJ acc) (by rw[oH];simp) nm;have ji:ah (gz w lo b bs (eS oM (eJ ms) cM) (eS (eK ⟨gF,0,eL⟩) (eJ fs) cF) ms w.heap.size r3 (done++⟨zu,acc++{x with name:=nm}::dh.drop (eJ acc+1)⟩::fs.drop (eJ done+1)) vs (w4.setCell ⟨g,eJ acc*8+7,eL⟩ (eR (T nm)))):=by simp only[oH,set_mid]at QX;simp only[ao,List.cons_append,List.nil_append]at QX;exact QX
       have adP:ah (au (w4.setCell ⟨g,eJ acc*8+7,eL⟩ (eR (T nm))) wO.heap.size #[eR (T zu),eS (eK ⟨g,0,eL⟩) (eJ dh) cC] 96):=iH.o.adL adO.o (eJ done) HFi.o hvl HVn.o _ _;clear QX;obtain⟨⟨p0,p1,p2,p3,p4,p5,p6,p7'⟩,_⟩:=ym.o _ _ _ ji.o;simp only at p0 p1 p2 p3 p4 p5 p7';rw[hbx]at p0;have hdn:gh (x.num=0)=(x.num==0):=by rw[cx];simp
       go_wp2_with fail;refine(dx b _ _ _ ji.o.r.rd).mono ?_;rintro e w6 ⟨rfl,h6,m6⟩;rw[<-hdn]at h6;have pT:=aq (ji.o.read h6 m6);have abL:=aq (ji.o.keep adP.o m6);clear h6 m6 ji adP p0 p1 p2 p3 p4 p5 p6 p7 p7' fr7 adO iH;obtain⟨⟨p0,p1,p2,p3,p4,p5,p6,p7⟩,_⟩:=ym.o _ _ _ pT.o;simp only at p0 p1 p2 p3 p4 p5 p7;rw[hbx]at p0;have adF:ah (x.num=x.num):=rfl;have adQ:eJ (aO (gh (x.num=0)) r3).rest<=jz:=hrl3;generalize aO (gh (x.num=0)) r3=r4 at *;have hps:=pT.o.p.c0;go_wp2_with fail;obtain⟨hgb,hg6⟩:g≠b/\g<w6.heap.size:=by have:=pT.o.r.fn.cd (eJ done) (by rw[ZW.o];exact hlt) hvl;rw[HVn.o]at this;exact⟨λe=>this.aA pT.o.r.rd (by decide) (congrArg eK e),this.lt g rfl⟩
       have hpb:w.heap.size≠b:=λe=>by have h1:=pT.o.p;have h2:=pT.o.r.rd;unfold eu at h2;unfold au at h1 h2;rw[e,h2]at h1;cases h1
       have E0:=λ(e:Ext (Only b) w6)=>(e.same hg6 hgb _).trans p0;have E1:=λ(e:Ext (Only b) w6)=>(e.same hg6 hgb _).trans p1;have E2:=λ(e:Ext (Only b) w6)=>(e.same hg6 hgb _).trans p2;have E3:=λ(e:Ext (Only b) w6)=>(e.same hg6 hgb _).trans p3;have E4:=λ(e:Ext (Only b) w6)=>(e.same hg6 hgb _).trans p4;have E5:=λ(e:Ext (Only b) w6)=>(e.same hg6 hgb _).trans p5;have E6:=λ(e:Ext (Only b) w6)=>(e.same hg6 hgb _).trans p6;have E7:=λ(e:Ext (Only b) w6)=>(e.same hg6 hgb _).trans p7;have Ep:=λ(e:Ext (Only b) w6)=>(e.same pT.o.p.lt hpb _).trans hps;have ne2:=Ext.ne (Only b) w6;have HOs:=aq (λw' m=>(HTx.o w' m).cells.1);have Vs:=aq (pT.o.quiet aN);have ZY:=aq (abL.o.ai (aa.refl af _).drew id);clear p0 p1 p2 p3 p4 p5 p6 p7 hps HTx hpb
       have NV:ah (∀w',gz w lo b bs (eS oM (eJ ms) cM) (eS (eK ⟨gF,0,eL⟩) (eJ fs) cF) ms w.heap.size (aO (gh (x.bD≠2)||jd ms nm) r4) (done++⟨zu,acc++{x with name:=nm}::dh.drop (eJ acc+1)⟩::fs.drop (eJ done+1)) vs w'->w'.cell? ⟨g,eJ acc*8,eL⟩=eK (vP bx)):=λw' hb=>by
        have:=(ym.o _ _ _ hb).1.1;simp only at this
        rwa [hbx]at this
       clear HRf;generalize x.bD=rf at *;generalize x.o.slots=os at *;generalize hmb:jd ms nm=mb at *;have HMb:=aq hmb;clear hmb;by_cases hr2:rf=2
       ·subst hr2;have agu:ah _:=Rc.o;simp only[Int.cast_ofNat_Int]at Dp;refine bQ [4,6,13,15] (λw'=>∃e:Ext (Only b) w6,w'=e.w) (by kernel_rfl) (by kernel_rfl) (by kernel_rfl) ⟨⟨_,aN⟩,rfl⟩ ?_
        iterate 2 (refine aG rfl rfl rfl ?_;intro K hK;go_big_quiet_op;go_big_quiet_on)
        refine dL rfl rfl _ ⟨g,eJ acc*8,eL⟩ rfl rfl ?_;simp only[Act.put,sA9,sB9,sC9]
        iterate 1 (refine aG rfl rfl rfl ?_;intro K hK;go_big_quiet_op;go_big_quiet_on)
        refine aH rfl rfl ?_;intro K hK;go_big_op;refine(Dp.o _ _ Vs.o.r.md).mono ?_;rintro e w7 ⟨rfl,m7⟩;have BQ:=aq (Vs.o.quiet m7);have abM:=aq (ZY.o.ai m7 id);have X7:ah (aa (Only b) w6 w7):=aN.trans m7.of_nil;refine hK _ _ rfl ⟨⟨_,X7.o⟩,rfl⟩ ?_;clear hK K m7
        iterate 1 (refine aG rfl rfl rfl ?_;intro K hK;go_big_quiet_op;go_big_quiet_on)
        refine aH rfl rfl ?_;intro K hK;go_big_op;refine hK _ _ rfl ⟨⟨_,X7.o⟩,rfl⟩ ?_;clear hK K
        iterate 3 (refine ko rfl rfl rfl ?_;intro K hK;go_big_quiet_op;go_big_quiet_on)
        refine o8 rfl rfl _ ⟨g,eJ acc*8,eL⟩ rfl rfl ?_;simp only[Act.put,sA9,sB9,sC9]
        iterate 2 (refine ko rfl rfl rfl ?_;intro K hK;go_big_quiet_op;go_big_quiet_on)
        refine tT rfl rfl ?_;intro K hK;go_big_op;refine(Md _ ms hms _ BQ.o.m nm).mono ?_;rintro e w8 ⟨rfl,m8⟩;rw[HMb.o];have Vu:=aq (BQ.o.quiet m8);have afz:=aq (abM.o.ai m8 id);have X8:=aq (X7.o.trans m8.of_nil);have Vz:ah ((gh (2≠2)||mb)=mb):=by simp[ah]
        refine hK _ _ rfl ⟨⟨_,X8.o⟩,rfl⟩ ?_;clear hK K m8;refine y9 rfl rfl _ _ _ _ rfl rfl ?_;simp only[Act.put,sA9,sB9,sC9,Bool.false_eq_true,if_false];refine aH rfl rfl ?_;intro K hK;go_big_op;refine(dx b _ _ _ Vu.o.r.rd).mono ?_;rintro e w9 ⟨rfl,h9,m9⟩;have EL:ah (gz w lo b bs (eS oM (eJ ms) cM) (eS (eK ⟨gF,0,eL⟩) (eJ fs) cF) ms w.heap.size (aO (gh (2≠2)||mb) r4) (done++⟨zu,acc++{x with name:=nm}::dh.drop (eJ acc+1)⟩::fs.drop (eJ done+1)) vs w9):=by rw[ah,Vz.o];exact Vu.o.read h9 m9
        have abN:=aq (Vu.o.keep afz.o m9);refine hK _ _ rfl ⟨⟨_,X8.o.trans m9⟩,rfl⟩ ?_;clear hK K m9 h9;refine bZ ?_;simp only[Exit.then];have hC0:=NV.o _ EL.o;have hC2:=HOs.o _ EL.o.r.md;clear NV HOs Dp E0 E1 E2 E3 E4 E5 E6 E7 Ep ym Vs ZY pT abL;go_wp2_with fail;go_roundg (eJ dh-(eJ acc+1))
        case measure=>omega
        case rel=>exact⟨eJ acc+1,sl+os,l'-1,aO (gh (2≠2)||mb) r4,acc++[{x with name:=nm}],by go_num,by go_num,by go_num,by omega,rfl,by omega,by omega,by omega,by simp,by have:=EL.o;rwa [ao],abN.o,Rc.o,adQ⟩
       ·have hr3:((rf:Int)==2)=fj:=by simp;omega
        have hr4:((rf:Int) != 2)=fR:=by simp;omega
        refine bQ [4,6,13,15] (λw'=>∃e:Ext (Only b) w6,w'=e.w) (by kernel_rfl) (by kernel_rfl) (by kernel_rfl) ⟨⟨_,aN⟩,rfl⟩ ?_
        iterate 2 (refine aG rfl rfl rfl ?_;intro K hK;go_big_quiet_op;go_big_quiet_on)
        refine dL rfl rfl _ ⟨g,eJ acc*8,eL⟩ rfl rfl ?_;simp only[Act.put,sA9,sB9,sC9]
        iterate 1 (refine aG rfl rfl rfl ?_;intro K hK;go_big_quiet_op;go_big_quiet_on)
        refine aH rfl rfl ?_;intro K hK;go_big_op;refine(Dp.o _ _ Vs.o.r.md).mono ?_;rintro e w7 ⟨rfl,m7⟩;have BQ:=aq (Vs.o.quiet m7);have abM:=aq (ZY.o.ai m7 id);have X7:ah (aa (Only b) w6 w7):=aN.trans m7.of_nil;refine hK _ _ rfl ⟨⟨_,X7.o⟩,rfl⟩ ?_;clear hK K m7
        iterate 1 (refine aG rfl rfl rfl ?_;intro K hK;go_big_quiet_op;go_big_quiet_on)
        refine aH rfl rfl ?_;intro K hK;go_big_op;refine hK _ _ rfl ⟨⟨_,X7.o⟩,rfl⟩ ?_;clear hK K
        iterate 7 (refine Jg rfl ?_;simp only[Act.put,sA9,sB9,sC9])
        refine y9 rfl rfl _ _ _ _ rfl rfl ?_;simp only[Act.put,sA9,sB9,sC9,if_true];refine aH rfl rfl ?_;intro K hK;have Vz:ah ((gh (rf≠2)||mb)=fR):=by simp[ah,hr2]
        go_big_op;refine(dx b _ _ _ BQ.o.r.rd).mono ?_;rintro e w9 ⟨rfl,h9,m9⟩;have EL:ah (gz w lo b bs (eS oM (eJ ms) cM) (eS (eK ⟨gF,0,eL⟩) (eJ fs) cF) ms w.heap.size (aO (gh (rf≠2)||mb) r4) (done++⟨zu,acc++{x with name:=nm}::dh.drop (eJ acc+1)⟩::fs.drop (eJ done+1)) vs w9):=by rw[ah,Vz.o];exact BQ.o.read h9 m9
        have abN:=aq (BQ.o.keep abM.o m9);refine hK _ _ rfl ⟨⟨_,X7.o.trans m9⟩,rfl⟩ ?_;clear hK K m9 h9;refine bZ ?_;simp only[Exit.then];have hC0:=NV.o _ EL.o;have hC2:=HOs.o _ EL.o.r.md;clear NV HOs Dp E0 E1 E2 E3 E4 E5 E6 E7 Ep ym Vs ZY pT abL;go_wp2_with fail;go_roundg (eJ dh-(eJ acc+1))
        case measure=>omega
        case rel=>exact⟨eJ acc+1,sl+os,l'-1,aO (gh (rf≠2)||mb) r4,acc++[{x with name:=nm}],by go_num,by go_num,by go_num,by omega,rfl,by omega,by omega,by omega,by simp,by have:=EL.o;rwa [ao],abN.o,Rc.o,adQ⟩
     ·obtain rfl:k=eJ dh:=by omega
      have Re:ah (ri=(acc,l',r')):=by rw[ah,<-Vy.o,bt];rfl
      have HB3:ah (gz w lo b bs (eS oM (eJ ms) cM) (eS (eK ⟨gF,0,eL⟩) (eJ fs) cF) ms w.heap.size r' ((done++[⟨zu,acc⟩])++fs.drop (eJ done+1)) vs wr):=by have:=HB2.o;rw[bt,List.append_nil]at this;rw[ah,ao];exact this
      rw[Re.o]at GW;simp only at GW;clear Re Vy HB2;go_wp2_with fail;go_roundg (eJ fs-(eJ done+1))
      case measure=>omega
      case rel=>exact⟨eJ done+1,l',r',done++[⟨zu,acc⟩],by go_num,rfl,by omega,rfl,by omega,by omega,by simp,HB3.o,GW.o,hrl2⟩
   ·obtain rfl:n=eJ fs:=by omega
    have HE2:ah (res=(done,l,r)):=by rw[ah,<-HE.o,bt];rfl
    have HB2:ah (gz w lo b bs (eS oM (eJ ms) cM) (eS oF (eJ fs) cF) ms w.heap.size r done vs wr):=by have:=HB.o;rwa [bt,List.append_nil]at this
    go_wp2_with fail;go_meet;exact⟨l,r,done,rfl,by omega,by omega,HB2.o,HE2.o⟩
 case rest =>
 obtain⟨l,r,done,rfl,hl3,hl4,hB,rfl⟩:=hcut;have HB:ah _:=hB;clear hB HB1 c1 abJ;have hd:gh (l=0)=(l==0):=by rw[cx];simp
 go_wp2_with fail;refine(dx b _ _ _ HB.o.r.rd).mono ?_;rintro e w4 ⟨rfl,h4,m4⟩;have iH:ah _:=HB.o.read h4 m4;clear h4 m4;go_wp2_with fail;go_end0;exact⟨rfl,iH.o.r⟩
theorem AA:∀(k:Nat) (q:PR) (last:tLB) (acc:List aB),eJ (mapsP k q last acc).1=eJ acc+k
 |0,_,_,_=>rfl
 |k+1,q,last,acc=>by rw[mapsP,AA k];simp;omega
theorem Dq:∀(k:Nat) (q:PR) (last:tLB) (all:Nat) (acc:List gL),eJ (headsP k q last all acc).1=eJ acc+k
 |0,_,_,_,_=>rfl
 |k+1,q,last,all,acc=>by rw[headsP,Dq k];simp;omega
theorem Dr:∀(k:Nat) (q:PR) (last:tLB) (all:Nat) (acc:List gL),all=JF acc->(headsP k q last all acc).2.1=JF (headsP k q last all acc).1
 |0,_,_,_,_,h=>h
 |k+1,q,last,all,acc,h=>by rw[headsP];exact Dr k _ _ _ _ (by rw[h];simp[JF])
theorem Dt:∀(k:Nat) (q:PR) (last:tLB) (all:Nat) (acc:List gL),eJ (headsP k q last all acc).2.2.rest<=eJ q.rest
 |0,_,_,_,_=>bh _
 |k+1,q,last,all,acc=>by
  rw[headsP];refine ab (Dt k _ _ _ _) ?_;show(jE (dV q).2).2.rest.length<=_
  exact ab (zt _) (uU _)
theorem FK(sl:tLB):∀(f p:Nat) (acc:List PI) (st:List Bool) (l:List PI) (st':List Bool),codeL sl (eJ sl/8) f p acc st=eK (l,st')->eJ acc<=p->p<=eJ sl/8->eJ l<=eJ sl/8
 |0,p,acc,st,l,st',h,_,_=>by cases h
 |f+1,p,acc,st,l,st',h,ha,hp=>by
  rw[codeL]at h;split at h
  ·rename_i hlt
   split at h
   ·cases h
   ·rename_i x hx
    have h1:=JD _ _ hx;have h2:=(N7 _ _ hx).slots;rw[cw]at h1;exact FK sl f _ _ _ l st' h (by simp;omega) (by omega)
  ·cases h;omega
theorem Rf(sl:tLB)(q:PR):eJ (codeP sl q).1<=eJ sl/8:=by
 unfold codeP;split
 ·simp
 ·rename_i l st h
  exact FK sl _ 0 [] _ l st h (bh _) (ar _)
theorem Mi(sl:tLB)(q:PR):(codeP sl q).2.rest=q.rest:=by unfold codeP;split<;>rfl
theorem Du:∀(hs:List gL) (r:PR) (acc:List bz) (B:Nat),(∀h∈hs,h.slots<=B)->(∀f∈acc,eJ f.code<=B)->eJ (codesP hs r acc).1=eJ acc+eJ hs/\(∀f∈(codesP hs r acc).1,eJ f.code<=B)/\(codesP hs r acc).2.rest.length<=eJ r.rest
 |[],r,acc,B,_,ha=>⟨rfl,ha,bh _⟩
 |h::hs,r,acc,B,hh,ha=>by
  rw[codesP];have h1:=Rf (dK (h.slots*8) r).1 (dK (h.slots*8) r).2;have h2:=N8 (h.slots*8) r;have h3:=hh h (by simp)
  obtain⟨e1,e2,e3⟩:=Du hs (codeP (dK (h.slots*8) r).1 (dK (h.slots*8) r).2).2 (acc++[⟨h.name,(codeP (dK (h.slots*8) r).1 (dK (h.slots*8) r).2).1⟩]) B (λx hx=>hh x (cy _ hx)) (λf hf=>by
   rcases List.mem_append.1 hf with h'|h'
   ·exact ha f h'
   ·rw[List.mem_singleton.1 h'];show(codeP (dK (h.slots*8) r).1 (dK (h.slots*8) r).2).1.length<=B
    omega)
  refine⟨by rw[e1];simp;omega,e2,ab e3 ?_⟩;rw[Mi];exact take_len _ _
theorem Dv(q:PR):eJ (jU q).1<=256/\(∀f∈(jU q).1,eJ f.code<=2000)/\(jU q).2.rest.length<=eJ q.rest:=by
 have h1:=jW q;have hl:=gX q;have hfp:jU q=if(aO (gh ((headsP (oneP q).1 (aO (gh ((oneP q).1<=16)) (oneP q).2) [] 0 []).2.1<=200)) (headsP (oneP q).1 (aO (gh ((oneP q).1<=16)) (oneP q).2) [] 0 []).2.2).bad then([],aO (gh ((headsP (oneP q).1 (aO (gh ((oneP q).1<=16)) (oneP q).2) [] 0 []).2.1<=200)) (headsP (oneP q).1 (aO (gh ((oneP q).1<=16)) (oneP q).2) [] 0 []).2.2)else codesP (headsP (oneP q).1 (aO (gh ((oneP q).1<=16)) (oneP q).2) [] 0 []).1 (aO (gh ((headsP (oneP q).1 (aO (gh ((oneP q).1<=16)) (oneP q).2) [] 0 []).2.1<=200)) (headsP (oneP q).1 (aO (gh ((oneP q).1<=16)) (oneP q).2) [] 0 []).2.2) []:=rfl;rw[hfp];have e1:=Dq (oneP q).1 (aO (gh ((oneP q).1<=16)) (oneP q).2) [] 0 [];have e2:=Dr (oneP q).1 (aO (gh ((oneP q).1<=16)) (oneP q).2) [] 0 [] rfl;have e3:eJ (headsP (oneP q).1 (aO (gh ((oneP q).1<=16)) (oneP q).2) [] 0 []).2.2.rest<=eJ q.rest:=ab (Dt _ _ _ _ _) hl;generalize headsP (oneP q).1 (aO (gh ((oneP q).1<=16)) (oneP q).2) [] 0 []=hd at *;split
 ·exact⟨by simp,λf hf=>(by cases hf),e3⟩
 ·rename_i hb
  have ht:hd.2.1<=200:=by simp[aO]at hb;omega
  obtain⟨k1,k2,k3⟩:=Du hd.1 (aO (gh (hd.2.1<=200)) hd.2.2) [] 200 (λh hm=>by have:=JG _ h hm;omega) (λf hf=>(by cases hf));simp only[b5]at e1 k1;exact⟨by omega,λf hf=>ab (k2 f hf) (by omega),ab k3 e3⟩
def mh(w:tW)(bs:tLN)(d:List aB×List bz×PR)(e:Ending)(w':tW):Prop :=
 ∃vM vF vs,e=fW (jl #[fY #[vM,vF],fX (!d.2.2.bad)])/\aa af w w'/\(∃o n c o' n' c',vM=eS o n c/\vF=eS o' n' c') /\
  (d.2.2.bad=fj->Sl w' 100 4 vM (eJ d.1) (d.1.flatMap aB.cells)/\pR w' w.heap.size bs vF d.2.1 vs)
structure BZ(w:tW)(q:PR)(w':tW):Prop where
 rd:eu w' (w.heap.size+1) q
 rs:au w' w.heap.size #[vN,vN] 90
 md:aa af w w'
theorem BZ.read{w w' w'':tW}{q q':PR}(h:BZ w q w')(hr:eu w'' (w.heap.size+1) q')(m:aa (Only (w.heap.size+1)) w' w''):BZ w q' w'' :=
 ⟨hr,h.rs.ai m (show ¬w.heap.size=w.heap.size+1 by omega),h.md.step m (λi hi e=>by have:i=w.heap.size+1:=e;omega)⟩
theorem EM{s:tLB}{a1:tLB}{q1 q2:PR}{n3:Nat}{q3 q4:PR}{ms:List aB}{q5:PR}{fs:List bz}{q6:PR}{gs:List bz}{q7:PR}(h1:dK 4 ⟨s,fj⟩=(a1,q1))(h2:aO (a1==[83,80,79,76]) q1=q2)(h3:oneP q2=(n3,q3))(h4:aO (gh (n3=1)) q3=q4)(h5:mapsP (oneP q4).1 (aO (gh ((oneP q4).1<=8)) (oneP q4).2) [] []=(ms,q5))(h6:jU q5=(fs,q6))(h7:Fz ms fs q6=(gs,q7)):iC s=(ms,gs,aO (q7.rest==[]) q7):=by unfold iC;simp only[h1,h2,h3,h4,h5,h6,h7]
theorem pR.lower{w:tW}{lo lo':Nat}{bs:tLN}{v:fa}{fs:List bz}{vs:tLV}(h:pR w lo bs v fs vs)(hl:lo'<=lo):pR w lo' bs v fs vs :=
 ⟨h.len,h.sl,h.cd,h.ok,λk hk=>ab hl (h.own k hk),λu hu k hk=>ab hl (h.ma u hu k hk),h.ne⟩
theorem Mj(w:tW)(wT:tW)(tv:fa)(bs:tLN)(hT:aM 0 wT tv bs az)(mT:aa af wT w)(s:tLB)(hs:eJ s<=jz):fS prog 61 #[tv,vI 1,eR (T s),.func (.func 156) #[] #[]] w λe w'=>mh w bs (iC s) e w':=by
 obtain⟨oT,cT,hv,_⟩:=hT.sl.view;subst hv;have HT:=aq hT;have Ew:=aq mT;clear hT mT;have hTw:=Ew.o.size;obtain⟨a1,q1,h1⟩:∃a q,dK 4 ⟨s,fj⟩=(a,q):=⟨_,_,rfl⟩
 obtain⟨q2,h2⟩:∃q2,aO (a1==[83,80,79,76]) q1=q2:=⟨_,rfl⟩
 obtain⟨n3,q3,h3⟩:∃a q,oneP q2=(a,q):=⟨_,_,rfl⟩
 obtain⟨q4,h4⟩:∃q,aO (gh (n3=1)) q3=q:=⟨_,rfl⟩
 obtain⟨ms,q5,h5⟩:∃a q,mapsP (oneP q4).1 (aO (gh ((oneP q4).1<=8)) (oneP q4).2) [] []=(a,q):=⟨_,_,rfl⟩
 obtain⟨fs,q6,h6⟩:∃a q,jU q5=(a,q):=⟨_,_,rfl⟩
 obtain⟨gs,q7,h7⟩:∃a q,Fz ms fs q6=(a,q):=⟨_,_,rfl⟩
 rw[EM h1 h2 h3 h4 h5 h6 h7];have l1:eJ q1.rest<=jz:=by have:=take_len 4 ⟨s,fj⟩;rw[h1]at this;exact ab this hs
 have l2:eJ q2.rest<=jz:=by rw[<-h2];exact l1
 have l3:eJ q3.rest<=jz:=by have:=gX q2;rw[h3]at this;exact ab this l2
 have l4:eJ q4.rest<=jz:=by rw[<-h4];exact l3
 have l5:eJ q5.rest<=jz:=by have:=Aw (oneP q4).1 (aO (gh ((oneP q4).1<=8)) (oneP q4).2) [] [];rw[h5]at this;exact ab this (ab (gX q4) l4)
 have m5:eJ ms<=1000:=by have:=AA (oneP q4).1 (aO (gh ((oneP q4).1<=8)) (oneP q4).2) [] [];rw[h5]at this;have:=jW q4;simp at *;omega
 obtain⟨f6,c6,l6⟩:=Dv q5;rw[h6]at f6 c6 l6;simp only at f6 c6 l6;have l6':=ab l6 l5;have C1:ah (∀w b,eu w b ⟨s,fj⟩->fS prog 97 #[vP b,vI 4] w λe w'=>e=fW (eR (T a1))/\eu w' b q1/\aa (Only b) w w'):=λw b h=>by have:=qd b ⟨s,fj⟩ 4 w h hs (by decide);rw[h1]at this;exact this
 have C2:=aq (λw b h=>by have:=dx b q1 (a1==[83,80,79,76]) w h;rw[h2]at this;exact this);have C3:ah (∀w b,eu w b q2->fS prog 98 #[vP b] w λe w'=>e=fW (vI n3)/\eu w' b q3/\aa (Only b) w w'):=λw b h=>by have:=l8 b q2 w h l2;rw[h3]at this;exact this
 have C4:ah (∀w b,eu w b q3->fS prog 96 #[vP b,fX ((n3:Int)==1)] w λe w'=>e=fW (jl #[])/\eu w' b q4/\aa (Only b) w w'):=λw b h=>by
  have:=dx b q3 (gh (n3=1)) w h;rw[h4]at this
  rwa [show((n3:Int)==1)=gh (n3=1) by rw[cx];simp;omega]
 have C5:ah (∀w b,eu w b q4->fS prog 99 #[vP b] w λe w'=>Di w b q5 ms e w'):=λw b h=>by have:=FC b q4 w h l4;rw[h5]at this;exact this
 have C6:ah (∀w b,eu w b q5->aa af wT w->wT.heap.size<=b->fS prog 100 #[vP b,eS oT (eJ bs) cT] w λe w'=>Az w b bs q6 fs e w'):=λw b h m hb=>by have:=FI w b q5 h l5 wT _ bs HT.o m hb;rw[h6]at this;exact this
 have C7:ah (∀w b lo vM vF vs,eu w b q6->aa af wT w->wT.heap.size<=b->wT.heap.size<=lo->Sl w 100 4 vM (eJ ms) (ms.flatMap aB.cells)->pR w lo bs vF fs vs->fS prog 156 #[vP b,fY #[vM,vF]] w λe w'=>e=fW (jl #[])/\BX w lo b bs q7 vF gs vs w'):=λw b lo vM vF vs h m hb hlo hM hF=>by have:=Ra w b q6 h l6' wT _ bs HT.o m hb lo hlo ms m5 vM hM fs f6 c6 vF vs hF;rw[h7]at this;exact this
 clear h1 h2 h3 h4 h5 h6 h7 l1 l2 l3 l4 l5 l6 l6' m5 f6 c6 HT
 have D0:ah (BZ w ⟨s,fj⟩ ((w.alloc (fL #[vN,vN] 90)).alloc (fL #[eR (T s),fX fj] 194))) :=
  ⟨by have:=au.new (w.alloc (fL #[vN,vN] 90)) #[eR (T s),fX fj] 194;simpa [eu]using this,(au.new _ _ _).alloc _,aw.alloc _⟩
 have hcmp:((T a1).toList==[83,80,79,76])=(a1==[83,80,79,76]):=by simp[T]
 have hb:wT.heap.size<=w.heap.size+1:=by omega
 go_in;go_wp2_with fail;refine(C1.o _ _ D0.o.rd).mono ?_;rintro e w1 ⟨rfl,h1,m1⟩;have D1:=aq (D0.o.read h1 m1);clear D0 h1 m1;go_wp2_with fail;refine(C2.o _ _ D1.o.rd).mono ?_;rintro e w2 ⟨rfl,h2,m2⟩;have D2:=aq (D1.o.read h2 m2);clear D1 h2 m2;go_wp2_with fail;refine(C3.o _ _ D2.o.rd).mono ?_;rintro e w3 ⟨rfl,h3,m3⟩;have D3:=aq (D2.o.read h3 m3);clear D2 h3 m3;go_wp2_with fail;refine(C4.o _ _ D3.o.rd).mono ?_;rintro e w4 ⟨rfl,h4,m4⟩;have D4:=aq (D3.o.read h4 m4);clear D3 h4 m4;go_wp2_with fail;refine(C5.o _ _ D4.o.rd).mono ?_;rintro e w5 ⟨vM,rfl,hM⟩;obtain⟨oM,cM,rfl,_⟩:=hM.sl.view;have D5:=aq (D4.o.read hM.rd hM.md);have jo:=aq hM.sl;have HML:=aq hM.sl.lt;clear D4 hM;have VA:ah (BZ w q5 (w5.alloc (fL #[eS oM (eJ ms) cM,vN] 90))):=⟨au.alloc D5.o.rd _,D5.o.rs.alloc _,D5.o.md.alloc _⟩
 have HPb:=aq (au.new w5 #[eS oM (eJ ms) cM,vN] 90);have Mk:ah (Sl (w5.alloc (fL #[eS oM (eJ ms) cM,vN] 90)) 100 4 (eS oM (eJ ms) cM) (eJ ms) (ms.flatMap aB.cells)):=jo.o.ai ((aa.refl af _).alloc _) (λ_ _=>id);have h5s:=D5.o.rd.lt;clear D5 jo;go_wp2_with fail;refine(C6.o _ _ VA.o.rd (Ew.o.trans VA.o.md) hb).mono ?_;rintro e w6 ⟨vF,vs,rfl,h6,hF,m6⟩;obtain⟨oF,cF,rfl,_⟩:=hF.sl.view;have D6:=aq (VA.o.read h6 m6);have Dw:=aq (HPb.o.ai m6 (show ¬w5.heap.size=w.heap.size+1 by omega));have xW:=aq (Mk.o.ai m6 (λk hk e=>Mk.o.aA VA.o.rd (by decide) (hk.trans (congrArg eK e))));have ZZ:ah (pR w6 (w5.heap.size+1) bs (eS oF (eJ fs) cF) fs vs):=by have h':=hF;simp at h';exact h'
 clear h6 hF m6 VA HPb Mk;have y1:=Dw.o.c1;have f1:=Dw.o.frozen 1;have GX:ah (au (w6.setCell ⟨w5.heap.size,1,eL⟩ (eS oF (eJ fs) cF)) w5.heap.size #[eS oM (eJ ms) cM,eS oF (eJ fs) cF] 90):=Dw.o.set 1 _;have D7:ah (BZ w q6 (w6.setCell ⟨w5.heap.size,1,eL⟩ (eS oF (eJ fs) cF))):=⟨au.setOther D6.o.rd (show w5.heap.size≠w.heap.size+1 by omega) _,au.setOther D6.o.rs (show w5.heap.size≠w.heap.size by omega) _,D6.o.md.set (.inr (show w.heap.size<=w5.heap.size by omega)) _⟩
 have zw:ah (Sl (w6.setCell ⟨w5.heap.size,1,eL⟩ (eS oF (eJ fs) cF)) 100 4 (eS oM (eJ ms) cM) (eJ ms) (ms.flatMap aB.cells)):=xW.o.ai ((aa.refl (Only w5.heap.size) w6).bA _ _) (λk hk e=>xW.o.aA Dw.o (by decide) (hk.trans (congrArg eK e)));have HF7:ah (pR (w6.setCell ⟨w5.heap.size,1,eL⟩ (eS oF (eJ fs) cF)) (w5.heap.size+1) bs (eS oF (eJ fs) cF) fs vs):=ZZ.o.ai ((aa.refl (Only w5.heap.size) w6).bA _ _) (λk hk e=>by have:=ZZ.o.own k hk;have:k=w5.heap.size:=e;omega) (λu hu k hk e=>by have:=ZZ.o.ma u hu k hk;have:k=w5.heap.size:=e;omega);have z0:=GX.o.c0;have z1:=GX.o.c1;clear Dw xW ZZ D6;go_wp2_with fail;refine(C7.o _ _ (w5.heap.size+1) _ _ vs D7.o.rd (Ew.o.trans D7.o.md) hb (by omega) zw.o HF7.o).mono ?_;rintro e w8 ⟨rfl,hR⟩;have D8:ah (BZ w q7 w8):=⟨hR.rd,D7.o.rs.ai hR.md (λe=>by rcases e with e|e<;>omega),D7.o.md.step hR.md (λi hi e=>by rcases e with e|e<;>omega)⟩
 have VB:=aq (GX.o.ai hR.md (λe=>by rcases e with e|e<;>omega))
 have Iu:=aq (zw.o.ai hR.md (λk hk e=>by
  rcases e with e|e
  ·exact zw.o.aA D7.o.rd (by decide) (hk.trans (congrArg eK e))
  ·have:=HML.o k hk;omega))
 have HF8:=aq hR.fn;clear hR D7 GX zw HF7 z0 z1 y1 f1;obtain⟨r7,b7⟩:=q7;have x0:w8.cell? ⟨w.heap.size+1,0,eL⟩=eK (eR (T r7)):=D8.o.rd.cell 0;go_wp2_with fail;refine(dx _ _ _ _ D8.o.rd).mono ?_;rintro e w9 ⟨rfl,h9,m9⟩;simp only;rw[show(T r7).toList=r7 by simp[T]]at h9;have D9:=aq (D8.o.read h9 m9);have VC:=aq (VB.o.ai m9 (show ¬w5.heap.size=w.heap.size+1 by omega));have HM9:=aq (Iu.o.ai m9 (λk hk e=>Iu.o.aA D8.o.rd (by decide) (hk.trans (congrArg eK e))));have HF9:=aq (HF8.o.read D8.o.rd m9);clear h9 m9 D8 VB Iu HF8 x0;have HQ:ah (∃q8,aO r7.isEmpty ⟨r7,b7⟩=q8):=⟨_,rfl⟩
 obtain⟨⟨r8,b8⟩,hq8⟩:=HQ.o;rw[hq8]at D9;have HQ8:=aq hq8;clear hq8 HQ;have x1:w9.cell? ⟨w.heap.size+1,1,eL⟩=eK (fX b8):=D9.o.rd.cell 1;have g0:=D9.o.rs.c0;have g1:=D9.o.rs.c1;have fg:=D9.o.rs.frozen;cases b8 with
 |true =>go_wp2_with fail;refine kx (ay results61 _ _ w.heap.size 90 _ (0,0) _ _ rfl rfl ((D9.o.rs.set 0 _).set 1 _) underlying90 rfl (by kernel_rfl)) rfl ?_;rw[HQ8.o];exact⟨_,_,[],rfl,(D9.o.md.set (.inr (bh _)) _).set (.inr (bh _)) _,⟨_,_,_,_,_,_,rfl,rfl⟩,λh=>(by cases h)⟩
 |false =>have z0:=VC.o.c0;have z1:=VC.o.c1;have HB:ah (au ((w9.setCell ⟨w.heap.size,0,eL⟩ (eS oM (eJ ms) cM)).setCell ⟨w.heap.size,1,eL⟩ (eS oF (eJ fs) cF)) w.heap.size #[eS oM (eJ ms) cM,eS oF (eJ fs) cF] 90):=(D9.o.rs.set 0 _).set 1 _;have fK:ah (aa (Only w.heap.size) w9 ((w9.setCell ⟨w.heap.size,0,eL⟩ (eS oM (eJ ms) cM)).setCell ⟨w.heap.size,1,eL⟩ (eS oF (eJ fs) cF))):=(ax.bA _ _).bA _ _;go_wp2_with fail;refine kx (ay results61 _ _ w.heap.size 90 _ (0,0) _ _ rfl rfl HB.o underlying90 rfl (by kernel_rfl)) rfl ?_;rw[HQ8.o];exact⟨_,_,vs,rfl,D9.o.md.step fK.o (λi hi e=>by have:i=w.heap.size:=e;omega),⟨_,_,_,_,_,_,rfl,rfl⟩,λ_=>⟨HM9.o.ai fK.o (λk hk e=>HM9.o.aA D9.o.rs (by decide) (hk.trans (congrArg eK e))),((HF9.o.ai fK.o (λk hk e=>by have:=HF9.o.own k hk;have:k=w.heap.size:=e;omega) (λu hu k hk e=>by have:=HF9.o.ma u hu k hk;have:k=w.heap.size:=e;omega)).lower (by omega))⟩⟩
theorem Ml(w:tW)(wT:tW)(tv:fa)(bs:tLN)(hT:aM 0 wT tv bs az)(mT:aa af wT w)(s:tLB)(hs:eJ s<=jz):fS prog 78 #[tv,eR (T s)] w λe w'=>mh w bs (iC s) e w':=by
 have HD:=aq (λw' m=>Mj w' wT tv bs hT (mT.trans m) s hs);clear hT mT;generalize iC s=d at *;have hB:=au.new w #[vN,vN] 90;have HB:=aq hB;clear hB;go_in;go_wp2_with fail;refine(HD.o _ aw).mono ?_;rintro e w1 ⟨vM,vF,vs,rfl,m1,⟨oM,nM,cM,oF,nF,cF,rfl,rfl⟩,hgood⟩;have hB1:=HB.o.ai m1 id;have HB1:=aq hB1;have g0:=hB1.c0;have g1:=hB1.c1;have fg:=hB1.frozen;have bU:=aq (aw.trans m1);have HG:ah _:=hgood;clear m1 hB1 hgood;have fK:ah (aa (Only w.heap.size) w1 ((w1.setCell ⟨w.heap.size,0,eL⟩ (eS oM nM cM)).setCell ⟨w.heap.size,1,eL⟩ (eS oF nF cF))):=(ax.bA _ _).bA _ _;have GV:ah (au ((w1.setCell ⟨w.heap.size,0,eL⟩ (eS oM nM cM)).setCell ⟨w.heap.size,1,eL⟩ (eS oF nF cF)) w.heap.size #[eS oM nM cM,eS oF nF cF] 90):=(HB1.o.set 0 _).set 1 _;go_wp2_with fail;refine kx (ay results78 _ _ w.heap.size 90 _ (0,0) _ (fX (!d.2.2.bad)) rfl rfl GV.o underlying90 rfl (by kernel_rfl)) rfl ?_;refine⟨eS oM nM cM,eS oF nF cF,vs,rfl,bU.o.step fK.o (λi hi e=>by have:i=w.heap.size:=e;omega),⟨_,_,_,_,_,_,rfl,rfl⟩,λhb=>?_⟩;obtain⟨hM,hF⟩:=HG.o hb;have hws:(w.alloc (fL #[vN,vN] 90)).heap.size=w.heap.size+1:=by simp
 rw[hws]at hF;exact⟨hM.ai fK.o (λk hk e=>hM.aA HB1.o (by decide) (hk.trans (congrArg eK e))),(hF.ai fK.o (λk hk e=>by have:=hF.own k hk;have:k=w.heap.size:=e;omega) (λu hu k hk e=>by have:=hF.ma u hu k hk;have:k=w.heap.size:=e;omega)).lower (by omega)⟩
theorem Dx(w:tW)(tv:fa)(bs:tLN)(hO:aM 0 w tv bs az)(code:List PI)(hok:∀x∈code,gm x)(hl:eJ code<=10000)(vC:fa)(hC:Sl w 138 8 vC (eJ code) (fH bs code))(nm:tBA):fS prog 69 #[fY #[eR nm,vC]] w λe w'=>e=fW (vI (aU code))/\aa af w w':=by
 obtain⟨oC,cC,rfl,_⟩:=hC.view;have HO:=aq hO;have HC:=aq hC;have Eu:=aq hok;have JC:ah (∀k,fQ code k<=20000):=λk=>by have:=Ci code Eu.o k;omega
 clear hO hC hok;have hM0:aa af w (w.alloc (fL #[eR nm,eS oC (eJ code) cC] 96)):=aw;have eW:=aq hM0;clear hM0;go_in;go_wp2_with fail;go_loopw [3,9] (λsv i wl=>∃k:Nat,k<=eJ code/\i=vI k/\sv=vI (fQ code k)/\aa af w wl) (λ_ i _=>eJ code-(intOf i).toNat)
 case atStart=>exact⟨0,ar _,rfl,rfl,eW.o⟩
 case round =>
  obtain⟨k,hk,rfl,rfl,hM⟩:=hrel;have HM:=aq hM;clear hM eW;by_cases hlt:k<eJ code
  ·have PE:=aq (wy code k hlt);obtain⟨g,rfl,hg,q0,q1,q2,q3,q4,q5,q6,q7⟩:=l9 (HC.o.ai HM.o (λ_ _=>id)) rfl rfl k hlt;have hx:=Eu.o code[k] (cq hlt);have hA:=kF (HO.o.ai HM.o) code[k] hx.k;have hsum:=JC.o k;have hsl:=hx.slots;clear hx;generalize code[k].o=o at *;generalize code[k].jump=jmp at *;generalize code[k].d=xd at *;generalize code[k].s=xs at *;generalize code[k].num=xn at *;generalize code[k].high=xh at *;generalize code[k].name=xm at *;generalize bs[code[k].k]?.getD 0=b at *;have hA1:=hA.ai (ax.alloc (fL #[vP b,vB xd,vB xs,.int .i16 jmp,vJ xn,vJ xh,eR ByteArray.empty,eR (T xm)] 138));obtain⟨y2,_,_,_⟩:=hA1.cells;clear hA hA1;generalize fQ code k=sk at *;generalize o.slots=os at *;go_wp2_with fail;go_roundw
   case rel=>exact⟨k+1,by omega,by go_num,by rw[PE.o];go_num,HM.o.alloc _⟩
   case measure=>simp[intOf];omega
  ·obtain rfl:k=eJ code:=by omega
   have HF:ah (fQ code (eJ code)=aU code):=by rw[ah,fQ,cG];rfl
   rw[HF.o];go_wp2_with fail;go_ret;exact⟨rfl,HM.o⟩

def b8(l:List Int):tLB:=l.map (λx=>UInt8.ofNat x.toNat)
theorem lI(l:List Int):eJ (b8 l)=eJ l:=by simp[b8]
def gD(s:tBA):tLB:=b8 [(s.size:Int)%256]++BL s
theorem kI(s:tBA):eJ (gD s)=s.size+1:=by simp[gD,b8,TQ]
def PI.VD(bs:tLN)(x:PI)(lab:tBA):dM:={x.ins bs with label:=lab}
def py(bs:tLN)(l:List (PI×tBA)):tLV:=l.flatMap (λx=>(x.1.VD bs x.2).eQ)
def iD(w:tW)(v:fa)(bs:tLN)(code:List PI):Prop:=∃bX:List tBA,eJ bX=eJ code/\Sl w 138 8 v (eJ code) (py bs (code.zip bX))
theorem iD.ai{w w':tW}{v:fa}{bs:tLN}{code:List PI}{S:Nat->Prop}(h:iD w v bs code)(m:aa S w w')(hS:∀k,v.ownBlock=eK k->¬S k):iD w' v bs code:=by obtain⟨bX,h1,h2⟩:=h;exact⟨bX,h1,h2.ai m hS⟩
theorem iD.view{w:tW}{v:fa}{bs:tLN}{code:List PI}(h:iD w v bs code):∃o cap,v=eS o (eJ code) cap/\True:=by obtain⟨bX,_,h2⟩:=h;obtain⟨o,cap,hv,_⟩:=h2.view;exact⟨o,cap,hv,trivial⟩
theorem Dy{w:tW}{bs:tLN}{l:List PI}{v:fa}{n:Nat}(h:iD w v bs l)(hn:n=eJ l){o:Option Addr}{c:Nat}(hv:v=eS o n c)(k:Nat)(hk:k<eJ l):∃g lab,o=eK ⟨g,0,eL⟩/\g<w.heap.size/\w.cell? ⟨g,k*8,eL⟩=eK (vP (bs[l[k].k]?.getD 0))/\w.cell? ⟨g,k*8+1,eL⟩=eK (vB l[k].d)/\w.cell? ⟨g,k*8+2,eL⟩=eK (vB l[k].s) /\ w.cell? ⟨g,k*8+3,eL⟩=eK (.int .i16 l[k].jump)/\w.cell? ⟨g,k*8+4,eL⟩=eK (vJ l[k].num)/\w.cell? ⟨g,k*8+5,eL⟩=eK (vJ l[k].high)/\w.cell? ⟨g,k*8+6,eL⟩=eK (eR lab)/\w.cell? ⟨g,k*8+7,eL⟩=eK (eR (T l[k].name)):=by
 obtain⟨bX,h1,h0⟩:=h;subst hn;obtain⟨o',c',hv',h2⟩:=h0.view;rw[hv]at hv';cases hv';obtain⟨g,cs,rfl,hb,ht,_⟩:=h2 (by omega);have hz:k<eJ (l.zip bX):=by rw[List.length_zip,h1];omega
 have hkl:k<eJ bX:=by omega
 have e:(l.zip bX)[k]=(l[k],bX[k]):=cH;have hc:∀j,j<8->w.cell? ⟨g,k*8+j,eL⟩=((l[k].VD bs bX[k]).eQ)[j]?:=λj hj=>by rw[aV hb ht _ (by omega),py,flat_get (λx:PI×tBA=>(x.1.VD bs x.2).eQ) 8 (λ_=>rfl) (l.zip bX) k j hz hj,e]
 exact⟨g,bX[k],rfl,hb.lt,hc 0 (by omega),hc 1 (by omega),hc 2 (by omega),hc 3 (by omega),hc 4 (by omega),hc 5 (by omega),hc 6 (by omega),hc 7 (by omega)⟩
theorem JO(w:tW)(tv:fa)(bs:tLN)(hO:aM 0 w tv bs az)(code:List PI)(hok:∀x∈code,gm x)(hl:eJ code<=10000)(vC:fa)(hC:iD w vC bs code)(nm:tBA):fS prog 69 #[fY #[eR nm,vC]] w λe w'=>e=fW (vI (aU code))/\aa af w w':=by
 obtain⟨oC,cC,rfl,_⟩:=hC.view;have HO:=aq hO;have HC:=aq hC;have Eu:=aq hok;have JC:ah (∀k,fQ code k<=20000):=λk=>by have:=Ci code Eu.o k;omega
 clear hO hC hok;have hM0:aa af w (w.alloc (fL #[eR nm,eS oC (eJ code) cC] 96)):=aw;have eW:=aq hM0;clear hM0;go_in;go_wp2_with fail;go_loopw [3,9] (λsv i wl=>∃k:Nat,k<=eJ code/\i=vI k/\sv=vI (fQ code k)/\aa af w wl) (λ_ i _=>eJ code-(intOf i).toNat)
 case atStart=>exact⟨0,ar _,rfl,rfl,eW.o⟩
 case round =>
  obtain⟨k,hk,rfl,rfl,hM⟩:=hrel;have HM:=aq hM;clear hM eW;by_cases hlt:k<eJ code
  ·have PE:=aq (wy code k hlt);obtain⟨g,lab,rfl,hg,q0,q1,q2,q3,q4,q5,q6,q7⟩:=Dy (HC.o.ai HM.o (λ_ _=>id)) rfl rfl k hlt;have hx:=Eu.o code[k] (cq hlt);have hA:=kF (HO.o.ai HM.o) code[k] hx.k;have hsum:=JC.o k;have hsl:=hx.slots;clear hx;generalize code[k].o=o at *;generalize code[k].jump=jmp at *;generalize code[k].d=xd at *;generalize code[k].s=xs at *;generalize code[k].num=xn at *;generalize code[k].high=xh at *;generalize code[k].name=xm at *;generalize bs[code[k].k]?.getD 0=b at *;have hA1:=hA.ai (ax.alloc (fL #[vP b,vB xd,vB xs,.int .i16 jmp,vJ xn,vJ xh,eR lab,eR (T xm)] 138));obtain⟨y2,_,_,_⟩:=hA1.cells;clear hA hA1;generalize fQ code k=sk at *;generalize o.slots=os at *;go_wp2_with fail;go_roundw
   case rel=>exact⟨k+1,by omega,by go_num,by rw[PE.o];go_num,HM.o.alloc _⟩
   case measure=>simp[intOf];omega
  ·obtain rfl:k=eJ code:=by omega
   have HF:ah (fQ code (eJ code)=aU code):=by rw[ah,fQ,cG];rfl
   rw[HF.o];go_wp2_with fail;go_ret;exact⟨rfl,HM.o⟩
def tM(l:tLB):tLV:=l.map (λb=>vB (b.toNat:Int))
theorem zx(a b:tLB):tM (a++b)=tM a++tM b:=by simp[tM]
theorem Mm:∀(l:List Int),(∀x∈l,0<=x/\x<=255)->tM (b8 l)=l.map (Value.int .u8)
 |[],_=>rfl
 |x::l,h=>by
  have hx:=h x (by simp);have e:((UInt8.ofNat x.toNat).toNat:Int)=x:=by rw[UInt8.toNat_ofNat'];omega
  have:=Mm l (λy hy=>h y (cy _ hy));simp only[tM,b8,cD,List.map_map]at this ⊢;rw[e];congr 1
def Out(w:tW)(v:fa)(l:tLB):Prop:=Sl w 5 1 v (eJ l) (tM l)
def mo(w:tW)(v:fa)(l:tLB)(e:Ending)(w':tW):Prop :=
 ∃v',e=fW v'/\Out w' v' l/\aa (λk=>v.ownBlock=eK k) w w'/\∀k,v'.ownBlock=eK k->v.ownBlock=eK k\/w.heap.size<=k
theorem Out.ai{w w':tW}{v:fa}{l:tLB}{S:Nat->Prop}(h:Out w v l)(m:aa S w w')(hS:∀k,v.ownBlock=eK k->¬S k):Out w' v l:=Sl.ai h m hS
theorem Out.quiet{w w':tW}{v:fa}{l:tLB}(h:Out w v l)(m:aa af w w'):Out w' v l:=h.ai m (λ_ _=>id)
theorem Z0:(prog.info? 5).map (λi=>(i.zero,i.size,i.bytes))=eK (eK (vB 0),1,1):=by kernel_rfl
theorem yn(l:List Int):∀u∈l.map (Value.int .u8),u.oneCell'=fR:=by intro u hu;obtain⟨x,_,rfl⟩:=List.mem_map.1 hu;rfl
theorem Out.app{w:tW}{v:fa}{l:tLB}{n:Nat}{ns:List Int}(h:∀x∈ns,0<=x/\x<=255)(hn:n=eJ l+eJ ns)(s:Sl w 5 1 v n (tM l++ns.map (Value.int .u8))):Out w v (l++b8 ns):=by unfold Out;rw[zx,Mm ns h,al,lI,<-hn];exact s
theorem Rh(s:tBA):Lib.strCells s=tM (BL s):=by simp[Lib.strCells,tM,BL]
theorem Dz{P:lj}(w:tW)(t u ty e:ju)(i:pN)(ht:P.underlying t=eK (.slice e))(hu:P.underlying u=eK .string)(hi:P.info? e=eK i)(hz:i.zero=eK (vB 0))(hsize:i.size=1) (hby:i.bytes=1) (v:fa) (n:Nat) (xs:tLV) (hown:Sl w e 1 v n xs) (s:tBA) (h63:n+s.size<=jz) (hbytes:n+s.size<=140737488355328):∃v' w',(Builtin.append_ #[t,u] ty #[v,eR s]).run P w=.ok v' w'/\Sl w' e 1 v' (n+s.size) (xs++tM (BL s))/\aa (λk=>v.ownBlock=eK k) w w' /\ (∀k,v'.ownBlock=eK k->v.ownBlock=eK k\/w.heap.size<=k):=by
 obtain⟨v',w',hr,h2,h3,_⟩:=cj (P:=P) w 0 t u ty e i ht hu hi hz hsize hby v n xs hown s h63 hbytes (ar _);rw[Rh]at h2;refine⟨v',w',hr,h2,aa.IJ h3,?_⟩;intro k hk;rcases hown.2 with⟨rfl,rfl⟩ |⟨g,cap,cur,rfl,_,hg,hn,hm,hcs,htk⟩
 ·obtain⟨v2,w2,hr2,h22,_⟩:=cj (P:=P) w w.heap.size t u ty e i ht hu hi hz hsize hby _ 0 xs ⟨hown.1,.inl ⟨rfl,rfl⟩⟩ s h63 hbytes (bh _);rw[hr]at hr2;cases hr2;exact .inr (World.ownsRow.lt h22 k hk).1
 ·by_cases hroom:n+s.size<=cap
  ·have hr2:=Lib.run_append_room_string (P:=P) w t u ty e i ht hu hi hsize g n cap cur hg s hroom (by simp at hcs;omega);rw[hr]at hr2;cases hr2;exact .inl hk
  ·have hr2:=Lib.run_append_grow_string (P:=P) w t u ty e i (vB 0) ht hu hi hz ⟨g,0,eL⟩ n cap xs (by rw[hsize];exact hown.1) (World.ownsRow.cells hown (g:=g) rfl) s (by omega) (by unfold jz at h63;omega) (by rw[hby];exact growslice_fits (by omega) (by omega));rw[hr]at hr2;cases hr2;cases hk;exact .inr (bh _)
theorem xE{P:lj}(w:tW){o:iz}{a:Act}{K:Act->tW->Prop}{Q:Exit->Act->tW->Prop}(sl x:pd)(t u:ju)(ho:o.op=.call {callee:=.builtin .append,args:=#[sl,x],argTypes:=#[t,u]})(e:ju) (i:pN) (ht:P.underlying t=eK (.slice e)) (hu:P.underlying u=eK .string) (hi:P.info? e=eK i) (hz:i.zero=eK (vB 0)) (hsize:i.size=1) (hby:i.bytes=1)(v:fa) (n:Nat) (xs:tLV) (hs:a.eval sl=v) (hown:Sl w e 1 v n xs) (s:tBA) (hx:a.eval x=eR s) (h63:n+s.size<=jz) (hbytes:n+s.size<=140737488355328)(h:∀v' w',Sl w' e 1 v' (n+s.size) (xs++tM (BL s))->aa (λk=>v.ownBlock=eK k) w w'->(∀k,v'.ownBlock=eK k->v.ownBlock=eK k\/w.heap.size<=k)->K (a.put o.dst v') w'):o.wp P a w K Q:=by obtain⟨v',w',hr,h2,h3,h4⟩:=Dz (P:=P) w t u o.type e i ht hu hi hz hsize hby v n xs hown s h63 hbytes;unfold Oper.wp execOp;simp only[ho,resolve,invoke,builtin,Sem.run_bind,Sem.run_pure,Result.andThen_ok,cI,cD,List.map_nil,hs,hx,hr];exact h v' w' h2 h3 h4
theorem zy{P:lj}(w:tW){ops:Array iz}{rest:List iz}{o:iz}{a:Act}{Q:Exit->Act->tW->Prop}(hgd:o.guard=eL)(sl x:pd)(t u:ju)(ho:o.op=.call {callee:=.builtin .append,args:=#[sl,x],argTypes:=#[t,u]})(e:ju) (i:pN) (ht:P.underlying t=eK (.slice e)) (hu:P.underlying u=eK .string) (hi:P.info? e=eK i) (hz:i.zero=eK (vB 0)) (hsize:i.size=1) (hby:i.bytes=1)(v:fa) (n:Nat) (xs:tLV) (hs:a.eval sl=v) (hown:Sl w e 1 v n xs) (s:tBA) (hx:a.eval x=eR s) (h63:n+s.size<=jz) (hbytes:n+s.size<=140737488355328)(h:∀v' w',Sl w' e 1 v' (n+s.size) (xs++tM (BL s))->aa (λk=>v.ownBlock=eK k) w w'->(∀k,v'.ownBlock=eK k->v.ownBlock=eK k\/w.heap.size<=k)->n9 P ops Q rest (a.put o.dst v') w'):n9 P ops Q (o::rest) a w :=
 pP hgd λ_ hK=>xE w sl x t u ho e i ht hu hi hz hsize hby v n xs hs hown s hx h63 hbytes λv' w' h2 h3 h4=>hK _ _ (h v' w' h2 h3 h4)
theorem iw:∃i:pN,prog.info? 5=eK i/\i.zero=eK (vB 0)/\i.size=1/\i.bytes=1:=by obtain⟨i,h,hq⟩:=Option.map_eq_some_iff.1 Z0;exact⟨i,h,congrArg (·.1) hq,congrArg (·.2.1) hq,congrArg (·.2.2) hq⟩
theorem zz{w w':tW}{v:fa}{k:Nat}(h:v.ownBlock=eK k\/w'.heap.size<=k)(m:w.heap.size<=w'.heap.size):v.ownBlock=eK k\/w.heap.size<=k:=by
 rcases h with h|h
 ·exact .inl h
 ·exact .inr (ab m h)
theorem qi{w w1:tW}{v v1 v2:fa}(h1:∀k,v1.ownBlock=eK k->v.ownBlock=eK k\/w.heap.size<=k)(h2:∀k,v2.ownBlock=eK k->v1.ownBlock=eK k\/w1.heap.size<=k)(m:w.heap.size<=w1.heap.size):∀k,v2.ownBlock=eK k->v.ownBlock=eK k\/w.heap.size<=k:=by
 intro k hk;rcases h2 k hk with h|h
 ·exact h1 k h
 ·exact .inr (ab m h)
theorem DA{w w1 w2:tW}{v v1:fa}(h1:aa (λk=>v.ownBlock=eK k) w w1)(hv:∀k,v1.ownBlock=eK k->v.ownBlock=eK k\/w.heap.size<=k)(h2:aa (λk=>v1.ownBlock=eK k) w1 w2):aa (λk=>v.ownBlock=eK k) w w2 :=
 ⟨h2.os.trans h1.os,h2.tape.trans h1.tape,h2.output.trans h1.output,ab h1.size h2.size,λk hk hS=>(h2.block k (bj hk h1.size) (λe=>by
  rcases hv k e with h|h
  ·exact hS h
  ·omega)).trans (h1.block k hk hS)⟩
theorem DB(w:tW)(v:fa)(l:tLB)(h:Out w v l)(hl:eJ l<=1000000)(n:Int):fS prog 147 #[v,vI n] w λe w'=>mo w v (l++b8 (lH n)) e w':=by
 obtain⟨iU,GY,GZ,G5,G6⟩:=iw;have HO:=aq h;have HB:ah (∀x∈lH n,0<=x/\x<=255):=λx hx=>by simp[lH]at hx;rcases hx with rfl|rfl<;>omega
 clear h;go_in;go_wp2_with (at_builtin;refine aQ _ rfl (.tmp 5) (.tmp 11) 30 rfl 5 iU (vB 0) 1 1 underlying30 GY GZ G5 G6 rfl (by decide) v (eJ l) (tM l) rfl (HO.o.quiet aw) ⟨w.heap.size,0,eL⟩ 2 2 ((lH n).map (Value.int .u8)) rfl rfl (bH _ _ _ _ rfl) (yn _) (by unfold jz;omega) (by omega) ?_;intro v2 w2 s2 m2 l2);go_ret;exact⟨_,rfl,Out.app HB.o rfl s2,aw.trans m2,λk hk=>zz (l2 k hk) ((aa.refl af w).alloc _).size⟩
theorem JP(w:tW)(v:fa)(l:tLB)(h:Out w v l)(hl:eJ l<=1000000)(n:Int)(_hn:-2147483648<=n/\n<=2147483647):fS prog 258 #[v,vJ n] w λe w'=>mo w v (l++b8 (oG n)) e w':=by
 obtain⟨iU,GY,GZ,G5,G6⟩:=iw;have HO:=aq h;have HB:ah (∀x∈oG n,0<=x/\x<=255):=λx hx=>by simp[oG]at hx;rcases hx with rfl|rfl|rfl|rfl<;>omega
 clear h;go_in;go_wp2_with (at_builtin;refine aQ _ rfl (.tmp 5) (.tmp 17) 30 rfl 5 iU (vB 0) 1 1 underlying30 GY GZ G5 G6 rfl (by decide) v (eJ l) (tM l) rfl (HO.o.quiet aw) ⟨w.heap.size,0,eL⟩ 4 4 ((oG n).map (Value.int .u8)) rfl rfl (bH _ _ _ _ rfl) (yn _) (by unfold jz;omega) (by omega) ?_;intro v2 w2 s2 m2 l2);go_ret;exact⟨_,rfl,Out.app HB.o rfl s2,aw.trans m2,λk hk=>zz (l2 k hk) ((aa.refl af w).alloc _).size⟩
theorem AB(w:tW)(v:fa)(l:tLB)(h:Out w v l)(hl:eJ l<=1000000)(s:tBA)(hs:s.size<=255):fS prog 148 #[v,eR s] w λe w'=>mo w v (l++gD s) e w':=by
 obtain⟨iU,GY,GZ,G5,G6⟩:=iw;have HO:=aq h;have HB:ah (∀x∈[(s.size:Int)],0<=x/\x<=255):=λx hx=>by simp at hx;subst hx;omega
 have HN:ah (l++gD s=l++b8 [(s.size:Int)]++BL s):=by rw[ah,gD,Int.emod_eq_of_lt (by omega) (by omega),ao]
 clear h;go_in
 go_wp2_with (first
  |(at_builtin;refine aQ _ rfl (.tmp 5) (.tmp 9) 30 rfl 5 iU (vB 0) 1 1 underlying30 GY GZ G5 G6 rfl (by decide) v (eJ l) (tM l) rfl (HO.o.quiet aw) ⟨w.heap.size,0,eL⟩ 1 1 ([(s.size:Int)].map (Value.int .u8)) rfl rfl (bH _ _ _ _ rfl) (yn _) (by unfold jz;omega) (by omega) ?_;intro v2 w2 s2 m2 l2;have S2:=aq s2;have L2:=aq (λk hk=>zz (l2 k hk) ((aa.refl af w).alloc _).size);have M2:=aq (aw.trans m2);clear s2 l2 m2)
  |(at_builtin;refine zy _ rfl (.tmp 10) (.tmp 11) 30 9 rfl 5 iU underlying30 underlying9 GY GZ G5 G6 v2 (eJ l+1) (tM l++[(s.size:Int)].map (Value.int .u8)) rfl S2.o s rfl (by unfold jz;omega) (by omega) ?_;intro v3 w3 s3 m3 l3))
 go_ret;refine⟨_,rfl,?_,DA M2.o L2.o m3,qi L2.o l3 M2.o.size⟩;have h1:tM (l++b8 [(s.size:Int)]++BL s)=tM l++[(s.size:Int)].map (Value.int .u8)++tM (BL s):=by rw[zx,zx,Mm _ HB.o]
 have h2:eJ (l++b8 [(s.size:Int)]++BL s)=eJ l+1+s.size:=by simp only[al,lI,TQ,ba,b5]
 rw[HN.o,Out,h1,h2];exact s3
def zA(code:Nat)(d s:Nat)(j n h:Int)(slots:Nat):tLB :=
 b8 [(code:Int),(d:Int)+16*s,j%256,j/256%256]++b8 (oG n)++(if slots=1 then []else [0,0,0,0]++b8 (oG h))
theorem VE(x:Int):IntKind.u8.wrap x=x%256:=by simp[IntKind.wrap,IntKind.bits,IntKind.signed]
theorem abO:∀d,d<16->∀s,s<16->bits BinOp.or IntKind.u8 ((d:Nat):Int) ((s:Nat)*16:Int)=d+16*s:=by decide +kernel
theorem Mo(w:tW)(v:fa)(l:tLB)(h:Out w v l)(hl:eJ l<=900000)(b:Nat)(cs:tAV)(code slots:Nat)(hb:au w b cs 146)(h0:cs[0]?=eK (vB code))(h2:cs[2]?=eK (vI slots))(d s:Nat) (j n hh:Int) (lab nm:tBA) (hc:code<=255) (hd:d<=15) (hs:s<=15) (_hj:-32768<=j/\j<=32767) (hn:-2147483648<=n/\n<=2147483647) (hhh:-2147483648<=hh/\hh<=2147483647) (hsl:slots<=2):fS prog 149 #[fY #[vP b,vB d,vB s,.int .i16 j,vJ n,vJ hh,eR lab,eR nm],v] w λe w'=>mo w v (l++zA code d s j n hh slots) e w':=by
 obtain⟨iU,GY,GZ,G5,G6⟩:=iw;have c0:w.cell? ⟨b,0,eL⟩=eK (vB code):=by rw[hb.cell 0];exact h0
 have c2:w.cell? ⟨b,2,eL⟩=eK (vI slots):=by rw[hb.cell 2];exact h2
 have hbl:=hb.lt;have HO:=aq h;have Tw:=aq hb;clear h hb;go_in;go_upto_region 1 with fail;have hor:=abO d (by omega) s (by omega);have hw1:IntKind.u8.wrap ((s:Int)*16)=(s:Int)*16:=by rw[VE];omega
 have hw2:=VE j;have hw3:=VE (j/256);have hbx:=au.new w #[vP b,vB d,vB s,.int .i16 j,vJ n,vJ hh,eR lab,eR nm] 138;have HO1:ah (Out (w.alloc (fL #[vP b,vB d,vB s,.int .i16 j,vJ n,vJ hh,eR lab,eR nm] 138)) v l):=HO.o.quiet aw;have HB1:ah (au (w.alloc (fL #[vP b,vB d,vB s,.int .i16 j,vJ n,vJ hh,eR lab,eR nm] 138)) b cs 146):=Tw.o.alloc _;have bU:ah (aa af w (w.alloc (fL #[vP b,vB d,vB s,.int .i16 j,vJ n,vJ hh,eR lab,eR nm] 138))):=aw;have G7:=aq hbx;generalize w.alloc (fL #[vP b,vB d,vB s,.int .i16 j,vJ n,vJ hh,eR lab,eR nm] 138)=W at *;clear c0 c2;have hnx:¬(v.ownBlock=eK w.heap.size):=HO1.o.aA G7.o (by decide);have hnb:¬(v.ownBlock=eK b):=HO1.o.aA HB1.o (by decide);obtain⟨x0,x1,x2,x3,x4,x5,x6,x7⟩:=Ext.jB (S:=λk=>v.ownBlock=eK k) G7.o hnx;have c0:∀g:Ext (λk=>v.ownBlock=eK k) W,g.w.cell? ⟨b,0,eL⟩=eK (vB code):=λg=>by rw[(HB1.o.ai g.m hnb).cell 0];exact h0
 have ne1:=Ext.ne (λk=>v.ownBlock=eK k) W;clear hbx;refine bQ [19,20] (λw'=>∃e:Ext (λk=>v.ownBlock=eK k) W,w'=e.w) (by kernel_rfl) (by kernel_rfl) (by kernel_rfl) ⟨⟨_,aN⟩,rfl⟩ ?_
 iterate 3 (refine aG rfl rfl rfl ?_;intro K hK;go_big_quiet_op;go_big_quiet_on)
 refine dL rfl rfl _ ⟨b,0,eL⟩ rfl rfl ?_;simp only[Act.put,sA9,sB9,sC9]
 iterate 15 (refine aG rfl rfl rfl ?_;intro K hK;go_big_quiet_op;go_big_quiet_on)
 refine aH rfl rfl ?_;intro K hK;go_big_op;refine hK _ _ rfl ⟨⟨_,aN.alloc _⟩,rfl⟩ ?_;clear hK K;refine aH rfl rfl ?_;intro K hK;refine fq _ (.tmp 5) (.tmp 24) 30 rfl 5 iU (vB 0) 1 1 underlying30 GY GZ G5 G6 rfl (by decide) v (eJ l) (tM l) rfl (HO1.o.quiet (aw.drew)) ⟨W.heap.size,0,eL⟩ 4 4 ([(code:Int),(d:Int)+16*s,j%256,j/256%256].map (Value.int .u8)) rfl rfl (λk u hu=>bH W _ _ _ rfl k u hu) (yn _) (by unfold jz;omega) (by omega) ?_;intro v2 w2 s2 m2 l2;have M2:=aq ((aw.drew).trans m2);have L2:=aq (λk hk=>zz (l2 k hk) (((aa.refl af W).alloc _).drew).size);have S2:=aq (Out.app (λx hx=>by simp at hx;rcases hx with rfl|rfl|rfl|rfl<;>omega) rfl s2);refine hK _ _ rfl ⟨⟨_,M2.o⟩,rfl⟩ ?_;clear hK K s2 m2 l2;simp only[Act.put,sA9,sB9,sC9]
 iterate 1 (refine aG rfl rfl rfl ?_;intro K hK;go_big_quiet_op;go_big_quiet_on)
 refine bZ ?_;simp only[Exit.then];have HB2:=aq (HB1.o.ai M2.o hnb);have Yr:=aq (G7.o.ai M2.o hnx);clear x0 x1 x2 x3 x4 x5 x6 x7 c0 ne1;obtain⟨x0,x1,x2,x3,x4,x5,x6,x7⟩:=Yr.o.jB;have hl2:eJ (l++b8 [(code:Int),(d:Int)+16*s,j%256,j/256%256])=eJ l+4:=by rw[al,lI];rfl
 have HL2:=aq hl2;clear hl2;have Cr:=aq (JP w2 v2 _ S2.o (by rw[HL2.o];omega) n hn);go_wp2_with fail;refine Cr.o.mono ?_;rintro e w3 ⟨v3,rfl,s3,m3,l3⟩
 have M3:ah (aa (λk=>v.ownBlock=eK k) W w3):=⟨m3.os.trans M2.o.os,m3.tape.trans M2.o.tape,m3.output.trans M2.o.output,ab M2.o.size m3.size,λk hk hS=>(m3.block k (bj hk M2.o.size) (λe=>by
  rcases L2.o k e with h|h
  ·exact hS h
  ·omega)).trans (M2.o.block k hk hS)⟩
 have L3:=aq (qi L2.o l3 M2.o.size);have S3:=aq s3;have HB3:=aq (HB1.o.ai M3.o hnb);have HX3:=aq (G7.o.ai M3.o hnx);have U3:ah (eJ (l++b8 [(code:Int),(d:Int)+16*s,j%256,j/256%256]++b8 (oG n))=eJ l+8):=by rw[ah,al,HL2.o,lI];rfl
 clear m3 l3 s3 x0 x1 x2 x3 x4 x5 x6 x7;obtain⟨x0,x1,x2,x3,x4,x5,x6,x7⟩:=HX3.o.jB;have c2:w3.cell? ⟨b,2,eL⟩=eK (vI slots):=by rw[HB3.o.cell 2];exact h2
 have hWs:=bU.o.size
 have HML:ah (∀(w':tW) (v':fa),aa (λk=>v.ownBlock=eK k) W w'->(∀k,v'.ownBlock=eK k->v.ownBlock=eK k\/W.heap.size<=k)->aa (λk=>v.ownBlock=eK k) w w'/\∀k,v'.ownBlock=eK k->v.ownBlock=eK k\/w.heap.size<=k) :=
  λw' v' m l=>⟨(bU.o.mono (λ_ _ e=>e.elim)).trans m,λk hk=>zz (l k hk) hWs⟩
 by_cases h1:slots=1
 ·subst h1;go_wp2_with fail;go_ret;refine⟨v3,rfl,?_,HML.o _ _ M3.o L3.o⟩;have:l++zA code d s j n hh 1=l++b8 [(code:Int),(d:Int)+16*s,j%256,j/256%256]++b8 (oG n):=by simp[zA]
  rw[this];exact S3.o
 ·have hd1:gh ((slots:Int)=1)=fj:=by simp;omega
  have hd2:((slots:Int)==1)=fj:=by simp;omega
  go_wp2_with fail;clear x0 x1 x2 x3 x4 x5 x6 x7 c2;obtain⟨x0,x1,x2,x3,x4,x5,x6,x7⟩:=Ext.jB (S:=λk=>v.ownBlock=eK k) G7.o hnx;have ne1:=Ext.ne (λk=>v.ownBlock=eK k) W;refine bQ [1,4] (λw'=>∃e:Ext (λk=>v.ownBlock=eK k) W,w'=e.w) (by kernel_rfl) (by kernel_rfl) (by kernel_rfl) ⟨⟨_,M3.o.drew⟩,rfl⟩ ?_
  iterate 1 (refine aG rfl rfl rfl ?_;intro K hK;go_big_quiet_op;go_big_quiet_on)
  refine aH rfl rfl ?_;intro K hK;refine xE _ (.tmp 37) _ 30 9 rfl 5 iU underlying30 underlying9 GY GZ G5 G6 v3 _ _ rfl (S3.o.quiet aN) (T [0,0,0,0]) rfl (by rw[U3.o];simp only[di,ba,b5];unfold jz;omega) (by rw[U3.o];simp only[di,ba,b5];omega) ?_;intro v4 w4 s4 m4 l4
  have M4:ah (aa (λk=>v.ownBlock=eK k) W w4):=⟨m4.os.trans M3.o.os,m4.tape.trans M3.o.tape,m4.output.trans M3.o.output,ab M3.o.size m4.size,λk hk hS=>(m4.block k (bj hk M3.o.size) (λe=>by
   rcases L3.o k e with h|h
   ·exact hS h
   ·omega)).trans (M3.o.block k hk hS)⟩
  have L4:=aq (qi (w1:=w3.drew) L3.o l4 M3.o.size);have S4:ah (Out w4 v4 (l++b8 [(code:Int),(d:Int)+16*s,j%256,j/256%256]++b8 (oG n)++[0,0,0,0])):=by rw[ah,Out,zx,al];exact s4
  have NQ:ah (eJ (l++b8 [(code:Int),(d:Int)+16*s,j%256,j/256%256]++b8 (oG n)++[0,0,0,0])=eJ l+12):=by rw[ah,al,U3.o];rfl
  refine hK _ _ rfl ⟨⟨_,M4.o⟩,rfl⟩ ?_;clear hK K s4 m4 l4;simp only[Act.put,sA9,sB9,sC9]
  iterate 2 (refine aG rfl rfl rfl ?_;intro K hK;go_big_quiet_op;go_big_quiet_on)
  refine aH rfl rfl ?_;intro K hK;go_big_op;refine(JP w4 v4 _ S4.o (by rw[NQ.o];omega) hh hhh).mono ?_;rintro e w5 ⟨v5,rfl,s5,m5,l5⟩
  have M5:ah (aa (λk=>v.ownBlock=eK k) W w5):=⟨m5.os.trans M4.o.os,m5.tape.trans M4.o.tape,m5.output.trans M4.o.output,ab M4.o.size m5.size,λk hk hS=>(m5.block k (bj hk M4.o.size) (λe=>by
   rcases L4.o k e with h|h
   ·exact hS h
   ·omega)).trans (M4.o.block k hk hS)⟩
  have L5:=aq (qi L4.o l5 M4.o.size);have S5:=aq s5;refine hK _ _ rfl ⟨⟨_,M5.o⟩,rfl⟩ ?_;clear hK K s5 m5 l5
  iterate 1 (refine aG rfl rfl rfl ?_;intro K hK;go_big_quiet_op;go_big_quiet_on)
  refine bZ ?_
  try simp only[Exit.then]
  go_wp2_with fail;go_ret;refine⟨v5,rfl,?_,HML.o _ _ M5.o L5.o⟩;have:l++zA code d s j n hh slots=l++b8 [(code:Int),(d:Int)+16*s,j%256,j/256%256]++b8 (oG n)++[0,0,0,0]++b8 (oG hh):=by simp[zA,h1]
  rw[this];exact S5.o
def xG(m:aB):tLB:=gD (T m.name)++b8 [(m.key:Int),(m.value:Int),(m.entries:Int)]
def pz(f:bz):tLB:=gD (T f.name)++b8 (lH (aU f.code))
def AF(x:PI):tLB:=zA x.o.code x.d x.s x.jump x.num x.high x.o.slots
def rV(f:bz):tLB:=f.code.flatMap AF
def kJ(kind:Nat)(ms:List aB)(fs:List bz):tLB :=
 [83,80,79,76]++b8 [(kind:Int),(eJ ms:Int)]++ms.flatMap xG++b8 [(eJ fs:Int)]++fs.flatMap pz++fs.flatMap rV
structure EI(w:tW)(v:fa)(l:tLB)(w':tW):Prop where
 lQ:Out w' v l
 md:aa af w w'
 own:∀k,v.ownBlock=eK k->w.heap.size<=k
theorem EI.step{w w1 w2:tW}{v v':fa}{l l':tLB}(h:EI w v l w1)(o:Out w2 v' l')(m:aa (λk=>v.ownBlock=eK k) w1 w2)(hv:∀k,v'.ownBlock=eK k->v.ownBlock=eK k\/w1.heap.size<=k):EI w v' l' w2 :=
 ⟨o,h.md.step m (λi hi e=>by have:=h.own i e;omega),λk hk=>by
  rcases hv k hk with e|e
  ·exact h.own k e
  ·have:=h.md.size;omega⟩
theorem EI.quiet{w w1 w2:tW}{v:fa}{l:tLB}(h:EI w v l w1)(m:aa af w1 w2):EI w v l w2 :=
 ⟨h.lQ.quiet m,h.md.trans m,h.own⟩
structure YB(w:tW)(tv:fa)(bs:tLN)(vM vF:fa)(ms:List aB)(fs:List bz)(vs:tLV):Prop where
 maps:Sl w 100 4 vM (eJ ms) (ms.flatMap aB.cells)
 len:eJ vs=eJ fs
 rows:Sl w 96 2 vF (eJ fs) (((fs.map (·.name)).zip vs).flatMap nW)
 code:∀i (_:i<eJ fs) (_:i<eJ vs),Sl w 138 8 vs[i] (eJ fs[i].code) (fH bs fs[i].code)
 ops:aM 0 w tv bs az
theorem YB.quiet{w w':tW}{tv:fa}{bs:tLN}{vM vF:fa}{ms:List aB}{fs:List bz}{vs:tLV}(h:YB w tv bs vM vF ms fs vs)(m:aa af w w'):YB w' tv bs vM vF ms fs vs :=
 ⟨h.maps.ai m (λ_ _=>id),h.len,h.rows.ai m (λ_ _=>id),λi a b=>(h.code i a b).ai m (λ_ _=>id),h.ops.ai m⟩
theorem YB.VF{w:tW}{tv:fa}{bs:tLN}{oF:Option Addr}{cF:Nat}{vM:fa}{ms:List aB}{fs:List bz}{vs:tLV}(h:YB w tv bs vM (eS oF (eJ fs) cF) ms fs vs)(k:Nat)(hk:k<eJ fs)(hv':k<eJ vs):∃g,oF=eK ⟨g,0,eL⟩/\w.cell? ⟨g,k*2,eL⟩=eK (eR (T fs[k].name))/\w.cell? ⟨g,k*2+1,eL⟩=eK vs[k]:=by
 obtain⟨o',cap',hv,h2⟩:=h.rows.view;cases hv;obtain⟨g,cs,rfl,hb,ht,_⟩:=h2 (by omega);have hz:k<eJ ((fs.map (·.name)).zip vs):=by simp only[List.length_zip,List.length_map];omega
 have key:∀c,c<2->w.cell? ⟨g,k*2+c,eL⟩=(nW (fs[k].name,vs[k]))[c]?:=λc hc=>by rw[aV hb ht (k*2+c) (by omega)];have:=flat_get nW 2 (λ_=>rfl) ((fs.map (·.name)).zip vs) k c hz hc;rw[this,cH,List.getElem_map]
 exact⟨g,rfl,key 0 (by omega),key 1 (by omega)⟩
theorem Ri(code d s:Nat)(j n h:Int)(slots:Nat):eJ (zA code d s j n h slots)<=16:=by unfold zA;split<;>simp[b8,oG]
theorem yo{P:lj}(w:tW){ops:Array iz}{rest:List iz}{o:iz}{a:Act}{Q:Exit->Act->tW->Prop}(hgd:o.guard=eL)(s x:pd)(t:ju)(ho:o.op=.call {callee:=.builtin .append,args:=#[s,x],argTypes:=#[t,t]})(e:ju) (i:pN) (z:fa) (size bytes:Nat) (ht:P.underlying t=eK (.slice e)) (hi:P.info? e=eK i) (hz:i.zero=eK z)(hsize:i.size=size) (hby:i.bytes=bytes) (hzs:z.cells.size=size) (hsz:0<size)(b:Addr) (n cap:Nat) (olds:tLV) (hs:a.eval s=eS (eK b) n cap) (hlo:eJ olds=n*size) (holds:∀j u,olds[j]?=eK u->w.cell? (b.add j)=eK u)(ad:Addr) (m c:Nat) (news:tLV) (hx:a.eval x=eS (eK ad) m c) (hl:eJ news=m*size) (hnews:∀j u,news[j]?=eK u->w.cell? (ad.add j)=eK u)(hg:cap<n+m) (h63:n+m<=jz) (hbytes:(n+m)*bytes<=140737488355328)(h:∀v' w',Sl w' e size v' (n+m) (olds++news)->aa af w w'->(∀k,v'.ownBlock=eK k->w.heap.size<=k)->n9 P ops Q rest (a.put o.dst v') w'):n9 P ops Q (o::rest) a w:=by
 refine pP hgd λ_ hK=>?_;obtain⟨v',w',hr,h2,h3⟩:=run_append_arg_grows (P:=P) w t o.type e i z size bytes ht hi hz hsize hby hzs hsz b n cap olds hlo holds ad m c news hl hnews hg h63 hbytes;unfold Oper.wp execOp;simp only[ho,resolve,invoke,builtin,Sem.run_bind,Sem.run_pure,Result.andThen_ok,cI,cD,List.map_nil,hs,hx,hr];refine hK _ _ (h v' w' ⟨h2.1,?_⟩ ⟨h3.os,h3.tape,h3.output,h3.size,λk hk _=>h3.block k hk (by simp)⟩ (λk hk=>(World.ownsRow.lt h2 k hk).1));rcases h2.2 with h |⟨g,cp,cur,h4,_,h5⟩
 ·exact .inl h
 ·exact .inr ⟨g,cp,cur,h4,ar _,h5⟩
theorem VG(w:tW)(o o2:Obj)(C:tAV)(e:ju)(m:Nat×Nat)(j:Nat):(((w.alloc o).alloc (fL C e m)).alloc o2).cell? ⟨w.heap.size+1,j,eL⟩=C[j]?:=by
 have h:(((w.alloc o).alloc (fL C e m)).alloc o2).heap[w.heap.size+1]?=eK (fL C e m):=by
  show(((w.heap.push o).push (fL C e m)).push o2)[w.heap.size+1]?=_
  rw[Array.getElem?_push,iN9 (by simp),Array.getElem?_push,iP9 (by simp)]
 unfold World.cell?;simp only[h];rfl
structure abP(w W:tW)(B:Nat)(cs:tAV)(t:ju)(a b:Nat)(u:fa)(l:tLB)(L:Nat->Bool)(w':tW):Prop where
 md:aa af w w'
 bx:au w' B cs t
 sz:W.heap.size<=w'.heap.size
 ei:L a=fj->L b=fj->EI w u l w'
structure G8(w:tW)(B:Nat)(cs:tAV)(t:ju)(a b:Nat)(u:fa)(i:Nat)(w1 w2:tW):Prop where
 q:i≠a->i≠b->aa af w1 w2
 na:i=a->aa (λk=>u.ownBlock=eK k) w1 w2
 nb:i=b->aa af w w2/\au w2 B cs t/\w1.heap.size<=w2.heap.size
theorem G8.quiet{w w1 w2:tW}{B:Nat}{cs:tAV}{t:ju}{a b i:Nat}{u:fa}(m:aa af w1 w2)(ha:i≠a)(hb:i≠b):G8 w B cs t a b u i w1 w2 :=
 ⟨λ_ _=>m,λe=>absurd e ha,λe=>absurd e hb⟩
theorem G8.keep{w W:tW}{B:Nat}{cs:tAV}{t:ju}{a b:Nat}{u:fa}{l:tLB}{md:Region.Mode}{ops:Array iz}(hu:∀k,u.ownBlock=eK k->w.heap.size<=k)(hB:u.ownBlock≠eK B)(hab:a≠b):∀(i:Nat) (L:Nat->Bool) w1 w2,rJ md ops i L->abP w W B cs t a b u l L w1->G8 w B cs t a b u i w1 w2->abP w W B cs t a b u l (iJ L i) w2:=by
 intro i L w1 w2 _ c n;by_cases ea:i=a
 ·have m:=n.na ea;subst ea;exact⟨c.md.step m (λk hk e=>by have:=hu k e;omega),c.bx.ai m hB,ab c.sz m.size,λh=>by simp[iJ]at h⟩
 ·by_cases eb:i=b
  ·obtain⟨m,bx,sz⟩:=n.nb eb;subst eb;exact⟨m,bx,ab c.sz sz,λ_ h=>by simp[iJ]at h⟩
  ·have m:=n.q ea eb;refine⟨c.md.trans m,c.bx.ai m id,ab c.sz m.size,λh1 h2=>(c.ei ?_ ?_).quiet m⟩
   ·simpa [iJ,Ne.symm ea]using h1
   ·simpa [iJ,Ne.symm eb]using h2
def Z4(w:tW)(b:Nat)(l:tLB)(L:Nat->Bool)(v:fa)(w':tW):Prop:=L b=fj->EI w v l w'
def Z5(W:tW)(b n:Nat)(cs:tAV)(L:Nat->Bool)(v:fa)(w':tW):Prop:=L b=fj->∃g,v=eS (eK ⟨g,0,eL⟩) n n/\W.heap.size<=g/\au w' g cs 5
def VH(w:tW)(l:tLB)(_:Nat->Bool)(v:fa)(w':tW):Prop:=EI w v l w'
section
variable {w W : World} {B : Nat} {cs : Array Value} {t : ju} {a b : Nat} {u : fa} {l : List UInt8} {md : Region.Mode} {ops : Array iz}
theorem Z6(hab:a≠b):∀(i:Nat) (L:Nat->Bool) v w1 w2,rJ md ops i L->L a=fR->G8 w B cs t a b u i w1 w2->Z4 w b l L v w1->Z4 w b l (iJ L i) v w2:=by
 intro i L v w1 w2 hn ha n h hb;have eb:i≠b:=λe=>by subst e;simp[iJ]at hb
 have ea:i≠a:=λe=>by subst e;rw[hn.1]at ha;cases ha
 have hb':L b=fj:=by simpa [iJ,Ne.symm eb]using hb
 exact(h hb').quiet (n.q ea eb)
theorem Z7{c n:Nat}{ds:tAV}(hu:∀k,u.ownBlock=eK k->k<W.heap.size):∀(i:Nat) (L:Nat->Bool) v w1 w2,rJ md ops i L->L c=fR->G8 w B cs t a b u i w1 w2->Z5 W b n ds L v w1->Z5 W b n ds (iJ L i) v w2:=by
 intro i L v w1 w2 _ _ hn h hb;have eb:i≠b:=λe=>by subst e;simp[iJ]at hb
 have hb':L b=fj:=by simpa [iJ,Ne.symm eb]using hb
 obtain⟨g,h1,h2,h3⟩:=h hb';by_cases ea:i=a
 ·exact⟨g,h1,h2,h3.ai (hn.na ea) (λe=>by have:=hu g e;omega)⟩
 ·exact⟨g,h1,h2,h3.ai (hn.q ea eb) id⟩
theorem Oc{c:Nat}(h1:∃o,ops[c]?=eK o/\(eU md o).contains a=fR/\(c=b\/(eU md o).contains b=fR)):∀(i:Nat) (L:Nat->Bool) v w1 w2,rJ md ops i L->L c=fR->G8 w B cs t a b u i w1 w2->VH w l L v w1->VH w l (iJ L i) v w2:=by
 intro i L v w1 w2 hn hc n h;obtain⟨o,ho,da,db⟩:=h1;have ea:i≠a:=λe=>by subst e;have:=hn.2 c o ho da;rw[hc]at this;cases this
 have eb:i≠b:=λe=>by
  subst e;rcases db with e|e
  ·subst e;have:=hn.1;rw[hc]at this;cases this
  ·have:=hn.2 c o ho e;rw[hc]at this;cases this
 exact EI.quiet h (n.q ea eb)
end
theorem Z9:∀k,k<88->(az[k]?.getD zj).code<=255:=by decide +kernel
structure EOk(ms:List aB)(fs:List bz):Prop where
 m:eJ ms<=255
 f:eJ fs<=100
 mn:∀m∈ms,eJ m.name<=255/\m.key<=255/\m.value<=255/\m.entries<=255
 fn:∀f∈fs,eJ f.name<=255/\f.code.length<=200/\∀x∈f.code,gm x
